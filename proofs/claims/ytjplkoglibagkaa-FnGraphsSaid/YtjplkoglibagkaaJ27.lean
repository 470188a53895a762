/-
  SameGraph on both sides.
-/
import Derived.Test.YtjplkoglibagkaaJ19
import Derived.Test.YtjplkoglibagkaaJ12

namespace Go.Proofs.Ytjplkoglibagkaa.hexes
open Go.RowKit

set_option maxRecDepth 100000 in
theorem l08Is_same (n : Nat) (zs ys : List Int) (hz : zs.length = n) (hy : ys.length = n) (A1 A2 : Option Addr) (c1 c2 : Nat) (w : World) (h1 : Ints w A1 zs) (h2 : Ints w A2 ys) (hn : n ≤ 4194304) :
    Calls Try.prog 64 #[.slice A1 n c1, .slice A2 n c2] w fun e w' => e = .returned (.bool (decide (zs = ys))) ∧ Below w.heap.size w w' := by
  have H1 := Lib.hid h1
  have H2 := Lib.hid h2
  have HZ := Lib.hid hz
  have HY := Lib.hid hy
  clear h1 h2 hz hy
  go_enter Try.func64, Try.ntmps64
  go_wp2
  go_loopw [5] (fun i wr => ∃ k d : Nat, k ≤ n ∧ i = .int .i64 k ∧ zs.take k = ys.take k ∧ wr = w.drewN d) (fun i _ => n - (intOf i).toNat)
  case atStart => exact ⟨0, 0, Nat.zero_le _, rfl, rfl, rfl⟩
  case round =>
    obtain ⟨k, d, hk, rfl, ht, rfl⟩ := hrel
    have HT := Lib.hid ht
    clear ht
    by_cases hlt : k < n
    · have l1 : k < zs.length := by rw [HZ.out]; exact hlt
      have l2 : k < ys.length := by rw [HY.out]; exact hlt
      obtain ⟨b1, o1, p, rfl, x1, e1⟩ := H1.out.at l1
      obtain ⟨b2, o2, q, rfl, x2, e2⟩ := H2.out.at l2
      have X1 := Lib.hid x1
      have X2 := Lib.hid x2
      have i0 : (0 : Int) ≤ (k : Int) := by omega
      have i1 : (k : Int) < (n : Int) := by omega
      clear x1 x2
      by_cases he : p = q
      · have hne : (p != q) = false := by simpa using he
        have HT2 := Lib.hid (take_step_is l1 l2 HT.out ((X1.out.trans he).trans X2.out.symm))
        clear HT X1 X2 l1 l2 he
        go_wp2_with fail
        go_quiet (fail)
        go_wp2
        go_roundw
        case rel => exact ⟨k + 1, _, by omega, by go_num, HT2.out, rfl⟩
        case measure => simp [intOf]; omega
      · have hne : (p != q) = true := by simpa using he
        have hdz : decide (zs = ys) = false := by
          simp only [decide_eq_false_iff_not]
          rintro rfl
          exact he (X1.out.symm.trans X2.out)
        have HN := Lib.hid hdz
        clear HT X1 X2 l1 l2 he hdz
        go_wp2_with fail
        go_quiet (fail)
        go_wp2
        go_ret
        exact ⟨congrArg (fun b => Ending.returned (Value.bool b)) HN.out.symm, belowN (belowN (Below.refl _ _) _) _⟩
    · have hkn : k = n := by omega
      have heq : zs = ys := by
        have h3 := HT.out
        rw [List.take_of_length_le (by rw [HZ.out]; omega), List.take_of_length_le (by rw [HY.out]; omega)] at h3
        exact h3
      have hd : decide (zs = ys) = true := by simp [heq]
      have HD := Lib.hid hd
      clear heq hd HT
      go_wp2
      go_ret
      exact ⟨congrArg (fun b => Ending.returned (Value.bool b)) HD.out.symm, belowN (Below.refl _ _) _⟩

theorem l08Is_any (n m : Nat) (zs ys : List Int) (hz : zs.length = n) (hy : ys.length = m) (A1 A2 : Option Addr) (c1 c2 : Nat) (w : World) (h1 : Ints w A1 zs) (h2 : Ints w A2 ys) (hn : n ≤ 4194304) :
    Calls Try.prog 64 #[.slice A1 n c1, .slice A2 m c2] w fun e w' => e = .returned (.bool (decide (zs = ys))) ∧ Below w.heap.size w w' := by
  by_cases h : n = m
  · subst h
    exact l08Is_same n zs ys hz hy A1 A2 c1 c2 w h1 h2 hn
  · have hd : decide (zs = ys) = false := by
      simp only [decide_eq_false_iff_not]
      rintro rfl
      omega
    rw [hd]
    have hc : ((n : Int) != (m : Int)) = true := by simp; omega
    clear hz hy h1 h2 hd
    go_enter Try.func64, Try.ntmps64
    go_wp2
    go_ret
    exact ⟨rfl, Below.refl _ _⟩

set_option maxRecDepth 100000 in
theorem equalIs_same (n : Nat) (zs ys : List Int) (hz : zs.length = n) (hy : ys.length = n) (A1 A2 : Option Addr) (c1 c2 : Nat) (w : World) (h1 : Ints w A1 zs) (h2 : Ints w A2 ys) (hn : n ≤ 4194304) :
    Calls Try.prog 73 #[.slice A1 n c1, .slice A2 n c2] w fun e w' => e = .returned (.bool (decide (zs = ys))) ∧ Below w.heap.size w w' := by
  have H1 := Lib.hid h1
  have H2 := Lib.hid h2
  have HZ := Lib.hid hz
  have HY := Lib.hid hy
  clear h1 h2 hz hy
  go_enter Try.func73, Try.ntmps73
  go_wp2
  go_loopw [13] (fun i wr => ∃ k d : Nat, k ≤ n ∧ i = .int .i64 k ∧ zs.take k = ys.take k ∧ wr = w.drewN d) (fun i _ => n - (intOf i).toNat)
  case atStart => exact ⟨0, 0, Nat.zero_le _, rfl, rfl, rfl⟩
  case round =>
    obtain ⟨k, d, hk, rfl, ht, rfl⟩ := hrel
    have HT := Lib.hid ht
    clear ht
    by_cases hlt : k < n
    · have l1 : k < zs.length := by rw [HZ.out]; exact hlt
      have l2 : k < ys.length := by rw [HY.out]; exact hlt
      obtain ⟨b1, o1, p, rfl, x1, e1⟩ := H1.out.at l1
      obtain ⟨b2, o2, q, rfl, x2, e2⟩ := H2.out.at l2
      have X1 := Lib.hid x1
      have X2 := Lib.hid x2
      have i0 : (0 : Int) ≤ (k : Int) := by omega
      have i1 : (k : Int) < (n : Int) := by omega
      clear x1 x2
      by_cases he : p = q
      · have hne : (p != q) = false := by simpa using he
        have HT2 := Lib.hid (take_step_is l1 l2 HT.out ((X1.out.trans he).trans X2.out.symm))
        clear HT X1 X2 l1 l2 he
        go_wp2_with fail
        go_quiet (fail)
        go_wp2
        go_roundw
        case rel => exact ⟨k + 1, _, by omega, by go_num, HT2.out, rfl⟩
        case measure => simp [intOf]; omega
      · have hne : (p != q) = true := by simpa using he
        have hdz : decide (zs = ys) = false := by
          simp only [decide_eq_false_iff_not]
          rintro rfl
          exact he (X1.out.symm.trans X2.out)
        have HN := Lib.hid hdz
        clear HT X1 X2 l1 l2 he hdz
        go_wp2_with fail
        go_quiet (fail)
        go_wp2
        go_ret
        exact ⟨congrArg (fun b => Ending.returned (Value.bool b)) HN.out.symm, belowN (belowN (Below.refl _ _) _) _⟩
    · have hkn : k = n := by omega
      have heq : zs = ys := by
        have h3 := HT.out
        rw [List.take_of_length_le (by rw [HZ.out]; omega), List.take_of_length_le (by rw [HY.out]; omega)] at h3
        exact h3
      have hd : decide (zs = ys) = true := by simp [heq]
      have HD := Lib.hid hd
      clear heq hd HT
      go_wp2
      go_ret
      exact ⟨congrArg (fun b => Ending.returned (Value.bool b)) HD.out.symm, belowN (Below.refl _ _) _⟩

theorem equalIs_any (n m : Nat) (zs ys : List Int) (hz : zs.length = n) (hy : ys.length = m) (A1 A2 : Option Addr) (c1 c2 : Nat) (w : World) (h1 : Ints w A1 zs) (h2 : Ints w A2 ys) (hn : n ≤ 4194304) :
    Calls Try.prog 73 #[.slice A1 n c1, .slice A2 m c2] w fun e w' => e = .returned (.bool (decide (zs = ys))) ∧ Below w.heap.size w w' := by
  by_cases h : n = m
  · subst h
    exact equalIs_same n zs ys hz hy A1 A2 c1 c2 w h1 h2 hn
  · have hd : decide (zs = ys) = false := by
      simp only [decide_eq_false_iff_not]
      rintro rfl
      omega
    rw [hd]
    have hc : ((n : Int) != (m : Int)) = true := by simp; omega
    clear hz hy h1 h2 hd
    go_enter Try.func73, Try.ntmps73
    go_wp2
    go_ret
    exact ⟨rfl, Below.refl _ _⟩

theorem l08Is_is {n m : Nat} {zs ys : List Int} (hz : zs.length = n) (hy : ys.length = m) {r : Bool} (hr : decide (zs = ys) = r) (A1 A2 : Option Addr) (c1 c2 : Nat) (w : World) (h1 : Ints w A1 zs) (h2 : Ints w A2 ys) (hn : n ≤ 4194304) :
    Calls Try.prog 64 #[.slice A1 n c1, .slice A2 m c2] w fun e w' => e = .returned (.bool r) ∧ Below w.heap.size w w' := by
  rw [← hr]
  exact l08Is_any n m zs ys hz hy A1 A2 c1 c2 w h1 h2 hn
theorem equalIs_is {n m : Nat} {zs ys : List Int} (hz : zs.length = n) (hy : ys.length = m) {r : Bool} (hr : decide (zs = ys) = r) (A1 A2 : Option Addr) (c1 c2 : Nat) (w : World) (h1 : Ints w A1 zs) (h2 : Ints w A2 ys) (hn : n ≤ 4194304) :
    Calls Try.prog 73 #[.slice A1 n c1, .slice A2 m c2] w fun e w' => e = .returned (.bool r) ∧ Below w.heap.size w w' := by
  rw [← hr]
  exact equalIs_any n m zs ys hz hy A1 A2 c1 c2 w h1 h2 hn

def sameN (k a b : Int) (zs : List Int) (k' a' b' : Int) (zs' : List Int) : Bool := (k == k') && (a == a') && (b == b') && decide (zs = zs')
theorem sameN_iff {k a b : Int} {zs : List Int} {k' a' b' : Int} {zs' : List Int} : sameN k a b zs k' a' b' zs' = true ↔ ((k, a, b, zs) : Nd) = (k', a', b', zs') := by
  unfold sameN
  simp [and_assoc]

set_option maxRecDepth 100000 in
set_option maxHeartbeats 2000000 in
theorem same_is {k a b k' a' b' : Int} {zs zs' : List Int} {n n' : Nat} (hz : zs.length = n) (hz' : zs'.length = n') {r : Bool} (hr : sameN k a b zs k' a' b' zs' = r) (A A' : Option Addr) (c c' : Nat) (w : World) (h1 : Ints w A zs) (h2 : Ints w A' zs') (hn : n ≤ 4194304) :
    Calls Try.prog 58 #[.agg #[.int .i64 k, .int .i64 a, .int .i64 b, .slice A n c], .agg #[.int .i64 k', .int .i64 a', .int .i64 b', .slice A' n' c']] w fun e w' => e = .returned (.bool r) ∧ Below w.heap.size w w' := by
  obtain ⟨W, hW⟩ : ∃ W, (w.alloc (.cells #[.int .i64 k, .int .i64 a, .int .i64 b, .slice A n c] 37)).alloc (.cells #[.int .i64 k', .int .i64 a', .int .i64 b', .slice A' n' c'] 37) = W := ⟨_, rfl⟩
  have BW := Lib.hid (show Below w.heap.size w W by rw [← hW]; exact (((Below.refl w.heap.size w).alloc (Nat.le_refl _) _).alloc (by simp) _))
  have K1 := Lib.hid (show Blk W w.heap.size 37 #[.int .i64 k, .int .i64 a, .int .i64 b, .slice A n c] by rw [← hW]; exact (Below.heap_alloc _ _ _ (by simp)).trans (Blk.new _ _ _))
  have K2 := Lib.hid (show Blk W (w.heap.size + 1) 37 #[.int .i64 k', .int .i64 a', .int .i64 b', .slice A' n' c'] by rw [← hW]; exact (show w.heap.size + 1 = (w.alloc _).heap.size by simp) ▸ Blk.new _ _ _)
  have x0 : W.cell? ⟨w.heap.size, 0, none⟩ = some (.int .i64 k) := by rw [K1.out.cell]; rfl
  have x1 : W.cell? ⟨w.heap.size, 1, none⟩ = some (.int .i64 a) := by rw [K1.out.cell]; rfl
  have x2 : W.cell? ⟨w.heap.size, 2, none⟩ = some (.int .i64 b) := by rw [K1.out.cell]; rfl
  have x3 : W.cell? ⟨w.heap.size, 3, none⟩ = some (.slice A n c) := by rw [K1.out.cell]; rfl
  have y0 : W.cell? ⟨w.heap.size + 1, 0, none⟩ = some (.int .i64 k') := by rw [K2.out.cell]; rfl
  have y1 : W.cell? ⟨w.heap.size + 1, 1, none⟩ = some (.int .i64 a') := by rw [K2.out.cell]; rfl
  have y2 : W.cell? ⟨w.heap.size + 1, 2, none⟩ = some (.int .i64 b') := by rw [K2.out.cell]; rfl
  have y3 : W.cell? ⟨w.heap.size + 1, 3, none⟩ = some (.slice A' n' c') := by rw [K2.out.cell]; rfl
  obtain ⟨s, hs⟩ : ∃ s, decide (zs = zs') = s := ⟨_, rfl⟩
  have E := Lib.hid (equalIs_is hz hz' hs A A' c c' W (h1.below BW.out) (h2.below BW.out) hn)
  unfold sameN at hr
  rw [hs] at hr
  have HR := Lib.hid hr
  clear h1 h2 hz hz' hr hs
  cases d0 : (k == k') with
  | false =>
    have HE := Lib.hid (show r = false by rw [← HR.out, d0]; rfl)
    go_enter Try.func58, Try.ntmps58
    go_wp2
    go_ret
    exact ⟨congrArg (fun b => Ending.returned (Value.bool b)) HE.out.symm, BW.out⟩
  | true =>
  cases d1 : (a == a') with
  | false =>
    have HE := Lib.hid (show r = false by rw [← HR.out, d0, d1]; rfl)
    go_enter Try.func58, Try.ntmps58
    go_wp2
    go_ret
    exact ⟨congrArg (fun b => Ending.returned (Value.bool b)) HE.out.symm, BW.out⟩
  | true =>
  cases d2 : (b == b') with
  | false =>
    have HE := Lib.hid (show r = false by rw [← HR.out, d0, d1, d2]; rfl)
    go_enter Try.func58, Try.ntmps58
    go_wp2
    go_ret
    exact ⟨congrArg (fun b => Ending.returned (Value.bool b)) HE.out.symm, BW.out⟩
  | true =>
    have HE := Lib.hid (show r = s by rw [← HR.out, d0, d1, d2]; rfl)
    go_enter Try.func58, Try.ntmps58
    go_wp2_with fail
    refine E.out.mono ?_
    rintro e w1 ⟨rfl, hb⟩
    have B1 := Lib.hid (below_chain BW.out hb)
    clear hb x0 x1 x2 x3 y0 y1 y2 y3 hW
    go_wp2
    go_ret
    exact ⟨congrArg (fun b => Ending.returned (Value.bool b)) HE.out.symm, B1.out⟩

end Go.Proofs.Ytjplkoglibagkaa.hexes

