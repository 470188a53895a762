/-
  The law's own comparisons of nodes and graphs.
-/
import Derived.Test.YtjplkoglibagkaaJ28

namespace Go.Proofs.Ytjplkoglibagkaa.hexes
open Go.RowKit

set_option maxRecDepth 100000 in
theorem lawIs_same (n : Nat) (zs ys : List Int) (hz : zs.length = n) (hy : ys.length = n) (A1 A2 : Option Addr) (c1 c2 : Nat) (w : World) (h1 : Ints w A1 zs) (h2 : Ints w A2 ys) (hn : n ≤ 4194304) :
    Calls Try.prog 14 #[.slice A1 n c1, .slice A2 n c2] w fun e w' => e = .returned (.bool (decide (zs = ys))) ∧ Below w.heap.size w w' := by
  have H1 := Lib.hid h1
  have H2 := Lib.hid h2
  have HZ := Lib.hid hz
  have HY := Lib.hid hy
  clear h1 h2 hz hy
  go_enter Try.func14, Try.ntmps14
  go_wp2
  go_loopw [5] (fun i wr => ∃ k d : Nat, k ≤ n ∧ i = .int .i64 k ∧ zs.take k = ys.take k ∧ wr = w.drewN d) (fun i _ => n - (intOf i).toNat)
  case atStart => exact ⟨0, 0, Nat.zero_le _, rfl, rfl, rfl⟩
  case round =>
    obtain ⟨k, d, hk, rfl, ht, rfl⟩ := hrel
    have HT := Lib.hid ht
    clear ht
    by_cases hlt : k < n
    · have l1 : k < zs.length := by rw [HZ.out]; exact hlt
      have l2 : k < ys.length := by rw [HY.out]; exact hlt
      obtain ⟨b1, o1, p, rfl, x1, e1⟩ := H1.out.at l1
      obtain ⟨b2, o2, q, rfl, x2, e2⟩ := H2.out.at l2
      have X1 := Lib.hid x1
      have X2 := Lib.hid x2
      have i0 : (0 : Int) ≤ (k : Int) := by omega
      have i1 : (k : Int) < (n : Int) := by omega
      clear x1 x2
      by_cases he : p = q
      · have hne : (p != q) = false := by simpa using he
        have HT2 := Lib.hid (take_step_is l1 l2 HT.out ((X1.out.trans he).trans X2.out.symm))
        clear HT X1 X2 l1 l2 he
        go_wp2_with fail
        go_quiet (fail)
        go_wp2
        go_roundw
        case rel => exact ⟨k + 1, _, by omega, by go_num, HT2.out, rfl⟩
        case measure => simp [intOf]; omega
      · have hne : (p != q) = true := by simpa using he
        have hdz : decide (zs = ys) = false := by
          simp only [decide_eq_false_iff_not]
          rintro rfl
          exact he (X1.out.symm.trans X2.out)
        have HN := Lib.hid hdz
        clear HT X1 X2 l1 l2 he hdz
        go_wp2_with fail
        go_quiet (fail)
        go_wp2
        go_ret
        exact ⟨congrArg (fun b => Ending.returned (Value.bool b)) HN.out.symm, belowN (belowN (Below.refl _ _) _) _⟩
    · have hkn : k = n := by omega
      have heq : zs = ys := by
        have h3 := HT.out
        rw [List.take_of_length_le (by rw [HZ.out]; omega), List.take_of_length_le (by rw [HY.out]; omega)] at h3
        exact h3
      have hd : decide (zs = ys) = true := by simp [heq]
      have HD := Lib.hid hd
      clear heq hd HT
      go_wp2
      go_ret
      exact ⟨congrArg (fun b => Ending.returned (Value.bool b)) HD.out.symm, belowN (Below.refl _ _) _⟩

theorem lawIs_any (n m : Nat) (zs ys : List Int) (hz : zs.length = n) (hy : ys.length = m) (A1 A2 : Option Addr) (c1 c2 : Nat) (w : World) (h1 : Ints w A1 zs) (h2 : Ints w A2 ys) (hn : n ≤ 4194304) :
    Calls Try.prog 14 #[.slice A1 n c1, .slice A2 m c2] w fun e w' => e = .returned (.bool (decide (zs = ys))) ∧ Below w.heap.size w w' := by
  by_cases h : n = m
  · subst h
    exact lawIs_same n zs ys hz hy A1 A2 c1 c2 w h1 h2 hn
  · have hd : decide (zs = ys) = false := by
      simp only [decide_eq_false_iff_not]
      rintro rfl
      omega
    rw [hd]
    have hc : ((n : Int) != (m : Int)) = true := by simp; omega
    clear hz hy h1 h2 hd
    go_enter Try.func14, Try.ntmps14
    go_wp2
    go_ret
    exact ⟨rfl, Below.refl _ _⟩

theorem lawIs_is {n m : Nat} {zs ys : List Int} (hz : zs.length = n) (hy : ys.length = m) {r : Bool} (hr : decide (zs = ys) = r) (A1 A2 : Option Addr) (c1 c2 : Nat) (w : World) (h1 : Ints w A1 zs) (h2 : Ints w A2 ys) (hn : n ≤ 4194304) :
    Calls Try.prog 14 #[.slice A1 n c1, .slice A2 m c2] w fun e w' => e = .returned (.bool r) ∧ Below w.heap.size w w' := by
  rw [← hr]
  exact lawIs_any n m zs ys hz hy A1 A2 c1 c2 w h1 h2 hn
theorem lawIs_row {w : World} {lo1 hi1 lo2 hi2 n c1 c2 : Nat} {A1 A2 : Option Addr} {zs : List Int} (h1 : Row w lo1 hi1 3 1 A1 n c1 (isCells zs)) (h2 : Row w lo2 hi2 3 1 A2 n c2 (isCells zs)) (hn : n ≤ 4194304) :
    Calls Try.prog 14 #[.slice A1 n c1, .slice A2 n c2] w fun e w' => e = .returned (.bool true) ∧ Below w.heap.size w w' :=
  lawIs_is h1.isLen h2.isLen (by simp) A1 A2 c1 c2 w h1.is h2.is hn

set_option maxRecDepth 100000 in
set_option maxHeartbeats 2000000 in
theorem lawNd_is {k a b k' a' b' : Int} {zs zs' : List Int} {n n' : Nat} (hz : zs.length = n) (hz' : zs'.length = n') {r : Bool} (hr : sameN k a b zs k' a' b' zs' = r) (A A' : Option Addr) (c c' : Nat) (w : World) (h1 : Ints w A zs) (h2 : Ints w A' zs') (hn : n ≤ 4194304) :
    Calls Try.prog 26 #[.agg #[.int .i64 k, .int .i64 a, .int .i64 b, .slice A n c], .agg #[.int .i64 k', .int .i64 a', .int .i64 b', .slice A' n' c']] w fun e w' => e = .returned (.bool r) ∧ Below w.heap.size w w' := by
  obtain ⟨W, hW⟩ : ∃ W, (w.alloc (.cells #[.int .i64 k, .int .i64 a, .int .i64 b, .slice A n c] 37)).alloc (.cells #[.int .i64 k', .int .i64 a', .int .i64 b', .slice A' n' c'] 37) = W := ⟨_, rfl⟩
  have BW := Lib.hid (show Below w.heap.size w W by rw [← hW]; exact (((Below.refl w.heap.size w).alloc (Nat.le_refl _) _).alloc (by simp) _))
  have K1 := Lib.hid (show Blk W w.heap.size 37 #[.int .i64 k, .int .i64 a, .int .i64 b, .slice A n c] by rw [← hW]; exact (Below.heap_alloc _ _ _ (by simp)).trans (Blk.new _ _ _))
  have K2 := Lib.hid (show Blk W (w.heap.size + 1) 37 #[.int .i64 k', .int .i64 a', .int .i64 b', .slice A' n' c'] by rw [← hW]; exact (show w.heap.size + 1 = (w.alloc _).heap.size by simp) ▸ Blk.new _ _ _)
  have x0 : W.cell? ⟨w.heap.size, 0, none⟩ = some (.int .i64 k) := by rw [K1.out.cell]; rfl
  have x1 : W.cell? ⟨w.heap.size, 1, none⟩ = some (.int .i64 a) := by rw [K1.out.cell]; rfl
  have x2 : W.cell? ⟨w.heap.size, 2, none⟩ = some (.int .i64 b) := by rw [K1.out.cell]; rfl
  have x3 : W.cell? ⟨w.heap.size, 3, none⟩ = some (.slice A n c) := by rw [K1.out.cell]; rfl
  have y0 : W.cell? ⟨w.heap.size + 1, 0, none⟩ = some (.int .i64 k') := by rw [K2.out.cell]; rfl
  have y1 : W.cell? ⟨w.heap.size + 1, 1, none⟩ = some (.int .i64 a') := by rw [K2.out.cell]; rfl
  have y2 : W.cell? ⟨w.heap.size + 1, 2, none⟩ = some (.int .i64 b') := by rw [K2.out.cell]; rfl
  have y3 : W.cell? ⟨w.heap.size + 1, 3, none⟩ = some (.slice A' n' c') := by rw [K2.out.cell]; rfl
  obtain ⟨s, hs⟩ : ∃ s, decide (zs = zs') = s := ⟨_, rfl⟩
  have E := Lib.hid (lawIs_is hz hz' hs A A' c c' W (h1.below BW.out) (h2.below BW.out) hn)
  unfold sameN at hr
  rw [hs] at hr
  have HR := Lib.hid hr
  clear h1 h2 hz hz' hr hs
  cases d0 : (k == k') with
  | false =>
    have HE := Lib.hid (show r = false by rw [← HR.out, d0]; rfl)
    go_enter Try.func26, Try.ntmps26
    go_wp2
    go_ret
    exact ⟨congrArg (fun b => Ending.returned (Value.bool b)) HE.out.symm, BW.out⟩
  | true =>
  cases d1 : (a == a') with
  | false =>
    have HE := Lib.hid (show r = false by rw [← HR.out, d0, d1]; rfl)
    go_enter Try.func26, Try.ntmps26
    go_wp2
    go_ret
    exact ⟨congrArg (fun b => Ending.returned (Value.bool b)) HE.out.symm, BW.out⟩
  | true =>
  cases d2 : (b == b') with
  | false =>
    have HE := Lib.hid (show r = false by rw [← HR.out, d0, d1, d2]; rfl)
    go_enter Try.func26, Try.ntmps26
    go_wp2
    go_ret
    exact ⟨congrArg (fun b => Ending.returned (Value.bool b)) HE.out.symm, BW.out⟩
  | true =>
    have HE := Lib.hid (show r = s by rw [← HR.out, d0, d1, d2]; rfl)
    go_enter Try.func26, Try.ntmps26
    go_wp2_with fail
    refine E.out.mono ?_
    rintro e w1 ⟨rfl, hb⟩
    have B1 := Lib.hid (below_chain BW.out hb)
    clear hb x0 x1 x2 x3 y0 y1 y2 y3 hW
    go_wp2
    go_ret
    exact ⟨congrArg (fun b => Ending.returned (Value.bool b)) HE.out.symm, B1.out⟩


theorem lawNd_row {w : World} {lo1 hi1 lo2 hi2 n c1 c2 : Nat} {A1 A2 : Option Addr} {zs : List Int} (k a b : Int) (h1 : Row w lo1 hi1 3 1 A1 n c1 (isCells zs)) (h2 : Row w lo2 hi2 3 1 A2 n c2 (isCells zs)) (hn : n ≤ 4194304) :
    Calls Try.prog 26 #[.agg #[.int .i64 k, .int .i64 a, .int .i64 b, .slice A1 n c1], .agg #[.int .i64 k, .int .i64 a, .int .i64 b, .slice A2 n c2]] w fun e w' => e = .returned (.bool true) ∧ Below w.heap.size w w' :=
  lawNd_is h1.isLen h2.isLen (by simp [sameN]) A1 A2 c1 c2 w h1.is h2.is hn

set_option maxRecDepth 100000 in
set_option maxHeartbeats 2000000 in
theorem lawNds_same (n : Nat) (gs hs : List Nd) (hz : gs.length = n) (hy : hs.length = n) (ho : ∀ x ∈ gs, x.2.2.2.length ≤ 1048576) (A1 A2 : Option Addr) (c1 c2 : Nat) (w : World) (h1 : Nds w A1 gs) (h2 : Nds w A2 hs) (hn : n ≤ 1048576) :
    Calls Try.prog 59 #[.slice A1 n c1, .slice A2 n c2] w fun e w' => e = .returned (.bool (decide (gs = hs))) ∧ Below w.heap.size w w' := by
  have H1 := Lib.hid h1
  have H2 := Lib.hid h2
  have HZ := Lib.hid hz
  have HY := Lib.hid hy
  have HO := Lib.hid ho
  clear h1 h2 hz hy ho
  go_enter Try.func59, Try.ntmps59
  go_wp2
  go_loopw [5] (fun i wr => ∃ k : Nat, k ≤ n ∧ i = .int .i64 (k : Int) ∧ gs.take k = hs.take k ∧ Below w.heap.size w wr) (fun i _ => n - (intOf i).toNat)
  case atStart => exact ⟨0, Nat.zero_le _, rfl, rfl, Below.refl _ _⟩
  case round =>
    obtain ⟨k, hk, rfl, ht, hb⟩ := hrel
    have HT := Lib.hid ht
    have HB := Lib.hid hb
    by_cases hlt : k < n
    · have l1 : k < gs.length := by rw [HZ.out]; exact hlt
      have l2 : k < hs.length := by rw [HY.out]; exact hlt
      obtain ⟨b1, o1, kd, a, bb, zs, A3, n1, c3, rfl, x1, hz, _, j1, e0, e1, e2, e3⟩ := (H1.out.below hb).at l1
      obtain ⟨b2, o2, kd', a', bb', zs', A4, n2, c4, rfl, x2, hz', _, j2, f0, f1, f2, f3⟩ := (H2.out.below hb).at l2
      have hn1 : n1 ≤ 4194304 := by have := HO.out _ (List.getElem_mem l1); rw [x1] at this; rw [← hz]; exact Nat.le_trans this (by omega)
      obtain ⟨s, hs'⟩ : ∃ s, sameN kd a bb zs kd' a' bb' zs' = s := ⟨_, rfl⟩
      have E := Lib.hid (fun W (h1 : Ints W A3 zs) (h2 : Ints W A4 zs') => lawNd_is hz hz' hs' A3 A4 c3 c4 W h1 h2 hn1)
      have i0 : (0 : Int) ≤ (k : Int) := by omega
      have i1 : (k : Int) < (n : Int) := by omega
      have FACT := Lib.hid (show (s = true → gs.take (k + 1) = hs.take (k + 1)) ∧ (s = false → decide (gs = hs) = false) from
        ⟨fun e => take_step_nd l1 l2 HT.out (by rw [x1, x2]; exact sameN_iff.1 (hs'.trans e)), fun e => by
          simp only [decide_eq_false_iff_not]
          rintro rfl
          have := sameN_iff.2 (x1.symm.trans x2)
          rw [hs', e] at this
          cases this⟩)
      clear hb x1 x2 hz hz' l1 l2 hn1 hs' HT
      go_wp2_with fail
      go_region_held3 (fun w' => w'.cell? ⟨b1, o1 + k * 4, none⟩ = some (.int .i64 kd) ∧ w'.cell? ⟨b1, o1 + k * 4 + 1, none⟩ = some (.int .i64 a) ∧ w'.cell? ⟨b1, o1 + k * 4 + 2, none⟩ = some (.int .i64 bb) ∧ w'.cell? ⟨b1, o1 + k * 4 + 3, none⟩ = some (.slice A3 n1 c3) ∧ w'.cell? ⟨b2, o2 + k * 4, none⟩ = some (.int .i64 kd') ∧ w'.cell? ⟨b2, o2 + k * 4 + 1, none⟩ = some (.int .i64 a') ∧ w'.cell? ⟨b2, o2 + k * 4 + 2, none⟩ = some (.int .i64 bb') ∧ w'.cell? ⟨b2, o2 + k * 4 + 3, none⟩ = some (.slice A4 n2 c4) ∧ Ints w' A3 zs ∧ Ints w' A4 zs')
        (((try go_split_ands); refine ⟨?_, ?_, ?_, ?_, ?_, ?_, ?_, ?_, ?_, ?_⟩ <;> (repeat (first | with_reducible assumption | with_reducible refine drew_keep ?_ | with_reducible refine below_keep hbd ?_ | with_reducible refine ints_drewR ?_ | with_reducible refine Ints.below ?_ hbd))))
        (first | (go_at_call 26; (try go_split_ands); (with_reducible refine (E.out _ (by assumption) (by assumption)).mono ?_); rintro e w5 ⟨rfl, hbd⟩))
      have B5 := Lib.hid (below_chain HB.out.drew hbd)
      clear hbd
      cases s with
      | true =>
        have HT2 := Lib.hid (FACT.out.1 rfl)
        go_wp2
        go_roundw
        case rel => exact ⟨k + 1, by omega, by go_num, HT2.out, B5.out⟩
        case measure => simp [intOf]; omega
      | false =>
        have HN := Lib.hid (FACT.out.2 rfl)
        go_wp2
        go_ret
        exact ⟨congrArg (fun b => Ending.returned (Value.bool b)) HN.out.symm, B5.out⟩
    · have heq : gs = hs := by
        have h3 := HT.out
        rw [List.take_of_length_le (by rw [HZ.out]; omega), List.take_of_length_le (by rw [HY.out]; omega)] at h3
        exact h3
      have HD := Lib.hid (show decide (gs = hs) = true by simp [heq])
      clear heq HT hb
      go_wp2
      go_ret
      exact ⟨congrArg (fun b => Ending.returned (Value.bool b)) HD.out.symm, HB.out⟩

theorem lawNds_is {n m : Nat} {gs hs : List Nd} (hz : gs.length = n) (hy : hs.length = m) (ho : ∀ x ∈ gs, x.2.2.2.length ≤ 1048576) {r : Bool} (hr : decide (gs = hs) = r) (A1 A2 : Option Addr) (c1 c2 : Nat) (w : World) (h1 : Nds w A1 gs) (h2 : Nds w A2 hs) (hn : n ≤ 1048576) :
    Calls Try.prog 59 #[.slice A1 n c1, .slice A2 m c2] w fun e w' => e = .returned (.bool r) ∧ Below w.heap.size w w' := by
  rw [← hr]
  by_cases h : n = m
  · subst h
    exact lawNds_same n gs hs hz hy ho A1 A2 c1 c2 w h1 h2 hn
  · have hd : decide (gs = hs) = false := by
      simp only [decide_eq_false_iff_not]
      rintro rfl
      omega
    rw [hd]
    have hc : ((n : Int) != (m : Int)) = true := by simp; omega
    clear hz hy h1 h2 hd hr ho
    go_enter Try.func59, Try.ntmps59
    go_wp2
    go_ret
    exact ⟨rfl, Below.refl _ _⟩

set_option maxRecDepth 100000 in
set_option maxHeartbeats 2000000 in
theorem lawSameG_is {gs hs : List Nd} {wk cp wk' cp' : Int} {n n' : Nat} (hz : gs.length = n) (hy : hs.length = n') (ho : ∀ x ∈ gs, x.2.2.2.length ≤ 1048576) {r : Bool} (hr : sameG gs hs wk cp wk' cp' = r) (A A' : Option Addr) (c c' : Nat) (w : World) (h1 : Nds w A gs) (h2 : Nds w A' hs) (hn : n ≤ 1048576) :
    Calls Try.prog 28 #[.agg #[.slice A n c, .int .i64 wk, .int .i64 cp], .agg #[.slice A' n' c', .int .i64 wk', .int .i64 cp']] w fun e w' => e = .returned (.bool r) ∧ Below w.heap.size w w' := by
  obtain ⟨W, hW⟩ : ∃ W, (w.alloc (.cells #[.slice A n c, .int .i64 wk, .int .i64 cp] 26)).alloc (.cells #[.slice A' n' c', .int .i64 wk', .int .i64 cp'] 26) = W := ⟨_, rfl⟩
  have BW := Lib.hid (show Below w.heap.size w W by rw [← hW]; exact (((Below.refl w.heap.size w).alloc (Nat.le_refl _) _).alloc (by simp) _))
  have K1 := Lib.hid (show Blk W w.heap.size 26 #[.slice A n c, .int .i64 wk, .int .i64 cp] by rw [← hW]; exact (Below.heap_alloc _ _ _ (by simp)).trans (Blk.new _ _ _))
  have K2 := Lib.hid (show Blk W (w.heap.size + 1) 26 #[.slice A' n' c', .int .i64 wk', .int .i64 cp'] by rw [← hW]; exact (show w.heap.size + 1 = (w.alloc _).heap.size by simp) ▸ Blk.new _ _ _)
  have x0 : W.cell? ⟨w.heap.size, 0, none⟩ = some (.slice A n c) := by rw [K1.out.cell]; rfl
  have y0 : W.cell? ⟨w.heap.size + 1, 0, none⟩ = some (.slice A' n' c') := by rw [K2.out.cell]; rfl
  obtain ⟨s, hs'⟩ : ∃ s, decide (gs = hs) = s := ⟨_, rfl⟩
  have E := Lib.hid (lawNds_is hz hy ho hs' A A' c c' W (h1.below BW.out) (h2.below BW.out) hn)
  unfold sameG at hr
  rw [hs'] at hr
  have HR := Lib.hid hr
  clear h1 h2 hz hy hr hs' ho
  go_enter Try.func28, Try.ntmps28
  go_wp2_with fail
  refine E.out.mono ?_
  rintro e w1 ⟨rfl, hb⟩
  have B1 := Lib.hid (below_chain BW.out hb)
  have Q1 := Lib.hid (K1.out.below hb)
  have Q2 := Lib.hid (K2.out.below hb)
  clear hb x0 y0 hW
  have x1 : w1.cell? ⟨w.heap.size, 1, none⟩ = some (.int .i64 wk) := by rw [Q1.out.cell]; rfl
  have x2 : w1.cell? ⟨w.heap.size, 2, none⟩ = some (.int .i64 cp) := by rw [Q1.out.cell]; rfl
  have y1 : w1.cell? ⟨w.heap.size + 1, 1, none⟩ = some (.int .i64 wk') := by rw [Q2.out.cell]; rfl
  have y2 : w1.cell? ⟨w.heap.size + 1, 2, none⟩ = some (.int .i64 cp') := by rw [Q2.out.cell]; rfl
  cases s with
  | false =>
    have HE := Lib.hid (show r = false by rw [← HR.out]; rfl)
    go_wp2
    go_ret
    exact ⟨congrArg (fun b => Ending.returned (Value.bool b)) HE.out.symm, B1.out⟩
  | true =>
  cases d1 : (wk == wk') with
  | false =>
    have HE := Lib.hid (show r = false by rw [← HR.out, d1]; rfl)
    go_wp2
    go_ret
    exact ⟨congrArg (fun b => Ending.returned (Value.bool b)) HE.out.symm, B1.out⟩
  | true =>
  cases d2 : (cp == cp') with
  | false =>
    have HE := Lib.hid (show r = false by rw [← HR.out, d1, d2]; rfl)
    go_wp2
    go_ret
    exact ⟨congrArg (fun b => Ending.returned (Value.bool b)) HE.out.symm, B1.out⟩
  | true =>
    have HE := Lib.hid (show r = true by rw [← HR.out, d1, d2]; rfl)
    go_wp2
    go_ret
    exact ⟨congrArg (fun b => Ending.returned (Value.bool b)) HE.out.symm, B1.out⟩


end Go.Proofs.Ytjplkoglibagkaa.hexes

