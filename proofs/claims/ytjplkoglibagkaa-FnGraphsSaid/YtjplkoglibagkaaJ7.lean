/-
  outsOk; NodeOk on both sides.
  Stores beside an owned row.
-/
import Derived.Test.YtjplkoglibagkaaJ6
import Derived.Test.YtjplkoglibagkaaJ1

namespace Go.Proofs.Ytjplkoglibagkaa.hexes
open Go.RowKit

set_option maxRecDepth 100000 in
set_option maxHeartbeats 1000000 in
theorem implOuts_any (k a b : Int) (A : Option Addr) (n c : Nat) (zs : List Int) (hz : zs.length = n) (hc : n ≤ c) (w : World) (h1 : Ints w A zs) (hn : n ≤ 1048576) :
    Calls Try.prog 68 #[.agg #[.int .i64 k, .int .i64 a, .int .i64 b, .slice A n c]] w fun e w' => e = .returned (.bool (outsB k zs)) ∧ Below w.heap.size w w' := by
  have BW := Lib.hid ((Below.refl w.heap.size w).alloc (Nat.le_refl _) (.cells #[.int .i64 k, .int .i64 a, .int .i64 b, .slice A n c] 37))
  have H1 := Lib.hid (h1.below ((Below.refl w.heap.size w).alloc (Nat.le_refl _) (.cells #[.int .i64 k, .int .i64 a, .int .i64 b, .slice A n c] 37)))
  have HZ := Lib.hid hz
  clear h1
  by_cases h8 : k = 8
  · subst h8
    by_cases h0 : n = 0
    · have HR := Lib.hid (show outsB 8 zs = true by
        obtain rfl := List.eq_nil_of_length_eq_zero (hz.trans h0)
        exact outs_nil 8)
      have q0 : ((n : Int) == 0) = true := by simp; omega
      rw [HR.out]
      clear h0 hz
      go_enter Try.func68, Try.ntmps68
      go_wp2
      go_ret
      exact ⟨rfl, BW.out⟩
    · have HR := Lib.hid (show outsB 8 zs = false from outs_out (by omega))
      have q0 : ((n : Int) == 0) = false := by simp; omega
      rw [HR.out]
      clear h0 hz
      go_enter Try.func68, Try.ntmps68
      go_wp2
      go_ret
      exact ⟨rfl, BW.out⟩
  have d8 : (k == 8) = false := by simpa using h8
  by_cases hl : n ≤ 2
  · have q0 : decide ((n : Int) > 2) = false := by simp; omega
    have HY := Lib.hid (fun h : Scan zs zs.length => outs_yes (k := k) (zs := zs) (by omega) (fun h => absurd h h8) h)
    clear hz h8
    go_enter Try.func68, Try.ntmps68
    go_wp2
    go_loop [19] (fun i => ∃ j : Nat, j ≤ n ∧ i = .int .i64 j ∧ Scan zs j) (fun i => n - (intOf i).toNat)
    case atStart => exact ⟨0, Nat.zero_le _, rfl, scan_zero zs⟩
    case round =>
      obtain ⟨j, hj, rfl, ht⟩ := hrel
      have HT := Lib.hid ht
      clear ht q0
      by_cases hlt : j < n
      · have l1 : j < zs.length := by rw [HZ.out]; exact hlt
        obtain ⟨b1, o1, p, rfl, x1, e1⟩ := H1.out.at l1
        have X1 := Lib.hid x1
        have i0 : (0 : Int) ≤ (j : Int) := by omega
        have i1 : (j : Int) < (n : Int) := by omega
        have i2 : (j : Int) ≤ (c : Int) := by omega
        clear x1
        by_cases h7 : 0 ≤ p ∧ p ≤ 7
        · have E := Lib.hid (fun W => implInN_is (decide_eq_true h7) W)
          by_cases hm : p ∈ zs.take j
          · have EC := Lib.hid (containsIs_is (n := j) (zs := zs.take j) (by simp; omega) c (decide_eq_true hm) (H1.out.take j) (by omega))
            have HR := Lib.hid (show outsB k zs = false from outs_twice l1 X1.out hm)
            clear HT HY X1 h7 hm l1
            go_wp2_with fail
            refine (E.out _).mono ?_
            rintro e w1 ⟨rfl, rfl⟩
            go_wp2_with fail
            refine EC.out.mono ?_
            rintro e w2 ⟨rfl, rfl⟩
            go_wp2
            go_ret
            exact ⟨congrArg (fun b => Ending.returned (Value.bool b)) HR.out.symm, BW.out⟩
          · have EC := Lib.hid (containsIs_is (n := j) (zs := zs.take j) (by simp; omega) c (decide_eq_false hm) (H1.out.take j) (by omega))
            have HT2 := Lib.hid (scan_succ l1 X1.out HT.out h7 hm)
            clear HT X1 h7 hm l1
            go_wp2_with fail
            refine (E.out _).mono ?_
            rintro e w1 ⟨rfl, rfl⟩
            go_wp2_with fail
            refine EC.out.mono ?_
            rintro e w2 ⟨rfl, rfl⟩
            go_wp2
            go_round
            case rel => exact ⟨j + 1, by omega, by go_num, HT2.out⟩
            case measure => simp [intOf]; omega
        · have E := Lib.hid (fun W => implInN_is (decide_eq_false h7) W)
          have HR := Lib.hid (show outsB k zs = false from outs_bad l1 X1.out h7)
          clear HT HY X1 h7 l1
          go_wp2_with fail
          refine (E.out _).mono ?_
          rintro e w1 ⟨rfl, rfl⟩
          go_wp2
          go_ret
          exact ⟨congrArg (fun b => Ending.returned (Value.bool b)) HR.out.symm, BW.out⟩
      · have hjn : j = zs.length := by have := HZ.out; omega
        have HR := Lib.hid (show outsB k zs = true from HY.out (hjn ▸ HT.out))
        clear HT HY hjn
        go_wp2
        go_ret
        exact ⟨congrArg (fun b => Ending.returned (Value.bool b)) HR.out.symm, BW.out⟩
  · have q0 : decide ((n : Int) > 2) = true := by simp; omega
    have HR := Lib.hid (show outsB k zs = false from outs_long (by omega))
    rw [HR.out]
    clear hz h8 hl
    go_enter Try.func68, Try.ntmps68
    go_wp2
    go_ret
    exact ⟨rfl, BW.out⟩

set_option maxRecDepth 100000 in
theorem implNdOk_any (k a b d : Int) (A : Option Addr) (n c : Nat) (zs : List Int) (hz : zs.length = n) (hc : n ≤ c) (hd : IntKind.i64.wrap (a - 1) = d) (w : World) (h1 : Ints w A zs) (hn : n ≤ 1048576) :
    Calls Try.prog 43 #[.agg #[.int .i64 k, .int .i64 a, .int .i64 b, .slice A n c]] w fun e w' => e = .returned (.bool (okNd k a b d zs)) ∧ Below w.heap.size w w' := by
  obtain ⟨W, hW⟩ : ∃ W, w.alloc (.cells #[.int .i64 k, .int .i64 a, .int .i64 b, .slice A n c] 37) = W := ⟨_, rfl⟩
  have BW := Lib.hid (show Below w.heap.size w W by rw [← hW]; exact (Below.refl w.heap.size w).alloc (Nat.le_refl _) _)
  have KW := Lib.hid (show Blk W w.heap.size 37 #[.int .i64 k, .int .i64 a, .int .i64 b, .slice A n c] by rw [← hW]; exact Blk.new _ _ _)
  have E := Lib.hid (fun W => implSet_any k a b d A n c W hd)
  have EO := Lib.hid (fun W (h : Ints W A zs) => implOuts_any k a b A n c zs hz hc W h hn)
  have H1 := Lib.hid h1
  obtain ⟨r, hr⟩ : ∃ r, setB k a b d = r := ⟨_, rfl⟩
  obtain ⟨s, hs⟩ : ∃ s, outsB k zs = s := ⟨_, rfl⟩
  have HR := Lib.hid hr
  have HS := Lib.hid hs
  unfold okNd
  rw [hr, hs]
  clear h1 hd hz hr hs
  have x0 : W.cell? ⟨w.heap.size, 0, none⟩ = some (.int .i64 k) := by rw [KW.out.cell]; rfl
  have x1 : W.cell? ⟨w.heap.size, 1, none⟩ = some (.int .i64 a) := by rw [KW.out.cell]; rfl
  have x2 : W.cell? ⟨w.heap.size, 2, none⟩ = some (.int .i64 b) := by rw [KW.out.cell]; rfl
  have x3 : W.cell? ⟨w.heap.size, 3, none⟩ = some (.slice A n c) := by rw [KW.out.cell]; rfl
  go_enter Try.func43, Try.ntmps43
  go_wp2_with fail
  refine (E.out _).mono ?_
  rintro e w1 ⟨rfl, hb⟩
  rw [HR.out]
  have B1 := Lib.hid (below_chain BW.out hb)
  have K1 := Lib.hid (KW.out.below hb)
  clear hb x0 x1 x2 x3 hW
  cases r with
  | false =>
    go_wp2
    go_ret
    exact ⟨by rfl, B1.out⟩
  | true =>
    have x0 : w1.cell? ⟨w.heap.size, 0, none⟩ = some (.int .i64 k) := by rw [K1.out.cell]; rfl
    have x1 : w1.cell? ⟨w.heap.size, 1, none⟩ = some (.int .i64 a) := by rw [K1.out.cell]; rfl
    have x2 : w1.cell? ⟨w.heap.size, 2, none⟩ = some (.int .i64 b) := by rw [K1.out.cell]; rfl
    have x3 : w1.cell? ⟨w.heap.size, 3, none⟩ = some (.slice A n c) := by rw [K1.out.cell]; rfl
    go_wp2_with fail
    refine (EO.out _ (H1.out.below B1.out)).mono ?_
    rintro e w2 ⟨rfl, hb⟩
    rw [HS.out]
    have B2 := Lib.hid (below_chain B1.out hb)
    clear hb x0 x1 x2 x3
    go_wp2
    go_ret
    exact ⟨by simp, B2.out⟩

end Go.Proofs.Ytjplkoglibagkaa.hexes

namespace Go.Proofs.Ytjplkoglibagkaa.hexes
open Go.RowKit

theorem grown_set (w : World) (p : Addr) (u : Value) : w.grownBy (w.setCell p u) (some p.block) :=
  ⟨rfl, rfl, rfl, by simp [World.setCell], fun i _ hne => Below.heap_setCell w p u i (by rintro rfl; exact hne rfl)⟩
theorem own_set {w : World} {B e size n : Nat} {v : Value} {xs : List Value} (h : w.ownsRow B e size v n xs) {p : Addr} (u : Value) (hp : p.block < B) : (w.setCell p u).ownsRow B e size v n xs := by
  refine h.kept (grown_set w p u) ?_
  cases hv : v.ownBlock with
  | none => exact .inl rfl
  | some g =>
    refine .inr fun e => ?_
    have h1 := own_ge h g hv
    obtain rfl : g = p.block := Option.some.inj e
    omega
end Go.Proofs.Ytjplkoglibagkaa.hexes

