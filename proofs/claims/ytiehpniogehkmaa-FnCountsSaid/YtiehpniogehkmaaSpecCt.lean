/-
  Chapter 4's plain functions as the reference has them: the contracts of spec.TotalCount, spec.EpochCount, spec.FrontOf, spec.CountAt and laws.sameCounts.
-/
import Derived.Test.YtiehpniogehkmaaCtKit
import Derived.Test.YtiehpniogehkmaaDrawFrontBase
namespace Go.Proofs.Ytiehpniogehkmaa.hexes
open Go.RowKit

theorem fold_take_step {α β : Type} {f : β → α → β} {b : β} {zs : List α} {k : Nat} (hk : k < zs.length) : (zs.take (k + 1)).foldl f b = f ((zs.take k).foldl f b) zs[k] := by
  rw [List.take_succ_eq_append_getElem hk, List.foldl_append]
  rfl

set_option maxRecDepth 100000 in
theorem specTotal_any (n : Nat) (zs : List Ct) (hz : zs.length = n) (A : Option Addr) (c : Nat) (w : World) (h1 : Cts w A zs) (hn : n ≤ 4194304) :
    Calls Try.prog 28 #[.slice A n c] w fun e w' => e = .returned (.int .i64 (totalL zs)) ∧ w = w' := by
  have H1 := Lib.hid h1
  have HZ := Lib.hid hz
  clear h1 hz
  go_enter Try.func28, Try.ntmps28
  go_wp2
  go_loop [3, 4] (fun s i => ∃ (k : Nat) (a : Int), k ≤ n ∧ i = .int .i64 k ∧ s = .int .i64 a ∧ a = (zs.take k).foldl (fun a z => wrap64 (a + z.2)) 0) (fun _ i => n - (intOf i).toNat)
  case atStart => exact ⟨0, 0, Nat.zero_le _, rfl, rfl, rfl⟩
  case round =>
    obtain ⟨k, a, hk, rfl, rfl, ha⟩ := hrel
    have HA := Lib.hid ha
    clear ha
    by_cases hlt : k < n
    · have l1 : k < zs.length := by rw [HZ.out]; exact hlt
      obtain ⟨b1, o1, p0, p1, p2, rfl, x1, e0, e1, e2⟩ := H1.out.at l1
      have i0 : (0 : Int) ≤ (k : Int) := by omega
      have i1 : (k : Int) < (n : Int) := by omega
      have HS := Lib.hid (show wrap64 (a + p2) = (zs.take (k + 1)).foldl (fun a z => wrap64 (a + z.2)) 0 by rw [fold_take_step l1, ← HA.out, x1])
      clear x1 l1 HA
      go_wp2
      go_round
      case rel => exact ⟨k + 1, _, by omega, by go_num, rfl, HS.out⟩
      case measure => simp [intOf]; omega
    · have hfin : a = totalL zs := by
        have h3 := HA.out
        rw [List.take_of_length_le (by rw [HZ.out]; omega)] at h3
        exact h3
      subst hfin
      go_wp2
      go_ret
      exact ⟨rfl, rfl⟩

set_option maxRecDepth 100000 in
theorem specEpoch_any (n : Nat) (zs : List Ct) (hz : zs.length = n) (A : Option Addr) (c : Nat) (x : Int) (w : World) (h1 : Cts w A zs) (hn : n ≤ 4194304) :
    Calls Try.prog 26 #[.slice A n c, .int .i64 x] w fun e w' => e = .returned (.int .i64 (epochL zs x)) ∧ w = w' := by
  have H1 := Lib.hid h1
  have HZ := Lib.hid hz
  clear h1 hz
  go_enter Try.func26, Try.ntmps26
  go_wp2
  go_loop [5, 6] (fun s i => ∃ (k : Nat) (a : Int), k ≤ n ∧ i = .int .i64 k ∧ s = .int .i64 a ∧ a = (zs.take k).foldl (fun a z => if z.1.1 = x then wrap64 (a + z.2) else a) 0) (fun _ i => n - (intOf i).toNat)
  case atStart => exact ⟨0, 0, Nat.zero_le _, rfl, rfl, rfl⟩
  case round =>
    obtain ⟨k, a, hk, rfl, rfl, ha⟩ := hrel
    have HA := Lib.hid ha
    clear ha
    by_cases hlt : k < n
    · have l1 : k < zs.length := by rw [HZ.out]; exact hlt
      obtain ⟨b1, o1, p0, p1, p2, rfl, x1, e0, e1, e2⟩ := H1.out.at l1
      have i0 : (0 : Int) ≤ (k : Int) := by omega
      have i1 : (k : Int) < (n : Int) := by omega
      by_cases he : p0 = x
      · have HS := Lib.hid (show wrap64 (a + p2) = (zs.take (k + 1)).foldl (fun a z => if z.1.1 = x then wrap64 (a + z.2) else a) 0 by rw [fold_take_step l1, ← HA.out, x1]; simp [he])
        have hd : (p0 == x) = true := by simpa using he
        clear x1 l1 HA he
        go_wp2
        go_round
        case rel => exact ⟨k + 1, _, by omega, by go_num, rfl, HS.out⟩
        case measure => simp [intOf]; omega
      · have HS := Lib.hid (show a = (zs.take (k + 1)).foldl (fun a z => if z.1.1 = x then wrap64 (a + z.2) else a) 0 by rw [fold_take_step l1, ← HA.out, x1]; simp [he])
        have hd : (p0 == x) = false := by simpa using he
        clear x1 l1 HA he
        go_wp2
        go_round
        case rel => exact ⟨k + 1, _, by omega, by go_num, rfl, HS.out⟩
        case measure => simp [intOf]; omega
    · have hfin : a = epochL zs x := by
        have h3 := HA.out
        rw [List.take_of_length_le (by rw [HZ.out]; omega)] at h3
        exact h3
      subst hfin
      go_wp2
      go_ret
      exact ⟨rfl, rfl⟩

theorem posL_step {zs : List Ct} {k : Nat} (hk : k < zs.length) : posL (zs.take (k + 1)) = posL (zs.take k) ++ (if 0 < zs[k].2 then [zs[k].1] else []) := by
  unfold posL
  rw [List.take_succ_eq_append_getElem hk, List.filter_append, List.map_append]
  by_cases h : 0 < zs[k].2
  · simp [h]
  · simp [h]
theorem posL_length (zs : List Ct) : (posL zs).length ≤ zs.length := by
  unfold posL
  rw [List.length_map]
  exact List.length_filter_le _ _

set_option maxRecDepth 100000 in
theorem specFront_any (n : Nat) (zs : List Ct) (hz : zs.length = n) (A : Option Addr) (c : Nat) (w : World) (h1 : Cts w A zs) (hn : n ≤ 1048576) :
    Calls Try.prog 24 #[.slice A n c] w fun e w' => ∃ v, e = .returned v ∧ w'.ownsRow w.heap.size 26 2 v (minL (posL zs)).length (stCells (minL (posL zs))) ∧ Below w.heap.size w w' := by
  have H1 := Lib.hid h1
  have HZ := Lib.hid hz
  clear h1 hz
  go_enter Try.func24, Try.ntmps24
  go_wp2
  go_loopw [3, 4] (fun v i wr => ∃ (k m : Nat) (out : List (Int × Int)), k ≤ n ∧ out.length = m ∧ out = posL (zs.take k) ∧ i = .int .i64 k ∧ wr.ownsRow w.heap.size 26 2 v m (stCells out) ∧ Below w.heap.size w wr) (fun _ i _ => n - (intOf i).toNat)
  case atStart => exact ⟨0, 0, [], Nat.zero_le _, rfl, rfl, rfl, World.ownsRow_lit w #[] 0 (Nat.le_refl _) (by decide) rfl, (Below.refl _ _).alloc (Nat.le_refl _) _⟩
  case round =>
    obtain ⟨k, m, out, hk, hml, hout, rfl, hown, hb⟩ := hrel
    have ML := Lib.hid hml
    have HU := Lib.hid hout
    have HO := Lib.hid hown
    have HB := Lib.hid hb
    have hmn : m ≤ n := by
      have := posL_length (zs.take k)
      rw [← HU.out, ML.out, List.length_take] at this
      omega
    clear hml hout hown hb
    by_cases hlt : k < n
    · have l1 : k < zs.length := by rw [HZ.out]; exact hlt
      obtain ⟨b1, o1, p0, p1, p2, rfl, x1, e0, e1, e2⟩ := (H1.out.below HB.out).at l1
      have i0 : (0 : Int) ≤ (k : Int) := by omega
      have i1 : (k : Int) < (n : Int) := by omega
      by_cases he : 0 < p2
      · have HS := Lib.hid (show out ++ [(p0, p1)] = posL (zs.take (k + 1)) by rw [posL_step l1, ← HU.out, x1]; simp [he])
        have hd : decide (p2 > 0) = true := decide_eq_true he
        clear x1 l1 HU he
        go_wp2_with (at_builtin; refine wpList_append_sts rfl (.tmp 18) (.tmp 24) (by rfl) w.heap.size _ m out (by rfl) (HO.out.alloc _) (some ⟨wr.heap.size, 0, none⟩) 1 1 [(p0, p1)] (by rfl) (fun h => by cases h) rfl (sts_new wr p0 p1) (by omega) (Nat.le_trans HB.out.size (by simp)) ?_; intro v8 w8 own8 gr8)
        have hb8 := (HB.out.alloc HB.out.size _).grown gr8 (Nat.le_trans HB.out.size (by simp)) (own_ge HO.out)
        have O8 := Lib.hid own8
        have B8 := Lib.hid hb8
        clear own8 gr8 hb8
        go_wp2
        go_roundw
        case rel => exact ⟨k + 1, m + 1, out ++ [(p0, p1)], by omega, by simp [ML.out], HS.out, by go_num, O8.out, B8.out⟩
        case measure => simp [intOf]; omega
      · have HS := Lib.hid (show out = posL (zs.take (k + 1)) by rw [posL_step l1, ← HU.out, x1]; simp [he])
        have hd : decide (p2 > 0) = false := decide_eq_false he
        clear x1 l1 HU he
        go_wp2
        go_roundw
        case rel => exact ⟨k + 1, m, out, by omega, ML.out, HS.out, by go_num, HO.out, HB.out⟩
        case measure => simp [intOf]; omega
    · have hfin : out = posL zs := by
        have h3 := HU.out
        rw [List.take_of_length_le (by rw [HZ.out]; omega)] at h3
        exact h3
      subst hfin
      obtain ⟨A3, c3, rfl, _, s3⟩ := Sts.of_own HO.out
      have S3 := Lib.hid s3
      clear s3
      go_wp2_with fail
      refine (specMin_any m (posL zs) ML.out A3 c3 _ S3.out (by omega)).mono ?_
      rintro e w3 ⟨v3, rfl, own3, b3⟩
      have O3 := Lib.hid (own_base own3 HB.out.size)
      have B3 := Lib.hid (below_chain HB.out b3)
      clear own3 b3
      go_wp2
      go_ret
      exact ⟨_, rfl, O3.out, B3.out⟩

end Go.Proofs.Ytiehpniogehkmaa.hexes
