/-
  The program's CellOrder: the contracts of cmp.Compare, cmp.Or and impl.CellOrder.
-/
import Derived.Test.YtbbagpnjjjohpaaJ18
import Derived.Lib.SliceRun
import Derived.Test.YtbbagpnjjjohpaaJ34

namespace Go.Proofs.Ytbbagpnjjjohpaa.hexes
open Go.RowKit

theorem isNaNInt_at (x : Int) (W : World) : Calls Try.prog 133 #[.int .i64 x] W fun e w' => e = .returned (.bool false) ∧ W = w' := by
  have hx : (x != x) = false := by simp
  go_enter Try.func133, Try.ntmps133
  go_wp2
  go_ret
  exact ⟨rfl, rfl⟩

theorem cmpInt_at (x y : Int) (W : World) : Calls Try.prog 128 #[.int .i64 x, .int .i64 y] W fun e w' => e = .returned (.int .i64 (ordI x y)) ∧ W = w' := by
  have HN := Lib.hid (fun z W => isNaNInt_at z W)
  rcases ordE_cases x y with ⟨h, e⟩ | ⟨h, e⟩ | ⟨h, e⟩
  all_goals
    rw [e]
    clear e
    go_enter Try.func128, Try.ntmps128
    go_wp2_with (go_at_call 133; refine (HN.out _ _).mono ?_; rintro e w1 ⟨rfl, rfl⟩)
    all_goals (go_ret; first | exact ⟨rfl, rfl⟩ | (exfalso; simp_all; omega))

set_option maxRecDepth 100000 in
theorem cmpOr4_at (s a b c r : Int) (hr : r = if s ≠ 0 then s else if a ≠ 0 then a else if b ≠ 0 then b else c) (g : Nat) (w : World) (e0 : w.cell? ⟨g, 0, none⟩ = some (.int .i64 s)) (e1 : w.cell? ⟨g, 1, none⟩ = some (.int .i64 a)) (e2 : w.cell? ⟨g, 2, none⟩ = some (.int .i64 b)) (e3 : w.cell? ⟨g, 3, none⟩ = some (.int .i64 c)) :
    Calls Try.prog 127 #[.slice (some ⟨g, 0, none⟩) 4 4] w fun e w' => e = .returned (.int .i64 r) ∧ w = w' := by
  have HR := Lib.hid hr
  clear hr
  go_enter Try.func127, Try.ntmps127
  go_wp2
  refine wp_loop_rounds 5 ?_
  rw [rounds_succ]
  by_cases h0 : s = 0
  rotate_left
  · go_wp2
    go_ret
    exact ⟨by rw [HR.out]; simp [h0], rfl⟩
  subst h0
  go_wp2
  rw [rounds_succ]
  by_cases h1 : a = 0
  rotate_left
  · go_wp2
    go_ret
    exact ⟨by rw [HR.out]; simp [h1], rfl⟩
  subst h1
  go_wp2
  rw [rounds_succ]
  by_cases h2 : b = 0
  rotate_left
  · go_wp2
    go_ret
    exact ⟨by rw [HR.out]; simp [h2], rfl⟩
  subst h2
  go_wp2
  rw [rounds_succ]
  by_cases h3 : c = 0
  rotate_left
  · go_wp2
    go_ret
    exact ⟨by rw [HR.out]; simp, rfl⟩
  subst h3
  go_wp2
  rw [rounds_succ]
  go_wp2
  go_ret
  exact ⟨by rw [HR.out]; simp, rfl⟩

theorem cmpInt_is {a b v : Int} (h : ordI a b = v) (W : World) : Calls Try.prog 128 #[.int .i64 a, .int .i64 b] W fun e w' => e = .returned (.int .i64 v) ∧ W = w' := by
  subst h; exact cmpInt_at a b W

set_option maxRecDepth 1000000 in
set_option maxHeartbeats 4000000 in
theorem implCeOrd_any (p0 p1 p2 p3 q0 q1 q2 q3 : Int) (w : World) :
    Calls Try.prog 122 #[.agg #[.int .i64 p0, .int .i64 p1, .int .i64 p2, .int .i64 p3], .agg #[.int .i64 q0, .int .i64 q1, .int .i64 q2, .int .i64 q3]] w fun e w' => e = .returned (.int .i64 (ordCe (p0, p1, p2, p3) (q0, q1, q2, q3))) ∧ Below w.heap.size w w' := by
  obtain ⟨r, hr⟩ : ∃ r, ordCe (p0, p1, p2, p3) (q0, q1, q2, q3) = r := ⟨_, rfl⟩
  obtain ⟨v0, h0⟩ : ∃ v, ordI p1 q1 = v := ⟨_, rfl⟩
  obtain ⟨v1, h1⟩ : ∃ v, ordI p0 q0 = v := ⟨_, rfl⟩
  obtain ⟨v2, h2⟩ : ∃ v, ordI p2 q2 = v := ⟨_, rfl⟩
  obtain ⟨v3, h3⟩ : ∃ v, ordI p3 q3 = v := ⟨_, rfl⟩
  have HR := Lib.hid (show r = if v0 ≠ 0 then v0 else if v1 ≠ 0 then v1 else if v2 ≠ 0 then v2 else v3 by rw [← hr, ← h0, ← h1, ← h2, ← h3]; rfl)
  have E0 := Lib.hid (fun W => cmpInt_is h0 W)
  have E1 := Lib.hid (fun W => cmpInt_is h1 W)
  have E2 := Lib.hid (fun W => cmpInt_is h2 W)
  have E3 := Lib.hid (fun W => cmpInt_is h3 W)
  rw [hr]
  clear hr h0 h1 h2 h3
  obtain ⟨W0, hW0⟩ : ∃ W0, (w.alloc (.cells #[.int .i64 p0, .int .i64 p1, .int .i64 p2, .int .i64 p3] 38)).alloc (.cells #[.int .i64 q0, .int .i64 q1, .int .i64 q2, .int .i64 q3] 38) = W0 := ⟨_, rfl⟩
  have B0 := Lib.hid (show Below w.heap.size w W0.drew by refine Below.drew ?_; rw [← hW0]; exact ((Below.refl _ _).alloc (by simp) _).alloc (by simp) _)
  obtain ⟨V, hV⟩ : ∃ z, W0.drew = z := ⟨_, rfl⟩
  have T0 := Lib.hid (show CeTwo V w.heap.size p0 p1 p2 p3 q0 q1 q2 q3 V by rw [← hV]; exact ⟨by rw [← hW0]; exact alloc_keep (by simp), by rw [← hW0]; exact alloc_keep (by simp), by rw [← hW0]; exact alloc_keep (by simp), by rw [← hW0]; exact alloc_keep (by simp), by rw [← hW0]; simp, by rw [← hW0]; simp, by rw [← hW0]; simp, by rw [← hW0]; simp, Below.refl _ _⟩)
  go_enter Try.func122, Try.ntmps122
  go_wp2_with fail
  clear hW0
  rw [hV] at B0
  refine wp_region_held_drew (S := CeTwo V w.heap.size p0 p1 p2 p3 q0 q1 q2 q3) (by kernel_rfl) ?_ (fun hHeld => ?_)
  · skip
    rw [hV]; exact T0.out
  change wpAnyH _ _ opsE2 _ _ 23 (LE2 0) _ _
  rw [hV] at hHeld ⊢
  clear hV
  refine regY tE2_0 (.pointer (some ⟨w.heap.size, 1, none⟩)) (fun W hSw => by unfold qE2_0; go_simp) hHeld ?_
  try simp only [pt, List.set]
  refine regY tE2_1 (.int .i64 p1) (fun W hSw => by unfold qE2_1; obtain ⟨c0, c1, c2, c3, d0, d1, d2, d3, bl⟩ := hSw; go_simp) hHeld ?_
  try simp only [pt, List.set]
  refine regY tE2_2 (.pointer (some ⟨w.heap.size + 1, 1, none⟩)) (fun W hSw => by unfold qE2_2; go_simp) hHeld ?_
  try simp only [pt, List.set]
  refine regY tE2_3 (.int .i64 q1) (fun W hSw => by unfold qE2_3; obtain ⟨c0, c1, c2, c3, d0, d1, d2, d3, bl⟩ := hSw; go_simp) hHeld ?_
  try simp only [pt, List.set]
  refine regY tE2_4 (.pointer (some ⟨w.heap.size, 0, none⟩)) (fun W hSw => by unfold qE2_5; go_simp) hHeld ?_
  try simp only [pt, List.set]
  refine regY tE2_5 (.int .i64 p0) (fun W hSw => by unfold qE2_6; obtain ⟨c0, c1, c2, c3, d0, d1, d2, d3, bl⟩ := hSw; go_simp) hHeld ?_
  try simp only [pt, List.set]
  refine regY tE2_6 (.pointer (some ⟨w.heap.size + 1, 0, none⟩)) (fun W hSw => by unfold qE2_7; go_simp) hHeld ?_
  try simp only [pt, List.set]
  refine regY tE2_7 (.int .i64 q0) (fun W hSw => by unfold qE2_8; obtain ⟨c0, c1, c2, c3, d0, d1, d2, d3, bl⟩ := hSw; go_simp) hHeld ?_
  try simp only [pt, List.set]
  refine regY tE2_8 (.pointer (some ⟨w.heap.size, 2, none⟩)) (fun W hSw => by unfold qE2_10; go_simp) hHeld ?_
  try simp only [pt, List.set]
  refine regY tE2_9 (.int .i64 p2) (fun W hSw => by unfold qE2_11; obtain ⟨c0, c1, c2, c3, d0, d1, d2, d3, bl⟩ := hSw; go_simp) hHeld ?_
  try simp only [pt, List.set]
  refine regY tE2_10 (.pointer (some ⟨w.heap.size + 1, 2, none⟩)) (fun W hSw => by unfold qE2_12; go_simp) hHeld ?_
  try simp only [pt, List.set]
  refine regY tE2_11 (.int .i64 q2) (fun W hSw => by unfold qE2_13; obtain ⟨c0, c1, c2, c3, d0, d1, d2, d3, bl⟩ := hSw; go_simp) hHeld ?_
  try simp only [pt, List.set]
  refine regY tE2_12 (.pointer (some ⟨w.heap.size, 3, none⟩)) (fun W hSw => by unfold qE2_15; go_simp) hHeld ?_
  try simp only [pt, List.set]
  refine regY tE2_13 (.int .i64 p3) (fun W hSw => by unfold qE2_16; obtain ⟨c0, c1, c2, c3, d0, d1, d2, d3, bl⟩ := hSw; go_simp) hHeld ?_
  try simp only [pt, List.set]
  refine regY tE2_14 (.pointer (some ⟨w.heap.size + 1, 3, none⟩)) (fun W hSw => by unfold qE2_17; go_simp) hHeld ?_
  try simp only [pt, List.set]
  refine regY tE2_15 (.int .i64 q3) (fun W hSw => by unfold qE2_18; obtain ⟨c0, c1, c2, c3, d0, d1, d2, d3, bl⟩ := hSw; go_simp) hHeld ?_
  try simp only [pt, List.set]
  refine cE2_16 (fun K hK => ?_)
  rw [if_pos (by rfl)]
  unfold qE2_4
  go_simp
  refine (E0.out _).mono ?_
  rintro e w5 ⟨rfl, rfl⟩
  refine Shut.out hK _ _ ?_ (fun hHeld => ?_)
  · exact hHeld
  clear hK K
  try simp only [pt, List.set]
  refine cE2_17 (fun K hK => ?_)
  rw [if_pos (by rfl)]
  unfold qE2_9
  go_simp
  refine (E1.out _).mono ?_
  rintro e w6 ⟨rfl, rfl⟩
  refine Shut.out hK _ _ ?_ (fun hHeld => ?_)
  · exact hHeld
  clear hK K
  try simp only [pt, List.set]
  refine cE2_18 (fun K hK => ?_)
  rw [if_pos (by rfl)]
  unfold qE2_14
  go_simp
  refine (E2.out _).mono ?_
  rintro e w7 ⟨rfl, rfl⟩
  refine Shut.out hK _ _ ?_ (fun hHeld => ?_)
  · exact hHeld
  clear hK K
  try simp only [pt, List.set]
  refine cE2_19 (fun K hK => ?_)
  rw [if_pos (by rfl)]
  unfold qE2_19
  go_simp
  refine (E3.out _).mono ?_
  rintro e w8 ⟨rfl, rfl⟩
  refine Shut.out hK _ _ ?_ (fun hHeld => ?_)
  · exact hHeld
  clear hK K
  try simp only [pt, List.set]
  refine cE2_20 (fun K hK => ?_)
  rw [if_pos (by rfl)]
  unfold qE2_20
  go_simp
  obtain ⟨bl, hbl⟩ : ∃ bl, V.heap.size = bl := ⟨_, rfl⟩
  rw [hbl]
  obtain ⟨w9, hw9⟩ : ∃ w9, V.alloc (.cells #[.int .i64 v0, .int .i64 v1, .int .i64 v2, .int .i64 v3] 3) = w9 := ⟨_, rfl⟩
  have L0 : w9.cell? ⟨bl, 0, none⟩ = some (.int .i64 v0) := by rw [← hw9, ← hbl]; simp
  have L1 : w9.cell? ⟨bl, 1, none⟩ = some (.int .i64 v1) := by rw [← hw9, ← hbl]; simp
  have L2 : w9.cell? ⟨bl, 2, none⟩ = some (.int .i64 v2) := by rw [← hw9, ← hbl]; simp
  have L3 : w9.cell? ⟨bl, 3, none⟩ = some (.int .i64 v3) := by rw [← hw9, ← hbl]; simp
  have hH9 := hHeld.below (((Below.refl _ V).alloc (Nat.le_refl _) (.cells #[.int .i64 v0, .int .i64 v1, .int .i64 v2, .int .i64 v3] 3)))
  rw [hw9] at hH9 ⊢
  clear hw9 hbl
  refine Shut.out hK _ _ ?_ (fun hHeld => ?_)
  · exact hH9
  clear hK K
  try simp only [pt, List.set]
  refine cE2_21 (fun K hK => ?_)
  rw [if_pos (by rfl)]
  unfold qE2_21
  go_simp
  refine (cmpOr4_at v0 v1 v2 v3 r HR.out bl w9 L0 L1 L2 L3).mono ?_
  rintro e w10 ⟨rfl, rfl⟩
  refine Shut.out hK _ _ ?_ (fun hHeld => ?_)
  · exact hHeld
  clear hK K
  try simp only [pt, List.set]
  refine regY tE2_22 (.int .i64 r) (fun W hSw => by unfold qE2_22; go_simp) hHeld ?_
  try simp only [pt, List.set]
  refine wpAnyH_done (by kernel_rfl) ?_ _
  have HB := Lib.hid (below_chain B0.out hHeld.bel)
  clear hHeld T0 B0 E0 E1 E2 E3
  go_wp2
  go_ret
  exact ⟨rfl, HB.out⟩
theorem implCeOrd_is {p0 p1 p2 p3 q0 q1 q2 q3 v : Int} (h : ordCe (p0, p1, p2, p3) (q0, q1, q2, q3) = v) (W : World) : Calls Try.prog 122 #[.agg #[.int .i64 p0, .int .i64 p1, .int .i64 p2, .int .i64 p3], .agg #[.int .i64 q0, .int .i64 q1, .int .i64 q2, .int .i64 q3]] W fun e w' => e = .returned (.int .i64 v) ∧ Below W.heap.size W w' := by
  subst h; exact implCeOrd_any _ _ _ _ _ _ _ _ W
end Go.Proofs.Ytbbagpnjjjohpaa.hexes

