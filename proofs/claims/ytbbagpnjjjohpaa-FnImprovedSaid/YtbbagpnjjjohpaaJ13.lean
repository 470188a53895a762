/-
  The reference's CellOrder: the contract of spec.CellOrder.
-/
import Derived.Test.YtbbagpnjjjohpaaJ10
import Derived.Test.YtbbagpnjjjohpaaJ12

namespace Go.Proofs.Ytbbagpnjjjohpaa.hexes
open Go.RowKit

structure CeTwo (W : World) (b : Nat) (p0 p1 p2 p3 q0 q1 q2 q3 : Int) (w' : World) : Prop where
  c0 : w'.cell? ⟨b, 0, none⟩ = some (.int .i64 p0)
  c1 : w'.cell? ⟨b, 1, none⟩ = some (.int .i64 p1)
  c2 : w'.cell? ⟨b, 2, none⟩ = some (.int .i64 p2)
  c3 : w'.cell? ⟨b, 3, none⟩ = some (.int .i64 p3)
  d0 : w'.cell? ⟨b + 1, 0, none⟩ = some (.int .i64 q0)
  d1 : w'.cell? ⟨b + 1, 1, none⟩ = some (.int .i64 q1)
  d2 : w'.cell? ⟨b + 1, 2, none⟩ = some (.int .i64 q2)
  d3 : w'.cell? ⟨b + 1, 3, none⟩ = some (.int .i64 q3)
  bel : Below W.heap.size W w'
theorem CeTwo.drew {W : World} {b : Nat} {p0 p1 p2 p3 q0 q1 q2 q3 : Int} {w' : World} (h : CeTwo W b p0 p1 p2 p3 q0 q1 q2 q3 w') : CeTwo W b p0 p1 p2 p3 q0 q1 q2 q3 w'.drew := ⟨h.c0, h.c1, h.c2, h.c3, h.d0, h.d1, h.d2, h.d3, h.bel.drew⟩
theorem CeTwo.below {W : World} {b : Nat} {p0 p1 p2 p3 q0 q1 q2 q3 : Int} {w' w2 : World} (h : CeTwo W b p0 p1 p2 p3 q0 q1 q2 q3 w') (hb : Below w'.heap.size w' w2) : CeTwo W b p0 p1 p2 p3 q0 q1 q2 q3 w2 := ⟨below_keep hb h.c0, below_keep hb h.c1, below_keep hb h.c2, below_keep hb h.c3, below_keep hb h.d0, below_keep hb h.d1, below_keep hb h.d2, below_keep hb h.d3, below_chain h.bel hb⟩

theorem specL02_is {a b v : Int} (h : ordI a b = v) (W : World) : Calls Try.prog 120 #[.int .i64 a, .int .i64 b] W fun e w' => e = .returned (.int .i64 v) ∧ Below W.heap.size W w' := by
  subst h
  refine (specOrd_any a b W).mono ?_
  rintro e w' ⟨rfl, rfl⟩
  exact ⟨rfl, Below.refl _ _⟩
set_option maxRecDepth 1000000 in
set_option maxHeartbeats 4000000 in
theorem specCeOrd_any (p0 p1 p2 p3 q0 q1 q2 q3 : Int) (w : World) :
    Calls Try.prog 108 #[.agg #[.int .i64 p0, .int .i64 p1, .int .i64 p2, .int .i64 p3], .agg #[.int .i64 q0, .int .i64 q1, .int .i64 q2, .int .i64 q3]] w fun e w' => e = .returned (.int .i64 (ordCe (p0, p1, p2, p3) (q0, q1, q2, q3))) ∧ Below w.heap.size w w' := by
  obtain ⟨A, hA⟩ : ∃ A : Ce, (p0, p1, p2, p3) = A := ⟨_, rfl⟩
  obtain ⟨B, hB⟩ : ∃ B : Ce, (q0, q1, q2, q3) = B := ⟨_, rfl⟩
  obtain ⟨v0, h0⟩ : ∃ v, ordI p1 q1 = v := ⟨_, rfl⟩
  obtain ⟨v1, h1⟩ : ∃ v, ordI p0 q0 = v := ⟨_, rfl⟩
  obtain ⟨v2, h2⟩ : ∃ v, ordI p2 q2 = v := ⟨_, rfl⟩
  obtain ⟨v3, h3⟩ : ∃ v, ordI p3 q3 = v := ⟨_, rfl⟩
  have HO := Lib.hid (show ordCe A B = if v0 ≠ 0 then v0 else if v1 ≠ 0 then v1 else if v2 ≠ 0 then v2 else v3 by rw [← hA, ← hB, ← h0, ← h1, ← h2, ← h3]; rfl)
  have E0 := Lib.hid (fun W => specL02_is h0 W)
  have E1 := Lib.hid (fun W => specL02_is h1 W)
  have E2 := Lib.hid (fun W => specL02_is h2 W)
  have E3 := Lib.hid (fun W => specL02_is h3 W)
  rw [hA, hB]
  clear h0 h1 h2 h3 hA hB
  obtain ⟨W0, hW0⟩ : ∃ W0, (w.alloc (.cells #[.int .i64 p0, .int .i64 p1, .int .i64 p2, .int .i64 p3] 38)).alloc (.cells #[.int .i64 q0, .int .i64 q1, .int .i64 q2, .int .i64 q3] 38) = W0 := ⟨_, rfl⟩
  have B0 := Lib.hid (show Below w.heap.size w W0 by rw [← hW0]; exact ((Below.refl _ _).alloc (by simp) _).alloc (by simp) _)
  have T0 := Lib.hid (show CeTwo W0 w.heap.size p0 p1 p2 p3 q0 q1 q2 q3 W0 from ⟨by rw [← hW0]; exact alloc_keep (by simp), by rw [← hW0]; exact alloc_keep (by simp), by rw [← hW0]; exact alloc_keep (by simp), by rw [← hW0]; exact alloc_keep (by simp), by rw [← hW0]; simp, by rw [← hW0]; simp, by rw [← hW0]; simp, by rw [← hW0]; simp, Below.refl _ _⟩)
  go_enter Try.func108, Try.ntmps108
  go_wp2_with fail

  clear hW0
  refine wp_region_held_drew (S := CeTwo W0 w.heap.size p0 p1 p2 p3 q0 q1 q2 q3) (by kernel_rfl) ?_ (fun hHeld => ?_)
  · skip
    exact T0.out.drew
  change wpAnyH _ _ opsE1 _ _ 22 (LE1 0) _ _
  refine regY tE1_0 (.pointer (some ⟨w.heap.size, 1, none⟩)) (fun W hSw => by unfold qE1_0; go_simp) hHeld ?_
  try simp only [pt, List.set]
  refine regY tE1_1 (.int .i64 p1) (fun W hSw => by unfold qE1_1; obtain ⟨c0, c1, c2, c3, d0, d1, d2, d3, bl⟩ := hSw; go_simp) hHeld ?_
  try simp only [pt, List.set]
  refine regY tE1_2 (.pointer (some ⟨w.heap.size + 1, 1, none⟩)) (fun W hSw => by unfold qE1_2; go_simp) hHeld ?_
  try simp only [pt, List.set]
  refine regY tE1_3 (.int .i64 q1) (fun W hSw => by unfold qE1_3; obtain ⟨c0, c1, c2, c3, d0, d1, d2, d3, bl⟩ := hSw; go_simp) hHeld ?_
  try simp only [pt, List.set]
  refine regY tE1_4 (.pointer (some ⟨w.heap.size, 0, none⟩)) (fun W hSw => by unfold qE1_5; go_simp) hHeld ?_
  try simp only [pt, List.set]
  refine regY tE1_5 (.int .i64 p0) (fun W hSw => by unfold qE1_6; obtain ⟨c0, c1, c2, c3, d0, d1, d2, d3, bl⟩ := hSw; go_simp) hHeld ?_
  try simp only [pt, List.set]
  refine regY tE1_6 (.pointer (some ⟨w.heap.size + 1, 0, none⟩)) (fun W hSw => by unfold qE1_7; go_simp) hHeld ?_
  try simp only [pt, List.set]
  refine regY tE1_7 (.int .i64 q0) (fun W hSw => by unfold qE1_8; obtain ⟨c0, c1, c2, c3, d0, d1, d2, d3, bl⟩ := hSw; go_simp) hHeld ?_
  try simp only [pt, List.set]
  refine regY tE1_8 (.pointer (some ⟨w.heap.size, 2, none⟩)) (fun W hSw => by unfold qE1_10; go_simp) hHeld ?_
  try simp only [pt, List.set]
  refine regY tE1_9 (.int .i64 p2) (fun W hSw => by unfold qE1_11; obtain ⟨c0, c1, c2, c3, d0, d1, d2, d3, bl⟩ := hSw; go_simp) hHeld ?_
  try simp only [pt, List.set]
  refine regY tE1_10 (.pointer (some ⟨w.heap.size + 1, 2, none⟩)) (fun W hSw => by unfold qE1_12; go_simp) hHeld ?_
  try simp only [pt, List.set]
  refine regY tE1_11 (.int .i64 q2) (fun W hSw => by unfold qE1_13; obtain ⟨c0, c1, c2, c3, d0, d1, d2, d3, bl⟩ := hSw; go_simp) hHeld ?_
  try simp only [pt, List.set]
  refine regY tE1_12 (.pointer (some ⟨w.heap.size, 3, none⟩)) (fun W hSw => by unfold qE1_15; go_simp) hHeld ?_
  try simp only [pt, List.set]
  refine regY tE1_13 (.int .i64 p3) (fun W hSw => by unfold qE1_16; obtain ⟨c0, c1, c2, c3, d0, d1, d2, d3, bl⟩ := hSw; go_simp) hHeld ?_
  try simp only [pt, List.set]
  refine regY tE1_14 (.pointer (some ⟨w.heap.size + 1, 3, none⟩)) (fun W hSw => by unfold qE1_17; go_simp) hHeld ?_
  try simp only [pt, List.set]
  refine regY tE1_15 (.int .i64 q3) (fun W hSw => by unfold qE1_18; obtain ⟨c0, c1, c2, c3, d0, d1, d2, d3, bl⟩ := hSw; go_simp) hHeld ?_
  try simp only [pt, List.set]
  refine cE1_16 (fun K hK => ?_)
  rw [if_pos (by rfl)]
  unfold qE1_4
  go_simp
  with_reducible refine (E0.out _).mono ?_
  rintro e w5 ⟨rfl, hbd⟩
  dsimp only
  refine Shut.out hK _ _ ?_ (fun hHeld => ?_)
  · skip
    exact hHeld.below hbd
  clear hK K
  try simp only [pt, List.set]
  refine cE1_17 (fun K hK => ?_)
  rw [if_pos (by rfl)]
  unfold qE1_9
  go_simp
  with_reducible refine (E1.out _).mono ?_
  rintro e w6 ⟨rfl, hbd⟩
  dsimp only
  refine Shut.out hK _ _ ?_ (fun hHeld => ?_)
  · skip
    exact hHeld.below hbd
  clear hK K
  try simp only [pt, List.set]
  refine cE1_18 (fun K hK => ?_)
  rw [if_pos (by rfl)]
  unfold qE1_14
  go_simp
  with_reducible refine (E2.out _).mono ?_
  rintro e w7 ⟨rfl, hbd⟩
  dsimp only
  refine Shut.out hK _ _ ?_ (fun hHeld => ?_)
  · skip
    exact hHeld.below hbd
  clear hK K
  try simp only [pt, List.set]
  refine cE1_19 (fun K hK => ?_)
  rw [if_pos (by rfl)]
  unfold qE1_19
  go_simp
  with_reducible refine (E3.out _).mono ?_
  rintro e w8 ⟨rfl, hbd⟩
  dsimp only
  refine Shut.out hK _ _ ?_ (fun hHeld => ?_)
  · skip
    exact hHeld.below hbd
  clear hK K
  try simp only [pt, List.set]
  refine cE1_20 (fun K hK => ?_)
  rw [if_pos (by rfl)]
  unfold qE1_20
  go_simp
  obtain ⟨bl, hbl⟩ : ∃ bl, w8.heap.size = bl := ⟨_, rfl⟩
  rw [hbl]
  obtain ⟨w9, hw9⟩ : ∃ w9, w8.alloc (.cells #[.int .i64 v0, .int .i64 v1, .int .i64 v2, .int .i64 v3] 3) = w9 := ⟨_, rfl⟩
  have L0 : w9.cell? ⟨bl, 0, none⟩ = some (.int .i64 v0) := by rw [← hw9, ← hbl]; simp
  have L1 : w9.cell? ⟨bl, 1, none⟩ = some (.int .i64 v1) := by rw [← hw9, ← hbl]; simp
  have L2 : w9.cell? ⟨bl, 2, none⟩ = some (.int .i64 v2) := by rw [← hw9, ← hbl]; simp
  have L3 : w9.cell? ⟨bl, 3, none⟩ = some (.int .i64 v3) := by rw [← hw9, ← hbl]; simp
  have hH9 := hHeld.below (((Below.refl _ w8).alloc (Nat.le_refl _) (.cells #[.int .i64 v0, .int .i64 v1, .int .i64 v2, .int .i64 v3] 3)))
  rw [hw9] at hH9 ⊢
  clear hw9 hbl
  refine Shut.out hK _ _ ?_ (fun hHeld => ?_)
  · exact hH9
  clear hK K
  try simp only [pt, List.set]
  refine regY tE1_21 (.slice (some ⟨bl, 0, none⟩) 4 4) (fun W hSw => by unfold qE1_21; go_simp) hHeld ?_
  try simp only [pt, List.set]
  refine wpAnyH_done (by kernel_rfl) ?_ _
  have HB := Lib.hid (below_chain B0.out hHeld.bel)
  clear hHeld T0 B0 E0 E1 E2 E3
  go_wp2
  go_loop [6] (fun i => (i = .int .i64 0) ∨ (i = .int .i64 1 ∧ v0 = 0) ∨ (i = .int .i64 2 ∧ v0 = 0 ∧ v1 = 0) ∨ (i = .int .i64 3 ∧ v0 = 0 ∧ v1 = 0 ∧ v2 = 0) ∨ (i = .int .i64 4 ∧ v0 = 0 ∧ v1 = 0 ∧ v2 = 0 ∧ v3 = 0)) (fun i => 4 - (intOf i).toNat)
  case atStart => exact .inl rfl
  case round =>
    rcases hrel with rfl | ⟨rfl, z0⟩ | ⟨rfl, z0, z1⟩ | ⟨rfl, z0, z1, z2⟩ | ⟨rfl, z0, z1, z2, z3⟩
    · by_cases hz : v0 = 0
      · have n0 : (v0 != 0) = false := by simpa using hz
        go_wp2
        go_round
        case rel => exact .inr (.inl ⟨by go_num, hz⟩)
        case measure => simp [intOf]
      · have n0 : (v0 != 0) = true := by simpa using hz
        have HF := Lib.hid (show ordCe A B = v0 by rw [HO.out]; simp [hz])
        go_wp2
        go_ret
        exact ⟨congrArg (fun b => Ending.returned (Value.int .i64 b)) HF.out.symm, HB.out⟩
    · by_cases hz : v1 = 0
      · have n0 : (v1 != 0) = false := by simpa using hz
        go_wp2
        go_round
        case rel => exact .inr (.inr (.inl ⟨by go_num, z0, hz⟩))
        case measure => simp [intOf]
      · have n0 : (v1 != 0) = true := by simpa using hz
        have HF := Lib.hid (show ordCe A B = v1 by rw [HO.out, z0]; simp [hz])
        go_wp2
        go_ret
        exact ⟨congrArg (fun b => Ending.returned (Value.int .i64 b)) HF.out.symm, HB.out⟩
    · by_cases hz : v2 = 0
      · have n0 : (v2 != 0) = false := by simpa using hz
        go_wp2
        go_round
        case rel => exact .inr (.inr (.inr (.inl ⟨by go_num, z0, z1, hz⟩)))
        case measure => simp [intOf]
      · have n0 : (v2 != 0) = true := by simpa using hz
        have HF := Lib.hid (show ordCe A B = v2 by rw [HO.out, z0, z1]; simp [hz])
        go_wp2
        go_ret
        exact ⟨congrArg (fun b => Ending.returned (Value.int .i64 b)) HF.out.symm, HB.out⟩
    · by_cases hz : v3 = 0
      · have n0 : (v3 != 0) = false := by simpa using hz
        go_wp2
        go_round
        case rel => exact .inr (.inr (.inr (.inr (⟨by go_num, z0, z1, z2, hz⟩))))
        case measure => simp [intOf]
      · have n0 : (v3 != 0) = true := by simpa using hz
        have HF := Lib.hid (show ordCe A B = v3 by rw [HO.out, z0, z1, z2]; simp)
        go_wp2
        go_ret
        exact ⟨congrArg (fun b => Ending.returned (Value.int .i64 b)) HF.out.symm, HB.out⟩
    · have HF := Lib.hid (show ordCe A B = 0 by rw [HO.out, z0, z1, z2, z3]; simp)
      go_wp2
      go_ret
      exact ⟨congrArg (fun b => Ending.returned (Value.int .i64 b)) HF.out.symm, HB.out⟩
end Go.Proofs.Ytbbagpnjjjohpaa.hexes

