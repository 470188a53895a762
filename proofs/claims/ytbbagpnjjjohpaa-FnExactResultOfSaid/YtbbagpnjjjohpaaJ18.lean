/-
  The reference's CellOrder: the contract of spec.CellOrder.
  Chapter 9's plain functions as the reference has them: the contracts of spec.CellsOk, spec.HasCell, spec.LeastOf, spec.CellsOf, and of laws.sameCells.
-/
import Derived.Test.YtbbagpnjjjohpaaJ15
import Derived.Test.YtbbagpnjjjohpaaJ17
import Derived.Laws.AppendOwnNone

namespace Go.Proofs.Ytbbagpnjjjohpaa.hexes
open Go.RowKit

structure CeTwo (W : World) (b : Nat) (p0 p1 p2 p3 q0 q1 q2 q3 : Int) (w' : World) : Prop where
  c0 : w'.cell? ⟨b, 0, none⟩ = some (.int .i64 p0)
  c1 : w'.cell? ⟨b, 1, none⟩ = some (.int .i64 p1)
  c2 : w'.cell? ⟨b, 2, none⟩ = some (.int .i64 p2)
  c3 : w'.cell? ⟨b, 3, none⟩ = some (.int .i64 p3)
  d0 : w'.cell? ⟨b + 1, 0, none⟩ = some (.int .i64 q0)
  d1 : w'.cell? ⟨b + 1, 1, none⟩ = some (.int .i64 q1)
  d2 : w'.cell? ⟨b + 1, 2, none⟩ = some (.int .i64 q2)
  d3 : w'.cell? ⟨b + 1, 3, none⟩ = some (.int .i64 q3)
  bel : Below W.heap.size W w'
theorem CeTwo.drew {W : World} {b : Nat} {p0 p1 p2 p3 q0 q1 q2 q3 : Int} {w' : World} (h : CeTwo W b p0 p1 p2 p3 q0 q1 q2 q3 w') : CeTwo W b p0 p1 p2 p3 q0 q1 q2 q3 w'.drew := ⟨h.c0, h.c1, h.c2, h.c3, h.d0, h.d1, h.d2, h.d3, h.bel.drew⟩
theorem CeTwo.below {W : World} {b : Nat} {p0 p1 p2 p3 q0 q1 q2 q3 : Int} {w' w2 : World} (h : CeTwo W b p0 p1 p2 p3 q0 q1 q2 q3 w') (hb : Below w'.heap.size w' w2) : CeTwo W b p0 p1 p2 p3 q0 q1 q2 q3 w2 := ⟨below_keep hb h.c0, below_keep hb h.c1, below_keep hb h.c2, below_keep hb h.c3, below_keep hb h.d0, below_keep hb h.d1, below_keep hb h.d2, below_keep hb h.d3, below_chain h.bel hb⟩

theorem specL02_is {a b v : Int} (h : ordI a b = v) (W : World) : Calls Try.prog 120 #[.int .i64 a, .int .i64 b] W fun e w' => e = .returned (.int .i64 v) ∧ Below W.heap.size W w' := by
  subst h
  refine (specOrd_any a b W).mono ?_
  rintro e w' ⟨rfl, rfl⟩
  exact ⟨rfl, Below.refl _ _⟩
set_option maxRecDepth 1000000 in
set_option maxHeartbeats 4000000 in
theorem specCeOrd_any (p0 p1 p2 p3 q0 q1 q2 q3 : Int) (w : World) :
    Calls Try.prog 108 #[.agg #[.int .i64 p0, .int .i64 p1, .int .i64 p2, .int .i64 p3], .agg #[.int .i64 q0, .int .i64 q1, .int .i64 q2, .int .i64 q3]] w fun e w' => e = .returned (.int .i64 (ordCe (p0, p1, p2, p3) (q0, q1, q2, q3))) ∧ Below w.heap.size w w' := by
  obtain ⟨A, hA⟩ : ∃ A : Ce, (p0, p1, p2, p3) = A := ⟨_, rfl⟩
  obtain ⟨B, hB⟩ : ∃ B : Ce, (q0, q1, q2, q3) = B := ⟨_, rfl⟩
  obtain ⟨v0, h0⟩ : ∃ v, ordI p1 q1 = v := ⟨_, rfl⟩
  obtain ⟨v1, h1⟩ : ∃ v, ordI p0 q0 = v := ⟨_, rfl⟩
  obtain ⟨v2, h2⟩ : ∃ v, ordI p2 q2 = v := ⟨_, rfl⟩
  obtain ⟨v3, h3⟩ : ∃ v, ordI p3 q3 = v := ⟨_, rfl⟩
  have HO := Lib.hid (show ordCe A B = if v0 ≠ 0 then v0 else if v1 ≠ 0 then v1 else if v2 ≠ 0 then v2 else v3 by rw [← hA, ← hB, ← h0, ← h1, ← h2, ← h3]; rfl)
  have E0 := Lib.hid (fun W => specL02_is h0 W)
  have E1 := Lib.hid (fun W => specL02_is h1 W)
  have E2 := Lib.hid (fun W => specL02_is h2 W)
  have E3 := Lib.hid (fun W => specL02_is h3 W)
  rw [hA, hB]
  clear h0 h1 h2 h3 hA hB
  obtain ⟨W0, hW0⟩ : ∃ W0, (w.alloc (.cells #[.int .i64 p0, .int .i64 p1, .int .i64 p2, .int .i64 p3] 38)).alloc (.cells #[.int .i64 q0, .int .i64 q1, .int .i64 q2, .int .i64 q3] 38) = W0 := ⟨_, rfl⟩
  have B0 := Lib.hid (show Below w.heap.size w W0 by rw [← hW0]; exact ((Below.refl _ _).alloc (by simp) _).alloc (by simp) _)
  have T0 := Lib.hid (show CeTwo W0 w.heap.size p0 p1 p2 p3 q0 q1 q2 q3 W0 from ⟨by rw [← hW0]; exact alloc_keep (by simp), by rw [← hW0]; exact alloc_keep (by simp), by rw [← hW0]; exact alloc_keep (by simp), by rw [← hW0]; exact alloc_keep (by simp), by rw [← hW0]; simp, by rw [← hW0]; simp, by rw [← hW0]; simp, by rw [← hW0]; simp, Below.refl _ _⟩)
  go_enter Try.func108, Try.ntmps108
  go_wp2_with fail

  clear hW0
  refine wp_region_held_drew (S := CeTwo W0 w.heap.size p0 p1 p2 p3 q0 q1 q2 q3) (by kernel_rfl) ?_ (fun hHeld => ?_)
  · skip
    exact T0.out.drew
  change wpAnyH _ _ opsE1 _ _ 22 (LE1 0) _ _
  refine regY tE1_0 (.pointer (some ⟨w.heap.size, 1, none⟩)) (fun W hSw => by unfold qE1_0; go_simp) hHeld ?_
  try simp only [pt, List.set]
  refine regY tE1_1 (.int .i64 p1) (fun W hSw => by unfold qE1_1; obtain ⟨c0, c1, c2, c3, d0, d1, d2, d3, bl⟩ := hSw; go_simp) hHeld ?_
  try simp only [pt, List.set]
  refine regY tE1_2 (.pointer (some ⟨w.heap.size + 1, 1, none⟩)) (fun W hSw => by unfold qE1_2; go_simp) hHeld ?_
  try simp only [pt, List.set]
  refine regY tE1_3 (.int .i64 q1) (fun W hSw => by unfold qE1_3; obtain ⟨c0, c1, c2, c3, d0, d1, d2, d3, bl⟩ := hSw; go_simp) hHeld ?_
  try simp only [pt, List.set]
  refine regY tE1_4 (.pointer (some ⟨w.heap.size, 0, none⟩)) (fun W hSw => by unfold qE1_5; go_simp) hHeld ?_
  try simp only [pt, List.set]
  refine regY tE1_5 (.int .i64 p0) (fun W hSw => by unfold qE1_6; obtain ⟨c0, c1, c2, c3, d0, d1, d2, d3, bl⟩ := hSw; go_simp) hHeld ?_
  try simp only [pt, List.set]
  refine regY tE1_6 (.pointer (some ⟨w.heap.size + 1, 0, none⟩)) (fun W hSw => by unfold qE1_7; go_simp) hHeld ?_
  try simp only [pt, List.set]
  refine regY tE1_7 (.int .i64 q0) (fun W hSw => by unfold qE1_8; obtain ⟨c0, c1, c2, c3, d0, d1, d2, d3, bl⟩ := hSw; go_simp) hHeld ?_
  try simp only [pt, List.set]
  refine regY tE1_8 (.pointer (some ⟨w.heap.size, 2, none⟩)) (fun W hSw => by unfold qE1_10; go_simp) hHeld ?_
  try simp only [pt, List.set]
  refine regY tE1_9 (.int .i64 p2) (fun W hSw => by unfold qE1_11; obtain ⟨c0, c1, c2, c3, d0, d1, d2, d3, bl⟩ := hSw; go_simp) hHeld ?_
  try simp only [pt, List.set]
  refine regY tE1_10 (.pointer (some ⟨w.heap.size + 1, 2, none⟩)) (fun W hSw => by unfold qE1_12; go_simp) hHeld ?_
  try simp only [pt, List.set]
  refine regY tE1_11 (.int .i64 q2) (fun W hSw => by unfold qE1_13; obtain ⟨c0, c1, c2, c3, d0, d1, d2, d3, bl⟩ := hSw; go_simp) hHeld ?_
  try simp only [pt, List.set]
  refine regY tE1_12 (.pointer (some ⟨w.heap.size, 3, none⟩)) (fun W hSw => by unfold qE1_15; go_simp) hHeld ?_
  try simp only [pt, List.set]
  refine regY tE1_13 (.int .i64 p3) (fun W hSw => by unfold qE1_16; obtain ⟨c0, c1, c2, c3, d0, d1, d2, d3, bl⟩ := hSw; go_simp) hHeld ?_
  try simp only [pt, List.set]
  refine regY tE1_14 (.pointer (some ⟨w.heap.size + 1, 3, none⟩)) (fun W hSw => by unfold qE1_17; go_simp) hHeld ?_
  try simp only [pt, List.set]
  refine regY tE1_15 (.int .i64 q3) (fun W hSw => by unfold qE1_18; obtain ⟨c0, c1, c2, c3, d0, d1, d2, d3, bl⟩ := hSw; go_simp) hHeld ?_
  try simp only [pt, List.set]
  refine cE1_16 (fun K hK => ?_)
  rw [if_pos (by rfl)]
  unfold qE1_4
  go_simp
  with_reducible refine (E0.out _).mono ?_
  rintro e w5 ⟨rfl, hbd⟩
  dsimp only
  refine Shut.out hK _ _ ?_ (fun hHeld => ?_)
  · skip
    exact hHeld.below hbd
  clear hK K
  try simp only [pt, List.set]
  refine cE1_17 (fun K hK => ?_)
  rw [if_pos (by rfl)]
  unfold qE1_9
  go_simp
  with_reducible refine (E1.out _).mono ?_
  rintro e w6 ⟨rfl, hbd⟩
  dsimp only
  refine Shut.out hK _ _ ?_ (fun hHeld => ?_)
  · skip
    exact hHeld.below hbd
  clear hK K
  try simp only [pt, List.set]
  refine cE1_18 (fun K hK => ?_)
  rw [if_pos (by rfl)]
  unfold qE1_14
  go_simp
  with_reducible refine (E2.out _).mono ?_
  rintro e w7 ⟨rfl, hbd⟩
  dsimp only
  refine Shut.out hK _ _ ?_ (fun hHeld => ?_)
  · skip
    exact hHeld.below hbd
  clear hK K
  try simp only [pt, List.set]
  refine cE1_19 (fun K hK => ?_)
  rw [if_pos (by rfl)]
  unfold qE1_19
  go_simp
  with_reducible refine (E3.out _).mono ?_
  rintro e w8 ⟨rfl, hbd⟩
  dsimp only
  refine Shut.out hK _ _ ?_ (fun hHeld => ?_)
  · skip
    exact hHeld.below hbd
  clear hK K
  try simp only [pt, List.set]
  refine cE1_20 (fun K hK => ?_)
  rw [if_pos (by rfl)]
  unfold qE1_20
  go_simp
  obtain ⟨bl, hbl⟩ : ∃ bl, w8.heap.size = bl := ⟨_, rfl⟩
  rw [hbl]
  obtain ⟨w9, hw9⟩ : ∃ w9, w8.alloc (.cells #[.int .i64 v0, .int .i64 v1, .int .i64 v2, .int .i64 v3] 3) = w9 := ⟨_, rfl⟩
  have L0 : w9.cell? ⟨bl, 0, none⟩ = some (.int .i64 v0) := by rw [← hw9, ← hbl]; simp
  have L1 : w9.cell? ⟨bl, 1, none⟩ = some (.int .i64 v1) := by rw [← hw9, ← hbl]; simp
  have L2 : w9.cell? ⟨bl, 2, none⟩ = some (.int .i64 v2) := by rw [← hw9, ← hbl]; simp
  have L3 : w9.cell? ⟨bl, 3, none⟩ = some (.int .i64 v3) := by rw [← hw9, ← hbl]; simp
  have hH9 := hHeld.below (((Below.refl _ w8).alloc (Nat.le_refl _) (.cells #[.int .i64 v0, .int .i64 v1, .int .i64 v2, .int .i64 v3] 3)))
  rw [hw9] at hH9 ⊢
  clear hw9 hbl
  refine Shut.out hK _ _ ?_ (fun hHeld => ?_)
  · exact hH9
  clear hK K
  try simp only [pt, List.set]
  refine regY tE1_21 (.slice (some ⟨bl, 0, none⟩) 4 4) (fun W hSw => by unfold qE1_21; go_simp) hHeld ?_
  try simp only [pt, List.set]
  refine wpAnyH_done (by kernel_rfl) ?_ _
  have HB := Lib.hid (below_chain B0.out hHeld.bel)
  clear hHeld T0 B0 E0 E1 E2 E3
  go_wp2
  go_loop [6] (fun i => (i = .int .i64 0) ∨ (i = .int .i64 1 ∧ v0 = 0) ∨ (i = .int .i64 2 ∧ v0 = 0 ∧ v1 = 0) ∨ (i = .int .i64 3 ∧ v0 = 0 ∧ v1 = 0 ∧ v2 = 0) ∨ (i = .int .i64 4 ∧ v0 = 0 ∧ v1 = 0 ∧ v2 = 0 ∧ v3 = 0)) (fun i => 4 - (intOf i).toNat)
  case atStart => exact .inl rfl
  case round =>
    rcases hrel with rfl | ⟨rfl, z0⟩ | ⟨rfl, z0, z1⟩ | ⟨rfl, z0, z1, z2⟩ | ⟨rfl, z0, z1, z2, z3⟩
    · by_cases hz : v0 = 0
      · have n0 : (v0 != 0) = false := by simpa using hz
        go_wp2
        go_round
        case rel => exact .inr (.inl ⟨by go_num, hz⟩)
        case measure => simp [intOf]
      · have n0 : (v0 != 0) = true := by simpa using hz
        have HF := Lib.hid (show ordCe A B = v0 by rw [HO.out]; simp [hz])
        go_wp2
        go_ret
        exact ⟨congrArg (fun b => Ending.returned (Value.int .i64 b)) HF.out.symm, HB.out⟩
    · by_cases hz : v1 = 0
      · have n0 : (v1 != 0) = false := by simpa using hz
        go_wp2
        go_round
        case rel => exact .inr (.inr (.inl ⟨by go_num, z0, hz⟩))
        case measure => simp [intOf]
      · have n0 : (v1 != 0) = true := by simpa using hz
        have HF := Lib.hid (show ordCe A B = v1 by rw [HO.out, z0]; simp [hz])
        go_wp2
        go_ret
        exact ⟨congrArg (fun b => Ending.returned (Value.int .i64 b)) HF.out.symm, HB.out⟩
    · by_cases hz : v2 = 0
      · have n0 : (v2 != 0) = false := by simpa using hz
        go_wp2
        go_round
        case rel => exact .inr (.inr (.inr (.inl ⟨by go_num, z0, z1, hz⟩)))
        case measure => simp [intOf]
      · have n0 : (v2 != 0) = true := by simpa using hz
        have HF := Lib.hid (show ordCe A B = v2 by rw [HO.out, z0, z1]; simp [hz])
        go_wp2
        go_ret
        exact ⟨congrArg (fun b => Ending.returned (Value.int .i64 b)) HF.out.symm, HB.out⟩
    · by_cases hz : v3 = 0
      · have n0 : (v3 != 0) = false := by simpa using hz
        go_wp2
        go_round
        case rel => exact .inr (.inr (.inr (.inr (⟨by go_num, z0, z1, z2, hz⟩))))
        case measure => simp [intOf]
      · have n0 : (v3 != 0) = true := by simpa using hz
        have HF := Lib.hid (show ordCe A B = v3 by rw [HO.out, z0, z1, z2]; simp)
        go_wp2
        go_ret
        exact ⟨congrArg (fun b => Ending.returned (Value.int .i64 b)) HF.out.symm, HB.out⟩
    · have HF := Lib.hid (show ordCe A B = 0 by rw [HO.out, z0, z1, z2, z3]; simp)
      go_wp2
      go_ret
      exact ⟨congrArg (fun b => Ending.returned (Value.int .i64 b)) HF.out.symm, HB.out⟩
end Go.Proofs.Ytbbagpnjjjohpaa.hexes

namespace Go.Proofs.Ytbbagpnjjjohpaa.hexes
open Go.RowKit

theorem specCeOrd_is {p0 p1 p2 p3 q0 q1 q2 q3 v : Int} (h : ordCe (p0, p1, p2, p3) (q0, q1, q2, q3) = v) (W : World) : Calls Try.prog 108 #[.agg #[.int .i64 p0, .int .i64 p1, .int .i64 p2, .int .i64 p3], .agg #[.int .i64 q0, .int .i64 q1, .int .i64 q2, .int .i64 q3]] W fun e w' => e = .returned (.int .i64 v) ∧ Below W.heap.size W w' := by
  subst h; exact specCeOrd_any _ _ _ _ _ _ _ _ W

set_option maxRecDepth 100000 in
set_option maxHeartbeats 4000000 in
theorem specHas_any (n : Nat) (zs : List Ce) (hz : zs.length = n) (A : Option Addr) (c : Nat) (x0 x1 x2 x3 : Int) (w : World) (h1 : Ces w A zs) (hn : n ≤ 4194304) :
    Calls Try.prog 86 #[.slice A n c, .agg #[.int .i64 x0, .int .i64 x1, .int .i64 x2, .int .i64 x3]] w fun e w' => e = .returned (.bool (hasC zs (x0, x1, x2, x3))) ∧ Below w.heap.size w w' := by
  have H1 := Lib.hid h1
  have HZ := Lib.hid hz
  clear h1 hz
  go_enter Try.func86, Try.ntmps86
  go_wp2
  go_loopw [5] (fun i wr => ∃ k : Nat, k ≤ n ∧ i = .int .i64 k ∧ (x0, x1, x2, x3) ∉ zs.take k ∧ Below w.heap.size w wr ∧ wr.cell? ⟨w.heap.size, 0, none⟩ = some (.int .i64 x0) ∧ wr.cell? ⟨w.heap.size, 1, none⟩ = some (.int .i64 x1) ∧ wr.cell? ⟨w.heap.size, 2, none⟩ = some (.int .i64 x2) ∧ wr.cell? ⟨w.heap.size, 3, none⟩ = some (.int .i64 x3)) (fun i _ => n - (intOf i).toNat)
  case atStart => exact ⟨0, Nat.zero_le _, rfl, by simp, (Below.refl _ _).alloc (Nat.le_refl _) _, by simp, by simp, by simp, by simp⟩
  case round =>
    obtain ⟨k, hk, rfl, ht, hb, s0, s1, s2, s3⟩ := hrel
    have HT := Lib.hid ht
    have HB := Lib.hid hb
    clear ht
    by_cases hlt : k < n
    · have l1 : k < zs.length := by rw [HZ.out]; exact hlt
      obtain ⟨b1, o1, p0, p1, p2, p3, rfl, xz, e0, e1, e2, e3⟩ := (H1.out.below hb).at l1
      have X1 := Lib.hid xz
      have i0 : (0 : Int) ≤ (k : Int) := by omega
      have i1 : (k : Int) < (n : Int) := by omega
      clear hb xz
      by_cases he : p0 = x0 ∧ p1 = x1 ∧ p2 = x2 ∧ p3 = x3
      · obtain ⟨rfl, rfl, rfl, rfl⟩ := he
        have HF := Lib.hid (hasC_hit l1 X1.out)
        clear HT X1 l1
        go_wp2_with fail
        go_region_held3 (fun w' => w'.cell? ⟨b1, o1 + k * 4, none⟩ = some (.int .i64 p0) ∧ w'.cell? ⟨b1, o1 + k * 4 + 1, none⟩ = some (.int .i64 p1) ∧ w'.cell? ⟨b1, o1 + k * 4 + 2, none⟩ = some (.int .i64 p2) ∧ w'.cell? ⟨b1, o1 + k * 4 + 3, none⟩ = some (.int .i64 p3) ∧ w'.cell? ⟨w.heap.size, 0, none⟩ = some (.int .i64 p0) ∧ w'.cell? ⟨w.heap.size, 1, none⟩ = some (.int .i64 p1) ∧ w'.cell? ⟨w.heap.size, 2, none⟩ = some (.int .i64 p2) ∧ w'.cell? ⟨w.heap.size, 3, none⟩ = some (.int .i64 p3))
          (((try go_split_ands); refine ⟨?_, ?_, ?_, ?_, ?_, ?_, ?_, ?_⟩ <;> (repeat (first | with_reducible assumption | with_reducible refine drew_keep ?_))))
          (fail)
        go_wp2
        go_ret
        exact ⟨congrArg (fun b => Ending.returned (Value.bool b)) HF.out.symm, HB.out.drew⟩
      · have HT2 := Lib.hid (hasC_step l1 HT.out (by rw [X1.out]; exact fun h => he (by simpa [Prod.mk.injEq] using h)))
        clear HT X1 l1
        by_cases h0 : p0 = x0
        · subst h0
          by_cases h1 : p1 = x1
          · subst h1
            by_cases h2 : p2 = x2
            · subst h2
              have h3 : ¬p3 = x3 := fun h => he (by simp [h])
              clear he
              go_wp2_with fail
              go_region_held3 (fun w' => w'.cell? ⟨b1, o1 + k * 4, none⟩ = some (.int .i64 p0) ∧ w'.cell? ⟨b1, o1 + k * 4 + 1, none⟩ = some (.int .i64 p1) ∧ w'.cell? ⟨b1, o1 + k * 4 + 2, none⟩ = some (.int .i64 p2) ∧ w'.cell? ⟨b1, o1 + k * 4 + 3, none⟩ = some (.int .i64 p3) ∧ w'.cell? ⟨w.heap.size, 0, none⟩ = some (.int .i64 p0) ∧ w'.cell? ⟨w.heap.size, 1, none⟩ = some (.int .i64 p1) ∧ w'.cell? ⟨w.heap.size, 2, none⟩ = some (.int .i64 p2) ∧ w'.cell? ⟨w.heap.size, 3, none⟩ = some (.int .i64 x3))
                (((try go_split_ands); refine ⟨?_, ?_, ?_, ?_, ?_, ?_, ?_, ?_⟩ <;> (repeat (first | with_reducible assumption | with_reducible refine drew_keep ?_))))
                (fail)
              have T0 := drew_keep s0
              have T1 := drew_keep s1
              have T2 := drew_keep s2
              have T3 := drew_keep s3
              go_wp2
              go_roundw
              case rel => exact ⟨k + 1, by omega, by go_num, HT2.out, HB.out.drew, T0, T1, T2, T3⟩
              case measure => simp [intOf]; omega
            · clear he
              go_wp2_with fail
              go_region_held3 (fun w' => w'.cell? ⟨b1, o1 + k * 4, none⟩ = some (.int .i64 p0) ∧ w'.cell? ⟨b1, o1 + k * 4 + 1, none⟩ = some (.int .i64 p1) ∧ w'.cell? ⟨b1, o1 + k * 4 + 2, none⟩ = some (.int .i64 p2) ∧ w'.cell? ⟨b1, o1 + k * 4 + 3, none⟩ = some (.int .i64 p3) ∧ w'.cell? ⟨w.heap.size, 0, none⟩ = some (.int .i64 p0) ∧ w'.cell? ⟨w.heap.size, 1, none⟩ = some (.int .i64 p1) ∧ w'.cell? ⟨w.heap.size, 2, none⟩ = some (.int .i64 x2) ∧ w'.cell? ⟨w.heap.size, 3, none⟩ = some (.int .i64 x3))
                (((try go_split_ands); refine ⟨?_, ?_, ?_, ?_, ?_, ?_, ?_, ?_⟩ <;> (repeat (first | with_reducible assumption | with_reducible refine drew_keep ?_))))
                (fail)
              have T0 := drew_keep s0
              have T1 := drew_keep s1
              have T2 := drew_keep s2
              have T3 := drew_keep s3
              go_wp2
              go_roundw
              case rel => exact ⟨k + 1, by omega, by go_num, HT2.out, HB.out.drew, T0, T1, T2, T3⟩
              case measure => simp [intOf]; omega
          · clear he
            go_wp2_with fail
            go_region_held3 (fun w' => w'.cell? ⟨b1, o1 + k * 4, none⟩ = some (.int .i64 p0) ∧ w'.cell? ⟨b1, o1 + k * 4 + 1, none⟩ = some (.int .i64 p1) ∧ w'.cell? ⟨b1, o1 + k * 4 + 2, none⟩ = some (.int .i64 p2) ∧ w'.cell? ⟨b1, o1 + k * 4 + 3, none⟩ = some (.int .i64 p3) ∧ w'.cell? ⟨w.heap.size, 0, none⟩ = some (.int .i64 p0) ∧ w'.cell? ⟨w.heap.size, 1, none⟩ = some (.int .i64 x1) ∧ w'.cell? ⟨w.heap.size, 2, none⟩ = some (.int .i64 x2) ∧ w'.cell? ⟨w.heap.size, 3, none⟩ = some (.int .i64 x3))
              (((try go_split_ands); refine ⟨?_, ?_, ?_, ?_, ?_, ?_, ?_, ?_⟩ <;> (repeat (first | with_reducible assumption | with_reducible refine drew_keep ?_))))
              (fail)
            have T0 := drew_keep s0
            have T1 := drew_keep s1
            have T2 := drew_keep s2
            have T3 := drew_keep s3
            go_wp2
            go_roundw
            case rel => exact ⟨k + 1, by omega, by go_num, HT2.out, HB.out.drew, T0, T1, T2, T3⟩
            case measure => simp [intOf]; omega
        · clear he
          go_wp2_with fail
          go_region_held3 (fun w' => w'.cell? ⟨b1, o1 + k * 4, none⟩ = some (.int .i64 p0) ∧ w'.cell? ⟨b1, o1 + k * 4 + 1, none⟩ = some (.int .i64 p1) ∧ w'.cell? ⟨b1, o1 + k * 4 + 2, none⟩ = some (.int .i64 p2) ∧ w'.cell? ⟨b1, o1 + k * 4 + 3, none⟩ = some (.int .i64 p3) ∧ w'.cell? ⟨w.heap.size, 0, none⟩ = some (.int .i64 x0) ∧ w'.cell? ⟨w.heap.size, 1, none⟩ = some (.int .i64 x1) ∧ w'.cell? ⟨w.heap.size, 2, none⟩ = some (.int .i64 x2) ∧ w'.cell? ⟨w.heap.size, 3, none⟩ = some (.int .i64 x3))
            (((try go_split_ands); refine ⟨?_, ?_, ?_, ?_, ?_, ?_, ?_, ?_⟩ <;> (repeat (first | with_reducible assumption | with_reducible refine drew_keep ?_))))
            (fail)
          have T0 := drew_keep s0
          have T1 := drew_keep s1
          have T2 := drew_keep s2
          have T3 := drew_keep s3
          go_wp2
          go_roundw
          case rel => exact ⟨k + 1, by omega, by go_num, HT2.out, HB.out.drew, T0, T1, T2, T3⟩
          case measure => simp [intOf]; omega
    · have HF := Lib.hid (hasC_miss (k := k) (by rw [HZ.out]; omega) HT.out)
      clear hb
      go_wp2
      go_ret
      exact ⟨congrArg (fun b => Ending.returned (Value.bool b)) HF.out.symm, HB.out⟩

set_option maxRecDepth 100000 in
set_option maxHeartbeats 4000000 in
theorem specLeast_any (n : Nat) (zs : List Ce) (hz : zs.length = n) (A : Option Addr) (c : Nat) (o ep ky : Int) (w : World) (h1 : Ces w A zs) (hn : n ≤ 4194304) :
    Calls Try.prog 31 #[.slice A n c, .int .i64 o, .int .i64 ep, .int .i64 ky] w fun e w' => e = .returned (.tuple #[.int .i64 (leastC zs o ep ky).1, .bool (leastC zs o ep ky).2]) ∧ Below w.heap.size w w' := by
  have H1 := Lib.hid h1
  have HZ := Lib.hid hz
  clear h1 hz
  go_enter Try.func31, Try.ntmps31
  go_wp2
  go_loopw [10, 11, 12] (fun a b i wr => ∃ (k : Nat) (m : Int) (some : Bool), k ≤ n ∧ i = .int .i64 k ∧ a = .int .i64 m ∧ b = .bool some ∧ leastC (zs.take k) o ep ky = (m, some) ∧ Below w.heap.size w wr) (fun _ _ i _ => n - (intOf i).toNat)
  case atStart => exact ⟨0, 0, false, Nat.zero_le _, rfl, rfl, rfl, rfl, Below.refl _ _⟩
  case round =>
    obtain ⟨k, m, some, hk, rfl, rfl, rfl, ht, hb⟩ := hrel
    have HT := Lib.hid ht
    have HB := Lib.hid hb
    clear ht
    by_cases hlt : k < n
    · have l1 : k < zs.length := by rw [HZ.out]; exact hlt
      obtain ⟨b1, o1, p0, p1, p2, p3, rfl, x1, e0, e1, e2, e3⟩ := (H1.out.below hb).at l1
      have i0 : (0 : Int) ≤ (k : Int) := by omega
      have i1 : (k : Int) < (n : Int) := by omega
      have BA := Lib.hid (HB.out.alloc HB.out.size (.cells #[.int .i64 p0, .int .i64 p1, .int .i64 p2, .int .i64 p3] 38))
      have ST := Lib.hid (show leastC (zs.take (k + 1)) o ep ky = leastStep o ep ky (m, some) (p0, p1, p2, p3) by rw [least_step l1, HT.out, x1])
      clear hb x1 HT l1
      by_cases h0 : p0 = o
      rotate_left
      · have HS := Lib.hid (show leastC (zs.take (k + 1)) o ep ky = (m, some) by rw [ST.out]; simp [leastStep, keyC, h0])
        have d0 : (p0 == o) = false := by simpa using h0
        clear ST h0
        skip
        go_wp2
        go_roundw
        case rel => exact ⟨k + 1, m, some, by omega, by go_num, rfl, rfl, HS.out, BA.out⟩
        case measure => simp [intOf]; omega
      have d0 : (p0 == o) = true := by simpa using h0
      by_cases h1 : p1 = ep
      rotate_left
      · have HS := Lib.hid (show leastC (zs.take (k + 1)) o ep ky = (m, some) by rw [ST.out]; simp [leastStep, keyC, h1])
        have d1 : (p1 == ep) = false := by simpa using h1
        clear ST h0 h1
        skip
        go_wp2
        go_roundw
        case rel => exact ⟨k + 1, m, some, by omega, by go_num, rfl, rfl, HS.out, BA.out⟩
        case measure => simp [intOf]; omega
      have d1 : (p1 == ep) = true := by simpa using h1
      by_cases h2 : p2 = ky
      rotate_left
      · have HS := Lib.hid (show leastC (zs.take (k + 1)) o ep ky = (m, some) by rw [ST.out]; simp [leastStep, keyC, h2])
        have d2 : (p2 == ky) = false := by simpa using h2
        clear ST h0 h1 h2
        skip
        go_wp2
        go_roundw
        case rel => exact ⟨k + 1, m, some, by omega, by go_num, rfl, rfl, HS.out, BA.out⟩
        case measure => simp [intOf]; omega
      have d2 : (p2 == ky) = true := by simpa using h2
      cases some with
      | false =>
        have HS := Lib.hid (show leastC (zs.take (k + 1)) o ep ky = (p3, true) by rw [ST.out]; simp [leastStep, keyC, h0, h1, h2])
        clear ST h0 h1 h2
        skip
        go_wp2
        go_roundw
        case rel => exact ⟨k + 1, p3, true, by omega, by go_num, rfl, rfl, HS.out, BA.out⟩
        case measure => simp [intOf]; omega
      | true =>
        by_cases h3 : p3 < m
        · have HS := Lib.hid (show leastC (zs.take (k + 1)) o ep ky = (p3, true) by rw [ST.out]; simp [leastStep, keyC, h0, h1, h2, h3])
          have d3 : decide (p3 < m) = true := decide_eq_true h3
          clear ST h0 h1 h2 h3
          skip
          go_wp2
          go_roundw
          case rel => exact ⟨k + 1, p3, true, by omega, by go_num, rfl, rfl, HS.out, BA.out⟩
          case measure => simp [intOf]; omega
        · have HS := Lib.hid (show leastC (zs.take (k + 1)) o ep ky = (m, true) by rw [ST.out]; simp [leastStep, keyC, h0, h1, h2, h3])
          have d3 : decide (p3 < m) = false := decide_eq_false h3
          clear ST h0 h1 h2 h3
          skip
          go_wp2
          go_roundw
          case rel => exact ⟨k + 1, m, true, by omega, by go_num, rfl, rfl, HS.out, BA.out⟩
          case measure => simp [intOf]; omega
    · have hfin : leastC zs o ep ky = (m, some) := by rw [← HT.out, least_all (by rw [HZ.out]; omega)]
      have HF := Lib.hid hfin
      clear hb hfin
      go_wp2
      exact bodyPost_ret (v := .tuple #[.int .i64 m, .bool some]) (by simp [results, Try.results31, go_sem]) rfl ⟨by rw [HF.out], HB.out⟩

end Go.Proofs.Ytbbagpnjjjohpaa.hexes

