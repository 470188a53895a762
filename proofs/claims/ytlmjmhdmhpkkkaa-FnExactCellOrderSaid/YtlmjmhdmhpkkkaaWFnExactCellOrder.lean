/-
  The walk of FnExactCellOrder.
-/
import Derived.Test.YtlmjmhdmhpkkkaaSpecCeOrd
import Derived.Test.YtlmjmhdmhpkkkaaImplCe1
import Derived.Test.YtlmjmhdmhpkkkaaRegC1
import Derived.Test.YtlmjmhdmhpkkkaaRegC2
namespace Go.Proofs.Ytlmjmhdmhpkkkaa.fnExactCellOrder
open Go.RowKit Go.Proofs.Ytlmjmhdmhpkkkaa.hexes

set_option maxRecDepth 1000000 in
set_option maxHeartbeats 4000000 in
theorem walk (p0 p1 p2 p3 : Int) (_wp0 : (Lit.int .i64 p0).wf = true) (_wp1 : (Lit.int .i64 p1).wf = true) (_wp2 : (Lit.int .i64 p2).wf = true) (_wp3 : (Lit.int .i64 p3).wf = true) (q0 q1 q2 q3 : Int) (_wq0 : (Lit.int .i64 q0).wf = true) (_wq1 : (Lit.int .i64 q1).wf = true) (_wq2 : (Lit.int .i64 q2).wf = true) (_wq3 : (Lit.int .i64 q3).wf = true) (w : World) :
    Calls Try.prog 4 #[.agg #[.int .i64 p0, .int .i64 p1, .int .i64 p2, .int .i64 p3], .agg #[.int .i64 q0, .int .i64 q1, .int .i64 q2, .int .i64 q3]] w fun e w' => e = .returned (.bool true) ∧ Below w.heap.size w w' := by
  have I := Lib.hid (fun W => implCeOrd_any p0 p1 p2 p3 q0 q1 q2 q3 W)
  have SP := Lib.hid (fun W => specCeOrd_any p0 p1 p2 p3 q0 q1 q2 q3 W)
  have TA := Lib.hid (fun W => toCell_any p0 p1 p2 p3 W)
  have TB := Lib.hid (fun W => toCell_any q0 q1 q2 q3 W)
  obtain ⟨r, hr⟩ : ∃ r, r = ordCe (p0, p1, p2, p3) (q0, q1, q2, q3) := ⟨_, rfl⟩
  have HR := Lib.hid hr
  have hrr : (r != r) = false := by simp
  clear hr
  obtain ⟨W0, hW0⟩ : ∃ W0, (w.alloc (.cells #[.int .i64 p0, .int .i64 p1, .int .i64 p2, .int .i64 p3] 48)).alloc (.cells #[.int .i64 q0, .int .i64 q1, .int .i64 q2, .int .i64 q3] 48) = W0 := ⟨_, rfl⟩
  have B0 := Lib.hid (show Below w.heap.size w W0 by rw [← hW0]; exact ((Below.refl _ _).alloc (by simp) _).alloc (by simp) _)
  have T0 := Lib.hid (show CeTwo W0 w.heap.size p0 p1 p2 p3 q0 q1 q2 q3 W0 from ⟨by rw [← hW0]; exact alloc_keep (by simp), by rw [← hW0]; exact alloc_keep (by simp), by rw [← hW0]; exact alloc_keep (by simp), by rw [← hW0]; exact alloc_keep (by simp), by rw [← hW0]; simp, by rw [← hW0]; simp, by rw [← hW0]; simp, by rw [← hW0]; simp, Below.refl _ _⟩)
  go_enter Try.func4, Try.ntmps4
  go_wp2_with fail
  clear hW0
  refine wp_region_held_drew (S := CeTwo W0 w.heap.size p0 p1 p2 p3 q0 q1 q2 q3) (by kernel_rfl) ?_ (fun hHeld => ?_)
  · skip
    exact T0.out.drew
  change wpAnyH _ _ opsC1 _ _ 6 (LC1 0) _ _
  refine tC1_0 (.agg #[.int .i64 p0, .int .i64 p1, .int .i64 p2, .int .i64 p3]) (fun _ _ _ h => h) (Or.inl ⟨by rfl, fun W hSw => ?_⟩) hHeld ?_
  · skip
    unfold qC1_0
    obtain ⟨c0, c1, c2, c3, d0, d1, d2, d3, bl⟩ := hSw
    go_simp
  try simp only [Act.put, List.setIfInBounds_toArray, List.set_cons_zero, List.set_cons_succ]
  refine tC1_1 (.agg #[.int .i64 q0, .int .i64 q1, .int .i64 q2, .int .i64 q3]) (fun _ _ _ h => h) (Or.inl ⟨by rfl, fun W hSw => ?_⟩) hHeld ?_
  · skip
    unfold qC1_2
    obtain ⟨c0, c1, c2, c3, d0, d1, d2, d3, bl⟩ := hSw
    go_simp
  try simp only [Act.put, List.setIfInBounds_toArray, List.set_cons_zero, List.set_cons_succ]
  refine cC1_2 (fun K hK => ?_)
  rw [if_pos (by rfl)]
  unfold qC1_1
  go_simp
  with_reducible refine (TA.out _).mono ?_
  rintro e w1 ⟨rfl, hbd⟩
  dsimp only
  refine Shut.out hK _ _ ?_ (fun hHeld => ?_)
  · skip
    exact hHeld.below hbd
  clear hK K
  try simp only [Act.put, List.setIfInBounds_toArray, List.set_cons_zero, List.set_cons_succ]
  refine cC1_3 (fun K hK => ?_)
  rw [if_pos (by rfl)]
  unfold qC1_3
  go_simp
  with_reducible refine (TB.out _).mono ?_
  rintro e w2 ⟨rfl, hbd⟩
  dsimp only
  refine Shut.out hK _ _ ?_ (fun hHeld => ?_)
  · skip
    exact hHeld.below hbd
  clear hK K
  try simp only [Act.put, List.setIfInBounds_toArray, List.set_cons_zero, List.set_cons_succ]
  refine cC1_4 (fun K hK => ?_)
  rw [if_pos (by rfl)]
  unfold qC1_4
  go_simp
  with_reducible refine (SP.out _).mono ?_
  rintro e w3 ⟨rfl, hbd⟩
  rw [← HR.out]
  dsimp only
  refine Shut.out hK _ _ ?_ (fun hHeld => ?_)
  · skip
    exact hHeld.below hbd
  clear hK K
  try simp only [Act.put, List.setIfInBounds_toArray, List.set_cons_zero, List.set_cons_succ]
  refine tC1_5 (.int .i64 r) (fun _ _ _ h => h) (Or.inl ⟨by rfl, fun W hSw => ?_⟩) hHeld ?_
  · skip
    unfold qC1_5
    go_simp
  try simp only [Act.put, List.setIfInBounds_toArray, List.set_cons_zero, List.set_cons_succ]
  refine wpAnyH_done (by kernel_rfl) ?_ _
  have T1 := Lib.hid hHeld
  clear hHeld T0
  have T0 := T1
  clear T1
  go_wp2_with fail
  refine wp_region_held_drew (S := CeTwo W0 w.heap.size p0 p1 p2 p3 q0 q1 q2 q3) (by kernel_rfl) ?_ (fun hHeld => ?_)
  · skip
    exact T0.out.drew
  change wpAnyH _ _ opsC2 _ _ 6 (LC2 0) _ _
  refine tC2_0 (.agg #[.int .i64 p0, .int .i64 p1, .int .i64 p2, .int .i64 p3]) (fun _ _ _ h => h) (Or.inl ⟨by rfl, fun W hSw => ?_⟩) hHeld ?_
  · skip
    unfold qC2_0
    obtain ⟨c0, c1, c2, c3, d0, d1, d2, d3, bl⟩ := hSw
    go_simp
  try simp only [Act.put, List.setIfInBounds_toArray, List.set_cons_zero, List.set_cons_succ]
  refine tC2_1 (.agg #[.int .i64 q0, .int .i64 q1, .int .i64 q2, .int .i64 q3]) (fun _ _ _ h => h) (Or.inl ⟨by rfl, fun W hSw => ?_⟩) hHeld ?_
  · skip
    unfold qC2_2
    obtain ⟨c0, c1, c2, c3, d0, d1, d2, d3, bl⟩ := hSw
    go_simp
  try simp only [Act.put, List.setIfInBounds_toArray, List.set_cons_zero, List.set_cons_succ]
  refine cC2_2 (fun K hK => ?_)
  rw [if_pos (by rfl)]
  unfold qC2_1
  go_simp
  with_reducible refine (TA.out _).mono ?_
  rintro e w4 ⟨rfl, hbd⟩
  dsimp only
  refine Shut.out hK _ _ ?_ (fun hHeld => ?_)
  · skip
    exact hHeld.below hbd
  clear hK K
  try simp only [Act.put, List.setIfInBounds_toArray, List.set_cons_zero, List.set_cons_succ]
  refine cC2_3 (fun K hK => ?_)
  rw [if_pos (by rfl)]
  unfold qC2_3
  go_simp
  with_reducible refine (TB.out _).mono ?_
  rintro e w5 ⟨rfl, hbd⟩
  dsimp only
  refine Shut.out hK _ _ ?_ (fun hHeld => ?_)
  · skip
    exact hHeld.below hbd
  clear hK K
  try simp only [Act.put, List.setIfInBounds_toArray, List.set_cons_zero, List.set_cons_succ]
  refine cC2_4 (fun K hK => ?_)
  rw [if_pos (by rfl)]
  unfold qC2_4
  go_simp
  with_reducible refine (I.out _).mono ?_
  rintro e w6 ⟨rfl, hbd⟩
  rw [← HR.out]
  dsimp only
  refine Shut.out hK _ _ ?_ (fun hHeld => ?_)
  · skip
    exact hHeld.below hbd
  clear hK K
  try simp only [Act.put, List.setIfInBounds_toArray, List.set_cons_zero, List.set_cons_succ]
  refine tC2_5 (.int .i64 r) (fun _ _ _ h => h) (Or.inl ⟨by rfl, fun W hSw => ?_⟩) hHeld ?_
  · skip
    unfold qC2_5
    go_simp
  try simp only [Act.put, List.setIfInBounds_toArray, List.set_cons_zero, List.set_cons_succ]
  refine wpAnyH_done (by kernel_rfl) ?_ _
  have B9 := Lib.hid (below_chain B0.out hHeld.bel)
  clear hHeld T0
  go_wp2
  go_ret
  exact ⟨rfl, B9.out⟩
end Go.Proofs.Ytlmjmhdmhpkkkaa.fnExactCellOrder
