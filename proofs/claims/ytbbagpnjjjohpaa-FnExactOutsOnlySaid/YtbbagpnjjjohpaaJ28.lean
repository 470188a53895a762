/-
  Cells: the contracts of the laws' eqCell and toCell.
-/
import Derived.Test.YtbbagpnjjjohpaaJ20
import Derived.Test.YtbbagpnjjjohpaaJ2
import Derived.Test.YtbbagpnjjjohpaaJ3
import Derived.Test.YtbbagpnjjjohpaaJ7

namespace Go.Proofs.Ytbbagpnjjjohpaa.hexes
open Go.RowKit

theorem eqCell_at (p0 p1 p2 p3 q0 q1 q2 q3 : Int) (w : World) :
    Calls Try.prog 67 #[.agg #[.int .i64 p0, .int .i64 p1, .int .i64 p2, .int .i64 p3], .agg #[.int .i64 q0, .int .i64 q1, .int .i64 q2, .int .i64 q3]] w fun e w' => e = .returned (.bool (decide (p0 = q0 ∧ p1 = q1 ∧ p2 = q2 ∧ p3 = q3))) ∧ (w.alloc (.cells #[.int .i64 p0, .int .i64 p1, .int .i64 p2, .int .i64 p3] 38)).alloc (.cells #[.int .i64 q0, .int .i64 q1, .int .i64 q2, .int .i64 q3] 38) = w' := by
  go_enter Try.func67, Try.ntmps67
  go_wp2
  all_goals (go_ret; refine ⟨?_, rfl⟩; simp_all)

theorem eqCell_any (p0 p1 p2 p3 q0 q1 q2 q3 : Int) (w : World) : Calls Try.prog 67 #[.agg #[.int .i64 p0, .int .i64 p1, .int .i64 p2, .int .i64 p3], .agg #[.int .i64 q0, .int .i64 q1, .int .i64 q2, .int .i64 q3]] w fun e w' => e = .returned (.bool (decide (p0 = q0 ∧ p1 = q1 ∧ p2 = q2 ∧ p3 = q3))) ∧ Below w.heap.size w w' :=
  (eqCell_at p0 p1 p2 p3 q0 q1 q2 q3 w).mono fun _ _ ⟨he, hw⟩ => ⟨he, hw ▸ ((Below.refl _ _).alloc (by simp) _).alloc (by simp) _⟩

theorem toCell_at (p0 p1 p2 p3 : Int) (w : World) :
    Calls Try.prog 36 #[.agg #[.int .i64 p0, .int .i64 p1, .int .i64 p2, .int .i64 p3]] w fun e w' => e = .returned (.agg #[.int .i64 p0, .int .i64 p1, .int .i64 p2, .int .i64 p3]) ∧ ((w.alloc (.cells #[.int .i64 p0, .int .i64 p1, .int .i64 p2, .int .i64 p3] 59)).alloc (.cells #[.int .i64 p0, .int .i64 p1, .int .i64 p2, .int .i64 p3] 38)).alloc (.cells #[.int .i64 p0, .int .i64 p1, .int .i64 p2, .int .i64 p3] 38) = w' := by
  go_enter Try.func36, Try.ntmps36
  go_wp2
  exact bodyPost_ret (v := .agg #[.int .i64 p0, .int .i64 p1, .int .i64 p2, .int .i64 p3]) (by simp [results, Try.results36, go_sem]) rfl ⟨rfl, rfl⟩

theorem toCell_any (p0 p1 p2 p3 : Int) (w : World) : Calls Try.prog 36 #[.agg #[.int .i64 p0, .int .i64 p1, .int .i64 p2, .int .i64 p3]] w fun e w' => e = .returned (.agg #[.int .i64 p0, .int .i64 p1, .int .i64 p2, .int .i64 p3]) ∧ Below w.heap.size w w' :=
  (toCell_at p0 p1 p2 p3 w).mono fun _ _ ⟨he, hw⟩ => ⟨he, hw ▸ (((Below.refl _ _).alloc (by simp) _).alloc (by simp) _).alloc (by simp; omega) _⟩
end Go.Proofs.Ytbbagpnjjjohpaa.hexes

