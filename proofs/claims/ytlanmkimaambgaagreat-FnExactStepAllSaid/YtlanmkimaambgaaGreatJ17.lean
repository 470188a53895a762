/-
  Cells: the contracts of the laws' eqCell and toCell.
-/
import Derived.Test.YtlanmkimaambgaaGreatJ12
import Derived.Test.YtlanmkimaambgaaGreatJ0
import Derived.Test.YtlanmkimaambgaaGreatJ1
import Derived.Test.YtlanmkimaambgaaGreatJ3

namespace Go.Proofs.YtlanmkimaambgaaGreat.hexes
open Go.RowKit

theorem eqCell_at (p0 p1 p2 p3 q0 q1 q2 q3 : Int) (w : World) :
    Calls Tryz.prog 30 #[.agg #[.int .i64 p0, .int .i64 p1, .int .i64 p2, .int .i64 p3], .agg #[.int .i64 q0, .int .i64 q1, .int .i64 q2, .int .i64 q3]] w fun e w' => e = .returned (.bool (decide (p0 = q0 ∧ p1 = q1 ∧ p2 = q2 ∧ p3 = q3))) ∧ (w.alloc (.cells #[.int .i64 p0, .int .i64 p1, .int .i64 p2, .int .i64 p3] 57)).alloc (.cells #[.int .i64 q0, .int .i64 q1, .int .i64 q2, .int .i64 q3] 57) = w' := by
  go_enter Tryz.func30, Tryz.ntmps30
  go_wp2
  all_goals (go_ret; refine ⟨?_, rfl⟩; simp_all)

theorem eqCell_any (p0 p1 p2 p3 q0 q1 q2 q3 : Int) (w : World) : Calls Tryz.prog 30 #[.agg #[.int .i64 p0, .int .i64 p1, .int .i64 p2, .int .i64 p3], .agg #[.int .i64 q0, .int .i64 q1, .int .i64 q2, .int .i64 q3]] w fun e w' => e = .returned (.bool (decide (p0 = q0 ∧ p1 = q1 ∧ p2 = q2 ∧ p3 = q3))) ∧ Below w.heap.size w w' :=
  (eqCell_at p0 p1 p2 p3 q0 q1 q2 q3 w).mono fun _ _ ⟨he, hw⟩ => ⟨he, hw ▸ ((Below.refl _ _).alloc (by simp) _).alloc (by simp) _⟩

theorem toCell_at (p0 p1 p2 p3 : Int) (w : World) :
    Calls Tryz.prog 24 #[.agg #[.int .i64 p0, .int .i64 p1, .int .i64 p2, .int .i64 p3]] w fun e w' => e = .returned (.agg #[.int .i64 p0, .int .i64 p1, .int .i64 p2, .int .i64 p3]) ∧ ((w.alloc (.cells #[.int .i64 p0, .int .i64 p1, .int .i64 p2, .int .i64 p3] 59)).alloc (.cells #[.int .i64 p0, .int .i64 p1, .int .i64 p2, .int .i64 p3] 57)).alloc (.cells #[.int .i64 p0, .int .i64 p1, .int .i64 p2, .int .i64 p3] 57) = w' := by
  go_enter Tryz.func24, Tryz.ntmps24
  go_wp2
  exact bodyPost_ret (v := .agg #[.int .i64 p0, .int .i64 p1, .int .i64 p2, .int .i64 p3]) (by simp [results, Tryz.results24, go_sem]) rfl ⟨rfl, rfl⟩

theorem toCell_any (p0 p1 p2 p3 : Int) (w : World) : Calls Tryz.prog 24 #[.agg #[.int .i64 p0, .int .i64 p1, .int .i64 p2, .int .i64 p3]] w fun e w' => e = .returned (.agg #[.int .i64 p0, .int .i64 p1, .int .i64 p2, .int .i64 p3]) ∧ Below w.heap.size w w' :=
  (toCell_at p0 p1 p2 p3 w).mono fun _ _ ⟨he, hw⟩ => ⟨he, hw ▸ (((Below.refl _ _).alloc (by simp) _).alloc (by simp) _).alloc (by simp; omega) _⟩
end Go.Proofs.YtlanmkimaambgaaGreat.hexes

