/-
  The walk of FnExactStampOk.
-/
import Derived.Test.YtpodppmcdikmbaaStamps
namespace Go.Proofs.Ytpodppmcdikmbaa.fnExactStampOk
open Go.RowKit Go.Proofs.Ytpodppmcdikmbaa.hexes

theorem walk (x y : Int) (_ : (Lit.int .i64 x).wf = true) (_ : (Lit.int .i64 y).wf = true) (w : World) :
    Calls Try.prog 4 #[.agg #[.int .i64 x, .int .i64 y]] w fun e w' => e = .returned (.bool true) ∧ Below w.heap.size w w' := by
  go_enter Try.func4, Try.ntmps4
  go_wp2_with (first | (go_at_call 16; refine (toStamp_at _ _ _).mono ?_; rintro e w1 ⟨rfl, rfl⟩) | (go_at_call 15; refine (specOk_at _ _ _).mono ?_; rintro e w1 ⟨rfl, rfl⟩) | (go_at_call 17; refine (implOk_at _ _ _).mono ?_; rintro e w1 ⟨rfl, rfl⟩))
  go_ret
  refine ⟨rfl, ?_⟩
  repeat (first | with_reducible exact Below.refl _ _ | with_reducible refine Below.drew ?_ | (with_reducible refine Below.alloc ?_ (by simp; try omega) _))
end Go.Proofs.Ytpodppmcdikmbaa.fnExactStampOk
