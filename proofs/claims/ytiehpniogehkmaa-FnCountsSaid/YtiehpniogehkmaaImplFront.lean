/-
  Chapter 3's plain functions as the program has them: the contracts of impl.Ahead, impl.FrontLeq, impl.EpochOver, slices.Equal and impl.SameFront.
-/
import Derived.Test.YtiehpniogehkmaaSpecFront
namespace Go.Proofs.Ytiehpniogehkmaa.hexes
open Go.RowKit

theorem implLeq_is {x y u v : Int} {b : Bool} (h : leqSt x y u v = b) (W : World) : Calls Try.prog 73 #[.agg #[.int .i64 x, .int .i64 y], .agg #[.int .i64 u, .int .i64 v]] W fun e w' => e = .returned (.bool b) ∧ Below W.heap.size W w' := by
  subst h; exact implLeq_any _ _ _ _ W

end Go.Proofs.Ytiehpniogehkmaa.hexes
