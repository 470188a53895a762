/-
  The walk of FnExactCountAt.
-/
import Derived.Test.YtiehpniogehkmaaVFnExactCountAt
import Derived.Test.YtiehpniogehkmaaImplCt1
namespace Go.Proofs.Ytiehpniogehkmaa.fnExactCountAt
open Go.RowKit Go.Proofs.Ytiehpniogehkmaa.hexes

theorem walk (A : Option Addr) (n c : Nat) (zs : List Ct) (x y : Int) (_hx : (Lit.int .i64 x).wf = true) (_hy : (Lit.int .i64 y).wf = true) (w : World) (hZ : IsCts w A n zs) :
    Calls Try.prog 5 #[.slice A n c, .agg #[.int .i64 x, .int .i64 y]] w fun e w' => e = .returned (.bool true) ∧ Below w.heap.size w w' :=
  walk_of A n c zs x y _hx _hy w hZ (fun hl hn A c _ W h => implCountAt_any n zs hl A c x y W h (by omega))
end Go.Proofs.Ytiehpniogehkmaa.fnExactCountAt
