/-
  The walk of FnExactAdjust.
-/
import Derived.Test.YtiehpniogehkmaaVFnExactAdjust
import Derived.Test.YtiehpniogehkmaaImplAdj
namespace Go.Proofs.Ytiehpniogehkmaa.fnExactAdjust
open Go.RowKit Go.Proofs.Ytiehpniogehkmaa.hexes

theorem walk (A : Option Addr) (n c : Nat) (zs : List Ct) (x y : Int) (_hx : (Lit.int .i64 x).wf = true) (_hy : (Lit.int .i64 y).wf = true) (nn : Int) (_hn : (Lit.int .i64 nn).wf = true) (w : World) (hZ : IsCts w A n zs) :
    Calls Try.prog 6 #[.slice A n c, .agg #[.int .i64 x, .int .i64 y], .int .i64 nn] w fun e w' => e = .returned (.bool true) ∧ Below w.heap.size w w' :=
  walk_of A n c zs x y _hx _hy nn _hn w hZ (fun hl hn A c hA W h => implAdj_any n zs hl A c hA x y nn _hn W h (by omega))
end Go.Proofs.Ytiehpniogehkmaa.fnExactAdjust
