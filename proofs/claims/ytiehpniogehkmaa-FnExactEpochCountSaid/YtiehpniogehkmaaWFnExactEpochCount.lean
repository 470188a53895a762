/-
  The walk of FnExactEpochCount.
-/
import Derived.Test.YtiehpniogehkmaaVFnExactEpochCount
import Derived.Test.YtiehpniogehkmaaImplCt1
namespace Go.Proofs.Ytiehpniogehkmaa.fnExactEpochCount
open Go.RowKit Go.Proofs.Ytiehpniogehkmaa.hexes

theorem walk (A : Option Addr) (n c : Nat) (zs : List Ct) (nn : Int) (_hn : (Lit.int .i64 nn).wf = true) (w : World) (hZ : IsCts w A n zs) :
    Calls Try.prog 10 #[.slice A n c, .int .i64 nn] w fun e w' => e = .returned (.bool true) ∧ Below w.heap.size w w' :=
  walk_of A n c zs nn _hn w hZ (fun hl hn A c _ W h => implEpoch_any n zs hl A c nn W h (by omega))
end Go.Proofs.Ytiehpniogehkmaa.fnExactEpochCount
