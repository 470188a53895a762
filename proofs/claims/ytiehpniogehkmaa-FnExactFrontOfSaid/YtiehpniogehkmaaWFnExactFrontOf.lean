/-
  The walk of FnExactFrontOf.
-/
import Derived.Test.YtiehpniogehkmaaVFnExactFrontOf
import Derived.Test.YtiehpniogehkmaaImplFrontOf
namespace Go.Proofs.Ytiehpniogehkmaa.fnExactFrontOf
open Go.RowKit Go.Proofs.Ytiehpniogehkmaa.hexes

theorem walk (A : Option Addr) (n c : Nat) (zs : List Ct) (w : World) (hZ : IsCts w A n zs) :
    Calls Try.prog 8 #[.slice A n c] w fun e w' => e = .returned (.bool true) ∧ Below w.heap.size w w' :=
  walk_of A n c zs w hZ (fun hl hn A c _ W h => implFrontOf_any n zs hl A c W h (by omega))
end Go.Proofs.Ytiehpniogehkmaa.fnExactFrontOf
