/-
  The walk of FnExactAddCounts.
-/
import Derived.Test.YtiehpniogehkmaaVFnExactAddCounts
import Derived.Test.YtiehpniogehkmaaImplAdj
namespace Go.Proofs.Ytiehpniogehkmaa.fnExactAddCounts
open Go.RowKit Go.Proofs.Ytiehpniogehkmaa.hexes

theorem walk (A : Option Addr) (n c : Nat) (zs : List Ct) (A' : Option Addr) (n' c' : Nat) (ys : List Ct) (w : World) (hZ : IsCts w A n zs) (hY : IsCts w A' n' ys) :
    Calls Try.prog 7 #[.slice A n c, .slice A' n' c'] w fun e w' => e = .returned (.bool true) ∧ Below w.heap.size w w' :=
  walk_of A n c zs A' n' c' ys w hZ hY (fun hl hl' hn A c hA A' c' _ W h h' => implAdd_any n n' zs ys hl hl' A A' c c' hA W h h' (by omega))
end Go.Proofs.Ytiehpniogehkmaa.fnExactAddCounts
