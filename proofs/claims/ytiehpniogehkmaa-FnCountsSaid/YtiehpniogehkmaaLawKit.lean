/-
  What the exact laws on lists of stamps go by: the size check, a list against itself.
-/
import Derived.Test.YtiehpniogehkmaaStList
namespace Go.Proofs.Ytiehpniogehkmaa.hexes
open Go.RowKit

theorem eqStS_refl (n : Nat) (zs : List (Int × Int)) (hz : zs.length = n) (A1 A2 : Option Addr) (c1 c2 : Nat) (w : World) (h1 : Sts w A1 zs) (h2 : Sts w A2 zs) (hn : n ≤ 4194304) :
    Calls Try.prog 37 #[.slice A1 n c1, .slice A2 n c2] w fun e w' => e = .returned (.bool true) ∧ Below w.heap.size w w' := by
  have h := eqStS_any n n zs zs hz hz A1 A2 c1 c2 w h1 h2 hn
  simpa using h

end Go.Proofs.Ytiehpniogehkmaa.hexes
