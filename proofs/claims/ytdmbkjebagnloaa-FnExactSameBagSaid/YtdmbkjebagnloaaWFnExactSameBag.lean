/-
  The walk of FnExactSameBag.
-/
import Derived.Test.YtdmbkjebagnloaaVFnExactSameBag
import Derived.Test.YtdmbkjebagnloaaImplRc2
import Derived.Test.YtdmbkjebagnloaaRcCame
namespace Go.Proofs.Ytdmbkjebagnloaa.fnExactSameBag
open Go.RowKit Go.Proofs.Ytdmbkjebagnloaa.hexes

theorem walk (A : Option Addr) (n c : Nat) (zs : List Rc) (A' : Option Addr) (n' c' : Nat) (ys : List Rc) (w : World) (hZ : IsRcs w A n zs) (hY : IsRcs w A' n' ys) :
    Calls Try.prog 7 #[.slice A n c, .slice A' n' c'] w fun e w' => e = .returned (.bool true) ∧ Below w.heap.size w w' :=
  walk_of A n c zs A' n' c' ys w hZ hY (fun hl hl' hn _ _ A c hA A' c' hA' W h h' => implBag_any n n' zs ys hl hl' A A' c c' hA hA' W h h' (by omega) (by omega))
end Go.Proofs.Ytdmbkjebagnloaa.fnExactSameBag
