/-
  The walk of FnExactOfEpoch.
-/
import Derived.Test.YtdmbkjebagnloaaVFnExactOfEpoch
import Derived.Test.YtdmbkjebagnloaaImplRc2
import Derived.Test.YtdmbkjebagnloaaRcCame
namespace Go.Proofs.Ytdmbkjebagnloaa.fnExactOfEpoch
open Go.RowKit Go.Proofs.Ytdmbkjebagnloaa.hexes

theorem walk (A : Option Addr) (n c : Nat) (zs : List Rc) (nn : Int) (_hn : (Lit.int .i64 nn).wf = true) (w : World) (hZ : IsRcs w A n zs) :
    Calls Try.prog 8 #[.slice A n c, .int .i64 nn] w fun e w' => e = .returned (.bool true) ∧ Below w.heap.size w w' :=
  walk_of A n c zs nn _hn w hZ (fun hl hn _ A c _ W h => implOfEp_any n zs hl A c nn W h (by omega))
end Go.Proofs.Ytdmbkjebagnloaa.fnExactOfEpoch
