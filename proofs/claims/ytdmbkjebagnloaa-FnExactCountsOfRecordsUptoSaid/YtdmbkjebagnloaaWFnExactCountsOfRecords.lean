/-
  The walk of FnExactCountsOfRecords.
-/
import Derived.Test.YtdmbkjebagnloaaVFnExactCountsOfRecords
import Derived.Test.YtdmbkjebagnloaaImplCntR
import Derived.Test.YtdmbkjebagnloaaRcCame
namespace Go.Proofs.Ytdmbkjebagnloaa.fnExactCountsOfRecords
open Go.RowKit Go.Proofs.Ytdmbkjebagnloaa.hexes

theorem walk (A : Option Addr) (n c : Nat) (zs : List Rc) (w : World) (hZ : IsRcs w A n zs) (hn : n ≤ 1000000) :
    Calls Try.prog 9 #[.slice A n c] w fun e w' => e = .returned (.bool true) ∧ Below w.heap.size w w' :=
  walk_of A n c zs w hZ (fun hl _ _ A c _ W h => implCntR_any n zs hl A c W h hn)
end Go.Proofs.Ytdmbkjebagnloaa.fnExactCountsOfRecords
