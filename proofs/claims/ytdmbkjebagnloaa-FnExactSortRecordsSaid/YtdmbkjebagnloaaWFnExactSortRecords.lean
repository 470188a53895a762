/-
  The walk of FnExactSortRecords.
-/
import Derived.Test.YtdmbkjebagnloaaVFnExactSortRecords
import Derived.Test.YtdmbkjebagnloaaImplRcSort
import Derived.Test.YtdmbkjebagnloaaRcCame
namespace Go.Proofs.Ytdmbkjebagnloaa.fnExactSortRecords
open Go.RowKit Go.Proofs.Ytdmbkjebagnloaa.hexes

theorem walk (A : Option Addr) (n c : Nat) (zs : List Rc) (w : World) (hZ : IsRcs w A n zs) :
    Calls Try.prog 6 #[.slice A n c] w fun e w' => e = .returned (.bool true) ∧ Below w.heap.size w w' :=
  walk_of A n c zs w hZ (fun hl hn _ A c hA W h => by rw [sortR_length, hl]; exact implSortRc_any n zs hl A c hA W h (by omega))
end Go.Proofs.Ytdmbkjebagnloaa.fnExactSortRecords
