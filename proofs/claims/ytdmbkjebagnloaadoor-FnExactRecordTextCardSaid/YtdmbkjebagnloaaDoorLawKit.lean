/-
  What the exact laws on lists of stamps go by: the size check, a list against itself.
-/
import Derived.Test.YtdmbkjebagnloaaDoorStList
namespace Go.Proofs.YtdmbkjebagnloaaDoor.hexes
open Go.RowKit

end Go.Proofs.YtdmbkjebagnloaaDoor.hexes
