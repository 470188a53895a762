/-
  What the exact laws on lists of stamps go by: the size check, a list against itself.
-/
import Derived.Test.YtidpjpakodndhaaStList
namespace Go.Proofs.Ytidpjpakodndhaa.hexes
open Go.RowKit

end Go.Proofs.Ytidpjpakodndhaa.hexes
