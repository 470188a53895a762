/-
  What the exact laws on lists of stamps go by: the size check, a list against itself.
-/
import Derived.Test.YthkkleicekhelaaStList
namespace Go.Proofs.Ythkkleicekhelaa.hexes
open Go.RowKit

end Go.Proofs.Ythkkleicekhelaa.hexes
