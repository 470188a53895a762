/-
  What the exact laws on lists of stamps go by: the size check, a list against itself.
-/
import Derived.Test.YthkkleicekhelaaDoorStList
namespace Go.Proofs.YthkkleicekhelaaDoor.hexes
open Go.RowKit

end Go.Proofs.YthkkleicekhelaaDoor.hexes
