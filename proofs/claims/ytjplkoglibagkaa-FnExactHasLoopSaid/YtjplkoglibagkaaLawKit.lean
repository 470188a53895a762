/-
  What the exact laws on lists of stamps go by: the size check, a list against itself.
-/
import Derived.Test.YtjplkoglibagkaaStList
namespace Go.Proofs.Ytjplkoglibagkaa.hexes
open Go.RowKit

end Go.Proofs.Ytjplkoglibagkaa.hexes
