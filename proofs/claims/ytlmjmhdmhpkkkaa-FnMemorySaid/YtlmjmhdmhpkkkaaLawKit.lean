/-
  What the exact laws on lists of stamps go by: the size check, a list against itself.
-/
import Derived.Test.YtlmjmhdmhpkkkaaStList
namespace Go.Proofs.Ytlmjmhdmhpkkkaa.hexes
open Go.RowKit

end Go.Proofs.Ytlmjmhdmhpkkkaa.hexes
