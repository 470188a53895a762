/-
  What the exact laws on lists of stamps go by: the size check, a list against itself.
-/
import Derived.Test.YtdmbkjebagnloaaStList
namespace Go.Proofs.Ytdmbkjebagnloaa.hexes
open Go.RowKit

end Go.Proofs.Ytdmbkjebagnloaa.hexes
