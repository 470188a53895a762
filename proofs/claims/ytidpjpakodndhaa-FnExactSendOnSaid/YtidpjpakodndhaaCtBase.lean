/-
  Counts: the contracts of the laws' toCount and eqCount.
-/
import Derived.Test.YtidpjpakodndhaaCtList
import Derived.Test.YtidpjpakodndhaaStList
import Derived.Test.YtidpjpakodndhaaCursor
import Derived.Test.YtidpjpakodndhaaDrawBlk
namespace Go.Proofs.Ytidpjpakodndhaa.hexes
open Go.RowKit

end Go.Proofs.Ytidpjpakodndhaa.hexes
