/-
  Counts: the contracts of the laws' toCount and eqCount.
-/
import Derived.Test.YtdmbkjebagnloaaDoorCtList
import Derived.Test.YtdmbkjebagnloaaDoorStList
import Derived.Test.YtdmbkjebagnloaaDoorCursor
import Derived.Test.YtdmbkjebagnloaaDoorDrawBlk
namespace Go.Proofs.YtdmbkjebagnloaaDoor.hexes
open Go.RowKit

end Go.Proofs.YtdmbkjebagnloaaDoor.hexes
