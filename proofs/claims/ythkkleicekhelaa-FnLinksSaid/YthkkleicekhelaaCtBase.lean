/-
  Counts: the contracts of the laws' toCount and eqCount.
-/
import Derived.Test.YthkkleicekhelaaCtList
import Derived.Test.YthkkleicekhelaaStList
import Derived.Test.YthkkleicekhelaaCursor
import Derived.Test.YthkkleicekhelaaDrawBlk
namespace Go.Proofs.Ythkkleicekhelaa.hexes
open Go.RowKit

end Go.Proofs.Ythkkleicekhelaa.hexes
