/-
  Records: the contracts of the laws' eqRecord and toRecord.
-/
import Derived.Test.YthkkleicekhelaaRcList
import Derived.Test.YthkkleicekhelaaCtBase
namespace Go.Proofs.Ythkkleicekhelaa.hexes
open Go.RowKit