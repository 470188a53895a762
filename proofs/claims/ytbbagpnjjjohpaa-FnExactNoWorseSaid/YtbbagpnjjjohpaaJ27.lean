/-
  What Fixpoint returns is closed, and no worse than what it began with.
-/
import Derived.Test.YtbbagpnjjjohpaaJ26
import Derived.Test.YtbbagpnjjjohpaaJ25

namespace Go.Proofs.Ytbbagpnjjjohpaa.hexes

def nwC (a b : List Ce) : Bool := b.all fun y => (leastC a y.1 y.2.1 y.2.2.1).2 && decide ((leastC a y.1 y.2.1 y.2.2.1).1 ≤ y.2.2.2)

end Go.Proofs.Ytbbagpnjjjohpaa.hexes

