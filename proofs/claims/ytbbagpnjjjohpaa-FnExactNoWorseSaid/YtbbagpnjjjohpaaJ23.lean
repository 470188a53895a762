/-
  Records as lists: the order of records, what sorting gives, bags, epochs, counts by stamp.
  Remembers on both sides.
-/
import Derived.Test.YtbbagpnjjjohpaaJ22
import Derived.Test.YtbbagpnjjjohpaaJ1

namespace Go.Proofs.Ytbbagpnjjjohpaa.hexes
open Go.RowKit

/-- A record: operator, stamp, key, value. -/
abbrev Rc := Int × (Int × Int) × Int × Int

/-- What RecordOk answers. -/
def okRc (z : Rc) : Bool := decide (0 ≤ z.1 ∧ z.1 ≤ 7) && okSt z.2.1.1 z.2.1.2 && decide (0 ≤ z.2.2.1 ∧ z.2.2.1 ≤ 99) && decide (0 ≤ z.2.2.2 ∧ z.2.2.2 ≤ 999)

/-- a comes ahead of b. -/
def ltR (a b : Rc) : Prop := ltS a.2.1 b.2.1 ∨ (a.2.1.1 = b.2.1.1 ∧ a.2.1.2 = b.2.1.2 ∧ (a.1 < b.1 ∨ (a.1 = b.1 ∧ (a.2.2.1 < b.2.2.1 ∨ (a.2.2.1 = b.2.2.1 ∧ a.2.2.2 < b.2.2.2)))))
instance (a b : Rc) : Decidable (ltR a b) := by unfold ltR ltS; infer_instance

end Go.Proofs.Ytbbagpnjjjohpaa.hexes

namespace Go.Proofs.Ytbbagpnjjjohpaa.hexes
open Go.RowKit

def remB (k : Int) : Bool := decide (k = 5 ∨ k = 6 ∨ k = 8)

end Go.Proofs.Ytbbagpnjjjohpaa.hexes

