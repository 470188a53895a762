/-
  Stamps: the contracts of the laws' toStamp and eqStamp, and of chapter 2's functions on both sides.
-/
import Derived.Test.YtbbagpnjjjohpaaProg
import Derived.WalkKit
import Derived.WalkMore
import Derived.Below
import Derived.Lib.Hide
import Derived.WalkSpells
import Derived.Deep.RegionHeld3

namespace Go.Proofs.Ytbbagpnjjjohpaa.hexes
open Go.RowKit

theorem drew_keep {w : World} {a : Addr} {v : Value} (h : w.cell? a = some v) : w.drew.cell? a = some v := h

theorem below_keep {w w' : World} {a : Addr} {v : Value} (hb : Below w.heap.size w w') (h : w.cell? a = some v) : w'.cell? a = some v :=
  (hb.cell (World.block_lt_of_cell? w _ h)).trans h

theorem below_chain {a w w' : World} (h : Below a.heap.size a w) (hb : Below w.heap.size w w') : Below a.heap.size a w' := h.trans (hb.mono h.size)

/-- What StampOk answers. -/
def okSt (x y : Int) : Bool := decide (0 ≤ x ∧ x ≤ 3 ∧ 0 ≤ y ∧ y ≤ 6)
/-- What StampLeq answers. -/
def leqSt (x y u v : Int) : Bool := decide (x ≤ u ∧ y ≤ v)
/-- Whether a stamp has a next turn. -/
def hasNext (x y : Int) : Bool := decide (0 ≤ x ∧ x ≤ 3 ∧ 0 ≤ y ∧ y < 6)

end Go.Proofs.Ytbbagpnjjjohpaa.hexes

