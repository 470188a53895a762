/-
  What an exact law on graphs keeps of what it holds, whatever is called and written beside it.
-/
import Derived.Test.YtbbagpnjjjohpaaJ17
import Derived.Test.YtbbagpnjjjohpaaJ8
import Derived.Test.YtbbagpnjjjohpaaJ5
import Derived.Test.YtbbagpnjjjohpaaJ11
import Derived.Lib.SmallJoins
import Derived.Deep.Slices
import Derived.ChangeSame
import Derived.OpenShut

namespace Go.Proofs.Ytbbagpnjjjohpaa.hexes
open Go.RowKit

/-- Behind a call that turns nothing old, blocks from lo on and below hi were written. -/
def Turned (lo hi : Nat) (w w' : World) : Prop := ∃ w1, Below w.heap.size w w1 ∧ WroteR lo hi w1 w'

theorem Turned.size {w w' : World} {lo hi : Nat} (h : Turned lo hi w w') : w.heap.size ≤ w'.heap.size := by
  obtain ⟨w1, hb, hw⟩ := h
  exact Nat.le_trans hb.size hw.size

end Go.Proofs.Ytbbagpnjjjohpaa.hexes

