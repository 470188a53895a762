/-
  NodeOf on both sides.
-/
import Derived.Test.YtbbagpnjjjohpaaJ18
import Derived.Test.YtbbagpnjjjohpaaJ9
import Derived.Test.YtbbagpnjjjohpaaJ14
import Derived.Deep.RegionHeld3
import Derived.Test.YtbbagpnjjjohpaaJ12
import Derived.Deep.CutBlock
import Derived.Lib.SliceRun

namespace Go.Proofs.Ytbbagpnjjjohpaa.hexes
open Go.RowKit

def nd0 : Nd := (0, 0, 0, [])
/-- The node of a number; the zero node where there is none. -/
def nodeAt (gs : List Nd) (t : Int) : Nd := if 0 ≤ t then (gs[t.toNat]?).getD nd0 else nd0
def hasB (gs : List Nd) (t : Int) : Bool := decide (0 ≤ t ∧ t ≤ (gs.length : Int) - 1)

theorem nodeAt_of {gs : List Nd} {j : Nat} (hj : j < gs.length) : nodeAt gs (j : Int) = gs[j] := by
  unfold nodeAt
  rw [if_pos (by omega), Int.toNat_natCast, List.getElem?_eq_getElem hj]
  rfl
theorem hasB_nat {gs : List Nd} {t : Int} (h : hasB gs t = true) : ∃ j : Nat, t = (j : Int) ∧ j < gs.length := by
  have := of_decide_eq_true h
  exact ⟨t.toNat, by omega, by omega⟩

end Go.Proofs.Ytbbagpnjjjohpaa.hexes

