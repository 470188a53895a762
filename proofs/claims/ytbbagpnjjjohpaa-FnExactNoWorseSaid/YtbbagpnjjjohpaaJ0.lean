/-
  Nodes as plain data: when one is right, what it makes of a record.
-/
import Derived.Lib.Hide

namespace Go.Proofs.Ytbbagpnjjjohpaa.hexes

def kB (k : Int) : Bool := decide (1 ≤ k ∧ k ≤ 8)
def aB (k a : Int) : Bool := if k = 2 then decide (0 ≤ a ∧ a ≤ 999) else if k = 3 then decide (1 ≤ a ∧ a ≤ 10) else if k = 4 then decide (0 ≤ a ∧ a ≤ 99) else a == 0
/-- d: what A less 1 comes to. -/
def bB (k b d : Int) : Bool := if k = 3 then decide (0 ≤ b ∧ b ≤ d) else b == 0
def setB (k a b d : Int) : Bool := kB k && aB k a && bB k b d
def outsB (k : Int) (zs : List Int) : Bool := decide (zs.length ≤ 2 ∧ (k = 8 → zs = []) ∧ (∀ z ∈ zs, 0 ≤ z ∧ z ≤ 7) ∧ zs.Nodup)
def okNd (k a b d : Int) (zs : List Int) : Bool := setB k a b d && outsB k zs

end Go.Proofs.Ytbbagpnjjjohpaa.hexes

