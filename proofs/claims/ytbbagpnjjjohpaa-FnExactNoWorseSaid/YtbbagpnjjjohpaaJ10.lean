/-
  Changed on both sides.
-/
import Derived.Test.YtbbagpnjjjohpaaJ9
import Derived.Deep.CutBlock
import Derived.Deep.RegionHeld3

namespace Go.Proofs.Ytbbagpnjjjohpaa.hexes
open Go.RowKit

/-- The node is right, and so are the key and the value. -/
def okC (k a b d key val : Int) (zs : List Int) : Bool := okNd k a b d zs && decide (0 ≤ key ∧ key ≤ 99) && decide (0 ≤ val ∧ val ≤ 999)

def chgK (c : Bool) (k a key : Int) : Int := if c = true ∧ k = 4 then (key + a) % 100 else key
def chgV (c : Bool) (k a val : Int) : Int := if c = true ∧ k = 2 then (if 999 < val + a then 999 else val + a) else val
def chgO (c : Bool) (k a b key : Int) : Bool := c && (if k = 3 then key % a == b else k != 8)

end Go.Proofs.Ytbbagpnjjjohpaa.hexes

