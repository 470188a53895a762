/-
  Graphs as plain data: when one is right, what can be reached.
-/
import Derived.Test.YtbbagpnjjjohpaaJ0

namespace Go.Proofs.Ytbbagpnjjjohpaa.hexes

/-- A node: kind, A, B, successors. -/
abbrev Nd := Int × Int × Int × List Int

/-- A node is right; what A less 1 comes to is reckoned with 64 bits. -/
def okN (x : Nd) (d : Int) : Bool := okNd x.1 x.2.1 x.2.2.1 d x.2.2.2

/-- The kind of the node of a number; 0 where there is none. -/
def kindAt (gs : List Nd) (t : Int) : Int := if 0 ≤ t then (match gs[t.toNat]? with | some x => x.1 | none => 0) else 0

/-- An edge from the i-th node, of kind k, to t is right. -/
def edgeB (gs : List Nd) (i : Nat) (k t : Int) : Bool :=
  decide (t < (gs.length : Int)) && (if k = 7 then decide (t ≤ (i : Int)) && (kindAt gs t == 5 || kindAt gs t == 6) else decide ((i : Int) < t))

/-- The i-th node is right in its graph. -/
def nodeB (gs : List Nd) (d : Int → Int) (i : Nat) (x : Nd) : Bool :=
  okN x (d x.2.1) && ((x.1 == 1) == (i == 0)) && x.2.2.2.all (edgeB gs i x.1)

def allB (gs : List Nd) (d : Int → Int) : Bool := (List.range gs.length).all fun i => match gs[i]? with | some x => nodeB gs d i x | none => false

def okGr (gs : List Nd) (d : Int → Int) (wk cp : Int) : Bool :=
  decide (1 ≤ gs.length ∧ gs.length ≤ 8) && decide (1 ≤ wk ∧ wk ≤ 4) && decide (1 ≤ cp ∧ cp ≤ 4) && allB gs d

end Go.Proofs.Ytbbagpnjjjohpaa.hexes

