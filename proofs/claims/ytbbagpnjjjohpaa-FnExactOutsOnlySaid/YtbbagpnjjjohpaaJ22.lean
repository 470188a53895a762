/-
  Count tables as lists: what chapter 4's functions answer, and why a table is known by its entries.
  Records as lists: the order of records, what sorting gives, bags, epochs, counts by stamp.
  Remembers on both sides.
  One step of an operator on lists.
-/
import Derived.Test.YtbbagpnjjjohpaaJ21
import Derived.Test.YtbbagpnjjjohpaaJ0
import Derived.Test.YtbbagpnjjjohpaaJ7
import Derived.Test.YtbbagpnjjjohpaaJ18
import Derived.Test.YtbbagpnjjjohpaaJ19
import Derived.Test.YtbbagpnjjjohpaaJ20

namespace Go.Proofs.Ytbbagpnjjjohpaa.hexes
open Go.RowKit

/-- An entry: a stamp and its count. -/
abbrev Ct := (Int × Int) × Int

end Go.Proofs.Ytbbagpnjjjohpaa.hexes

namespace Go.Proofs.Ytbbagpnjjjohpaa.hexes
open Go.RowKit

/-- A record: operator, stamp, key, value. -/
abbrev Rc := Int × (Int × Int) × Int × Int

/-- What RecordOk answers. -/
def okRc (z : Rc) : Bool := decide (0 ≤ z.1 ∧ z.1 ≤ 7) && okSt z.2.1.1 z.2.1.2 && decide (0 ≤ z.2.2.1 ∧ z.2.2.1 ≤ 99) && decide (0 ≤ z.2.2.2 ∧ z.2.2.2 ≤ 999)

/-- a comes ahead of b. -/
def ltR (a b : Rc) : Prop := ltS a.2.1 b.2.1 ∨ (a.2.1.1 = b.2.1.1 ∧ a.2.1.2 = b.2.1.2 ∧ (a.1 < b.1 ∨ (a.1 = b.1 ∧ (a.2.2.1 < b.2.2.1 ∨ (a.2.2.1 = b.2.2.1 ∧ a.2.2.2 < b.2.2.2)))))
instance (a b : Rc) : Decidable (ltR a b) := by unfold ltR ltS; infer_instance

end Go.Proofs.Ytbbagpnjjjohpaa.hexes

namespace Go.Proofs.Ytbbagpnjjjohpaa.hexes
open Go.RowKit

def remB (k : Int) : Bool := decide (k = 5 ∨ k = 6 ∨ k = 8)

end Go.Proofs.Ytbbagpnjjjohpaa.hexes

namespace Go.Proofs.Ytbbagpnjjjohpaa.hexes
open Go.RowKit

/-- The records that an operator emits. -/
def emitL (zs : List Int) (s : Int × Int) (key val : Int) : List Rc := zs.map fun z => (z, s, key, val)
/-- What StepOp answers behind the checks: the node, what Changed gives. -/
def stepNd (x : Nd) (key val : Int) (goes : Bool) (cs : List Ce) (r : Rc) : (List Ce × List Rc) × Bool :=
  if goes = false ∧ x.1 ≠ 8 then ((cs, []), true)
  else
    let m := if remB x.1 = true then recC x.1 cs (r.1, r.2.1.1, r.2.2.1, r.2.2.2) else (cs, true)
    if m.2 = false then ((m.1, []), true)
    else if x.1 = 7 then (if hasNext r.2.1.1 r.2.1.2 = true then ((m.1, emitL x.2.2.2 (r.2.1.1, r.2.1.2 + 1) key val), true) else ((m.1, []), true))
    else ((m.1, emitL x.2.2.2 r.2.1 key val), true)
/-- Whether Changed's arguments are right. -/
def okX (x : Nd) (r : Rc) : Bool := okC x.1 x.2.1 x.2.2.1 (dec1 x.2.1) r.2.2.1 r.2.2.2 x.2.2.2
/-- What StepOp answers. -/
def stepGr (gs : List Nd) (wk cp : Int) (cs : List Ce) (r : Rc) : (List Ce × List Rc) × Bool :=
  if (hasB gs r.1 && okGr gs dec1 wk cp && okRc r) = false then ((cs, []), false)
  else stepNd (nodeAt gs r.1) (chgK (okX (nodeAt gs r.1) r) (nodeAt gs r.1).1 (nodeAt gs r.1).2.1 r.2.2.1) (chgV (okX (nodeAt gs r.1) r) (nodeAt gs r.1).1 (nodeAt gs r.1).2.1 r.2.2.2) (chgO (okX (nodeAt gs r.1) r) (nodeAt gs r.1).1 (nodeAt gs r.1).2.1 (nodeAt gs r.1).2.2.1 r.2.2.1) cs r
/-- What StepAll answers after k steps. -/
def stepsG (gs : List Nd) (wk cp : Int) : Nat → List Ce × List Rc → (List Ce × List Rc) × Nat
  | 0, s => (s, 0)
  | _ + 1, (cs, []) => ((cs, []), 0)
  | k + 1, (cs, r :: rs) =>
    let m := stepGr gs wk cp cs r
    let q := stepsG gs wk cp k (m.1.1, rs ++ m.1.2)
    (q.1, q.2 + 1)
end Go.Proofs.Ytbbagpnjjjohpaa.hexes

