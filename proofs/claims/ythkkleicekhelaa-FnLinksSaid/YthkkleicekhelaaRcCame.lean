/-
  Records that came into a law: what its walk is told of them.
-/
import Derived.Test.YthkkleicekhelaaRcKit
import Derived.Deep.Slices
import Derived.ChangeSame
import Derived.OpenShut
import Derived.Lib.SmallJoins
namespace Go.Proofs.Ythkkleicekhelaa.hexes
open Go.RowKit Go.ChangeShapes Go.WideShapes Go.Deep Go.Joins

/-- WHAT THE WALK IS TOLD OF A LIST THAT CAME IN. -/
structure IsRcs (w : World) (a : Option Addr) (n : Nat) (zs : List Rc) : Prop where
  len : zs.length = n
  max : n ≤ maxLen
  rcs : Rcs w a zs
  wf : ∀ z ∈ zs, wfRc z

theorem addr_add_rc (b off : Nat) (j : Nat) : (Addr.add ⟨b, off, none⟩ j) = ⟨b, off + j, none⟩ := by unfold Addr.add; split <;> simp_all