/-
  Links that came into a law: what its walk is told of them.
-/
import Derived.Test.YthkkleicekhelaaRcCame
import Derived.Test.YthkkleicekhelaaLkBase
namespace Go.Proofs.Ythkkleicekhelaa.hexes
open Go.RowKit Go.ChangeShapes Go.WideShapes Go.Deep Go.Joins

theorem Blk.wrote {w w' : World} {g : Nat} {t : TypeId} {cs : Array Value} {lo hi : Nat} (h : Blk w g t cs) (hw : Wrote w w' lo hi) (hd : g < lo ∨ hi ≤ g) : Blk w' g t cs := by
  obtain ⟨row, hg, hr⟩ := hw
  refine h.grown hg fun e => ?_
  have := hr g e.symm
  omega
theorem rcs_drew {w : World} {A : Option Addr} {zs : List Rc} (h : Rcs w A zs) : Rcs w.drew A zs := h