/-
  Steps on lists: how much a step makes; the steps one by one.
-/
import Derived.Test.YtbbagpnjjjohpaaJ24

namespace Go.Proofs.Ytbbagpnjjjohpaa.hexes
open Go.RowKit

theorem allB_at {gs : List Nd} {d : Int → Int} (h : allB gs d = true) {i : Nat} (hi : i < gs.length) : nodeB gs d i gs[i] = true := by
  unfold allB at h
  rw [List.all_eq_true] at h
  have := h i (by simpa using hi)
  simpa [List.getElem?_eq_getElem hi] using this
theorem steps_succ (gs : List Nd) (wk cp : Int) (k : Nat) (cs : List Ce) (r : Rc) (rs : List Rc) : stepsG gs wk cp (k + 1) (cs, r :: rs) = ((stepsG gs wk cp k ((stepGr gs wk cp cs r).1.1, rs ++ (stepGr gs wk cp cs r).1.2)).1, (stepsG gs wk cp k ((stepGr gs wk cp cs r).1.1, rs ++ (stepGr gs wk cp cs r).1.2)).2 + 1) := rfl
/-- After j steps the rest leads to the same end. -/
def StepsAt (gs : List Nd) (wk cp : Int) (K j : Nat) (q : (List Ce × List Rc) × Nat) (cs : List Ce) (rs : List Rc) : Prop := (stepsG gs wk cp (K - j) (cs, rs)).1 = q.1 ∧ (stepsG gs wk cp (K - j) (cs, rs)).2 + j = q.2
theorem StepsAt.next {gs : List Nd} {wk cp : Int} {K j : Nat} {q : (List Ce × List Rc) × Nat} {cs : List Ce} {r : Rc} {rs : List Rc} (h : StepsAt gs wk cp K j q cs (r :: rs)) (hj : j < K) : StepsAt gs wk cp K (j + 1) q (stepGr gs wk cp cs r).1.1 (rs ++ (stepGr gs wk cp cs r).1.2) := by
  obtain ⟨h1, h2⟩ := h
  rw [show K - j = (K - (j + 1)) + 1 by omega, steps_succ] at h1 h2
  exact ⟨h1, by rw [← h2]; show _ = _ + 1 + j; omega⟩
end Go.Proofs.Ytbbagpnjjjohpaa.hexes

