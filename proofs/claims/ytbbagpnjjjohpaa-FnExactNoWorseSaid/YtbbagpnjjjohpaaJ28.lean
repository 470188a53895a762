/-
  Chapter 11's loops on lists, round by round.
-/
import Derived.Test.YtbbagpnjjjohpaaJ27

namespace Go.Proofs.Ytbbagpnjjjohpaa.hexes

theorem take_last {α : Type} {zs : List α} {j : Nat} (h : j < zs.length) : zs.take (j + 1) = zs.take j ++ [zs[j]] := by rw [List.take_succ_eq_append_getElem h]

/-- One cell of NoWorse. -/
def nwB (a : List Ce) (y : Ce) : Bool := (leastC a y.1 y.2.1 y.2.2.1).2 && decide ((leastC a y.1 y.2.1 y.2.2.1).1 ≤ y.2.2.2)
theorem nwC_eq (a b : List Ce) : nwC a b = b.all (nwB a) := rfl
theorem all_on {α : Type} {p : α → Bool} {b : List α} {j : Nat} (h : j < b.length) (ht : (b.take j).all p = true) (hj : p b[j] = true) : (b.take (j + 1)).all p = true := by
  rw [take_last h, List.all_append, ht, Bool.true_and]
  simp [hj]
theorem all_off {α : Type} {p : α → Bool} {b : List α} {j : Nat} (h : j < b.length) (hj : p b[j] = false) : b.all p = false := by
  rw [List.all_eq_false]
  exact ⟨b[j], List.getElem_mem h, by rw [hj]; decide⟩
theorem all_whole {α : Type} {p : α → Bool} {b : List α} {j : Nat} (h : b.length ≤ j) (ht : (b.take j).all p = true) : b.all p = true := by rwa [List.take_of_length_le h] at ht
end Go.Proofs.Ytbbagpnjjjohpaa.hexes

