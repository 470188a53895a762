/-
  The laws' own functions on lists of nodes.
-/
import Derived.Test.YtbbagpnjjjohpaaJ13

namespace Go.Proofs.Ytbbagpnjjjohpaa.hexes
open Go.RowKit

theorem row_beside {w : World} {lo hi e size n c : Nat} {A : Option Addr} {xs : List Value} (h : Row w lo hi e size A n c xs) {w' : World} {g : Nat} (hg : w.grownBy w' (some g)) (hd : g < lo ∨ hi ≤ g) : Row w' lo hi e size A n c xs :=
  h.wrote (lo' := g) (hi' := g + 1) ⟨some g, hg, fun x hx => by cases hx; omega⟩ (by omega)

theorem mono_le {f : Nat → Nat} {k : Nat} (h : ∀ i, i < k → f i ≤ f (i + 1)) : ∀ i j, i ≤ j → j ≤ k → f i ≤ f j := by
  intro i j hij hj
  induction j with
  | zero => obtain rfl : i = 0 := by omega
            exact Nat.le_refl _
  | succ j ih =>
    by_cases e : i = j + 1
    · subst e; exact Nat.le_refl _
    · exact Nat.le_trans (ih (by omega) (by omega)) (h j (by omega))

end Go.Proofs.Ytbbagpnjjjohpaa.hexes

