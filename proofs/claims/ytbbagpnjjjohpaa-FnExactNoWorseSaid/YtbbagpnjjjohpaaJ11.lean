/-
  Stores beside an owned row.
-/
import Derived.Test.YtbbagpnjjjohpaaJ3

namespace Go.Proofs.Ytbbagpnjjjohpaa.hexes
open Go.RowKit

theorem grown_set (w : World) (p : Addr) (u : Value) : w.grownBy (w.setCell p u) (some p.block) :=
  ⟨rfl, rfl, rfl, by simp [World.setCell], fun i _ hne => Below.heap_setCell w p u i (by rintro rfl; exact hne rfl)⟩
theorem own_set {w : World} {B e size n : Nat} {v : Value} {xs : List Value} (h : w.ownsRow B e size v n xs) {p : Addr} (u : Value) (hp : p.block < B) : (w.setCell p u).ownsRow B e size v n xs := by
  refine h.kept (grown_set w p u) ?_
  cases hv : v.ownBlock with
  | none => exact .inl rfl
  | some g =>
    refine .inr fun e => ?_
    have h1 := own_ge h g hv
    obtain rfl : g = p.block := Option.some.inj e
    omega
end Go.Proofs.Ytbbagpnjjjohpaa.hexes

