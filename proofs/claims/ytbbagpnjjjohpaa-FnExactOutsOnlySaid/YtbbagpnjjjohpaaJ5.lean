/-
  Rows between two bounds: what an exact law keeps of the lists that it holds, whatever is called and written beside them; the laws' own functions on stamps in these words.
-/
import Derived.Test.YtbbagpnjjjohpaaJ2
import Derived.Test.YtbbagpnjjjohpaaJ4

namespace Go.Proofs.Ytbbagpnjjjohpaa.hexes
open Go.RowKit

/-- A row of n elements whose block lies from lo on and below hi. -/
structure Row (w : World) (lo hi e size : Nat) (A : Option Addr) (n c : Nat) (xs : List Value) : Prop where
  own : w.ownsRow lo e size (.slice A n c) n xs
  lt : ∀ g, (Value.slice A n c).ownBlock = some g → g < hi

/-- Only a block from lo on and below hi was written. -/
def Wrote (w w' : World) (lo hi : Nat) : Prop := ∃ row, w.grownBy w' row ∧ ∀ g, row = some g → lo ≤ g ∧ g < hi

theorem Row.below {w w' : World} {lo hi e size n c : Nat} {A : Option Addr} {xs : List Value} (h : Row w lo hi e size A n c xs) (hb : Below w.heap.size w w') : Row w' lo hi e size A n c xs := ⟨own_below h.own hb, h.lt⟩
theorem Row.wrote {w w' : World} {lo hi lo' hi' e size n c : Nat} {A : Option Addr} {xs : List Value} (h : Row w lo hi e size A n c xs) (hw : Wrote w w' lo' hi') (hd : hi ≤ lo' ∨ hi' ≤ lo) : Row w' lo hi e size A n c xs := by
  obtain ⟨row, hg, hr⟩ := hw
  refine ⟨h.own.kept hg ?_, h.lt⟩
  cases hv : (Value.slice A n c).ownBlock with
  | none => exact .inl rfl
  | some g =>
    refine .inr fun e => ?_
    have h1 := hr g e.symm
    have h2 := h.lt g hv
    have h3 := own_ge h.own g hv
    omega
theorem Row.nil {w : World} {lo hi e size n c : Nat} {A : Option Addr} {xs : List Value} (h : Row w lo hi e size A n c xs) : A = none → c = 0 := own_nil h.own
theorem Row.len {w : World} {lo hi e n c : Nat} {A : Option Addr} {zs : List (Int × Int)} (h : Row w lo hi e 2 A n c (stCells zs)) : zs.length = n := by
  have := h.own.1; rw [stCells_length] at this; omega
theorem below_wrote {a w w' : World} {lo hi : Nat} (h : Below a.heap.size a w) (hw : Wrote w w' lo hi) (hlo : a.heap.size ≤ lo) : Below a.heap.size a w' := by
  obtain ⟨row, hg, hr⟩ := hw
  exact h.grown hg h.size fun k hk => Nat.le_trans hlo (hr k hk).1
theorem Wrote.size {w w' : World} {lo hi : Nat} (h : Wrote w w' lo hi) : w.heap.size ≤ w'.heap.size := by
  obtain ⟨row, hg, _⟩ := h
  exact hg.size

theorem row_of {w w' : World} {e size n : Nat} {v : Value} {xs : List Value} (h : w'.ownsRow w.heap.size e size v n xs) : ∃ A c, v = .slice A n c ∧ Row w' w.heap.size w'.heap.size e size A n c xs := by
  obtain ⟨A, c, rfl, hf⟩ := own_form h
  refine ⟨A, c, rfl, h, fun g hg => ?_⟩
  rcases h.2 with ⟨h', _⟩ | ⟨g', cap, cur, h', _, hgg, _⟩
  · rw [h'] at hg; simp [Value.ownBlock] at hg
  · rw [h'] at hg
    obtain rfl : g' = g := by simpa [Value.ownBlock] using hg
    exact (Array.getElem?_eq_some_iff.1 hgg).1

end Go.Proofs.Ytbbagpnjjjohpaa.hexes

