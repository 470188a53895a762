/-
  What the draws of nodes and links share.
-/
import Derived.Test.YthkkleicekhelaaOwnSet
import Derived.Test.YthkkleicekhelaaDrawStamps
namespace Go.Proofs.Ythkkleicekhelaa.hexes
open Go.RowKit

def K64 (x : Int) : Prop := -9223372036854775808 ≤ x ∧ x ≤ 9223372036854775807

/-- A row's block is not one of another type. -/
theorem own_type {w : World} {B e size n g : Nat} {t : TypeId} {v : Value} {xs : List Value} {cs : Array Value} (h : w.ownsRow B e size v n xs) (k : Blk w g t cs) (ht : t ≠ e) : v.ownBlock ≠ some g := by
  rcases h.2 with ⟨rfl, _⟩ | ⟨g', cap, cur, rfl, _, hg, _⟩
  · simp [Value.ownBlock]
  · simp only [Value.ownBlock, ne_eq, Option.some.injEq]
    rintro rfl
    unfold Blk at k
    rw [k] at hg
    simp only [Option.some.injEq, Obj.cells.injEq] at hg
    exact ht hg.2.1

theorem grown_row {a w w' : World} {row r2 : Option Nat} (h : a.grownBy w row) (k : w.grownBy w' r2) (hr : ∀ g, r2 = some g → a.heap.size ≤ g) : a.grownBy w' row :=
  ⟨k.os.trans h.os, k.tape.trans h.tape, k.output.trans h.output, Nat.le_trans h.size k.size, fun i hi hne => (k.block i (Nat.lt_of_lt_of_le hi h.size) (fun e => by have := hr i e.symm; omega)).trans (h.block i hi hne)⟩

theorem Cursor.belowD {w w' : World} {c len cap : Nat} {A : Option Addr} (h : Cursor w c A len cap) (hb : Below w.heap.size w w') : Cursor w' c A len cap := by
  obtain ⟨i, hh, hi, hblk⟩ := h.at_
  exact ⟨⟨i, hh, hi, hblk.below hb⟩, h.bytes.below hb⟩

theorem grown_drewD (w : World) : w.grownBy w.drew none := ⟨rfl, rfl, rfl, Nat.le_refl _, fun _ _ _ => rfl⟩

end Go.Proofs.Ythkkleicekhelaa.hexes
