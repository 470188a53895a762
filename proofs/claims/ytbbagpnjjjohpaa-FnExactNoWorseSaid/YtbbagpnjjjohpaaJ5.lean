/-
  The cursor over the bytes of a draw: what it holds, and the contract of spec.l01Byte.
-/
import Derived.Test.YtbbagpnjjjohpaaJ3
import Derived.Laws.BitsLemmas
import Derived.WalkSpells
import Derived.WalkLawsBesides
import Derived.Laws.Pointers

namespace Go.Proofs.Ytbbagpnjjjohpaa.hexes
open Go.RowKit

/-- Block g is just the cells cs of element type t, none frozen. -/
def Blk (w : World) (g : Nat) (t : TypeId) (cs : Array Value) : Prop := w.heap[g]? = some (.cells cs t (0, 0))
theorem Blk.lt {w : World} {g : Nat} {t : TypeId} {cs : Array Value} (h : Blk w g t cs) : g < w.heap.size := by
  rcases Nat.lt_or_ge g w.heap.size with hlt | hge
  · exact hlt
  · unfold Blk at h; rw [Array.getElem?_eq_none hge] at h; cases h
theorem Blk.cell {w : World} {g : Nat} {t : TypeId} {cs : Array Value} (h : Blk w g t cs) (i : Nat) : w.cell? ⟨g, i, none⟩ = cs[i]? := cell_of_row w g i cs t (0, 0) h
theorem Blk.frozen {w : World} {g : Nat} {t : TypeId} {cs : Array Value} (h : Blk w g t cs) (i : Nat) : w.frozen? ⟨g, i, none⟩ = false := by
  unfold Blk at h
  simp [World.frozen?, h]
theorem Blk.put {w : World} {g : Nat} {t : TypeId} {cs : Array Value} (h : Blk w g t cs) (i : Nat) (u : Value) : Blk (w.setCell ⟨g, i, none⟩ u) g t (cs.setIfInBounds i u) := by
  unfold Blk at h ⊢
  simp [World.setCell, Array.getElem?_modify, h]
theorem Blk.new (w : World) (t : TypeId) (cs : Array Value) : Blk (w.alloc (.cells cs t)) w.heap.size t cs := heap_alloc_new w _
theorem Blk.below {w w' : World} {g : Nat} {t : TypeId} {cs : Array Value} (h : Blk w g t cs) (hb : Below w.heap.size w w') : Blk w' g t cs := (hb.block g h.lt).trans h
theorem Blk.grown {w w' : World} {g : Nat} {t : TypeId} {cs : Array Value} {row : Option Nat} (h : Blk w g t cs) (hb : w.grownBy w' row) (hg : some g ≠ row) : Blk w' g t cs := (hb.block g h.lt hg).trans h

/-- The bytes that a draw reads: a slice that came in, outside block c. -/
def Bytes8 (w : World) (c : Nat) (A : Option Addr) (len : Nat) : Prop :=
  0 < len → ∃ b off, A = some ⟨b, off, none⟩ ∧ b ≠ c ∧ b < w.heap.size ∧ ∀ j, j < len → ∃ z : Nat, z ≤ 255 ∧ w.cell? ⟨b, off + j, none⟩ = some (.int .u8 (z : Int))

theorem Bytes8.grown {w w' : World} {c : Nat} {A : Option Addr} {len : Nat} (h : Bytes8 w c A len) (hg : w.grownBy w' (some c)) : Bytes8 w' c A len := fun hl => by
  obtain ⟨b, off, hA, hne, hlt, hc⟩ := h hl
  refine ⟨b, off, hA, hne, Nat.lt_of_lt_of_le hlt hg.size, fun j hj => ?_⟩
  obtain ⟨z, hz, hcell⟩ := hc j hj
  exact ⟨z, hz, (World.cell?_of_block (a := ⟨b, off + j, none⟩) (hg.block b hlt (by simpa using hne))).trans hcell⟩
theorem Bytes8.below {w w' : World} {c : Nat} {A : Option Addr} {len : Nat} (h : Bytes8 w c A len) (hb : Below w.heap.size w w') : Bytes8 w' c A len := fun hl => by
  obtain ⟨b, off, hA, hne, hlt, hc⟩ := h hl
  refine ⟨b, off, hA, hne, Nat.lt_of_lt_of_le hlt hb.size, fun j hj => ?_⟩
  obtain ⟨z, hz, hcell⟩ := hc j hj
  exact ⟨z, hz, (hb.cell (p := ⟨b, off + j, none⟩) hlt).trans hcell⟩

/-- What came in as code: nil, or bytes. -/
def Came (w : World) (A : Option Addr) (len : Nat) : Prop :=
  0 < len → ∃ b off, A = some ⟨b, off, none⟩ ∧ b < w.heap.size ∧ ∀ j, j < len → ∃ z : Nat, z ≤ 255 ∧ w.cell? ⟨b, off + j, none⟩ = some (.int .u8 (z : Int))

theorem Came.bytes {w w' : World} {A : Option Addr} {len c : Nat} (h : Came w A len) (hb : Below w.heap.size w w') (hc : w.heap.size ≤ c) : Bytes8 w' c A len := fun hl => by
  obtain ⟨b, off, hA, hlt, hz⟩ := h hl
  refine ⟨b, off, hA, by omega, Nat.lt_of_lt_of_le hlt hb.size, fun j hj => ?_⟩
  obtain ⟨z, hz1, hcell⟩ := hz j hj
  exact ⟨z, hz1, (hb.cell (p := ⟨b, off + j, none⟩) hlt).trans hcell⟩
theorem Came.below {w w' : World} {A : Option Addr} {len : Nat} (h : Came w A len) (hb : Below w.heap.size w w') : Came w' A len := fun hl => by
  obtain ⟨b, off, hA, hlt, hz⟩ := h hl
  refine ⟨b, off, hA, Nat.lt_of_lt_of_le hlt hb.size, fun j hj => ?_⟩
  obtain ⟨z, hz1, hcell⟩ := hz j hj
  exact ⟨z, hz1, (hb.cell (p := ⟨b, off + j, none⟩) hlt).trans hcell⟩

end Go.Proofs.Ytbbagpnjjjohpaa.hexes

