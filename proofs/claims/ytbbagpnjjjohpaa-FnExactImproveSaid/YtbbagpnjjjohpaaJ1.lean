/-
  The cursor over the bytes of a draw: what it holds, and the contract of spec.l01Byte.
  Minimal as a function on lists: its answer is the one ascending list of the least stamps.
  Owned rows of stamps: what an append takes, what a row's cells are.
  Lists of stamps put behind an owned list: the law for the walk, and the contracts of slices.Clone, spec.MergeFronts and spec.FrontierOk.
  Rows between two bounds: what an exact law keeps of the lists that it holds, whatever is called and written beside them; the laws' own functions on stamps in these words.
-/
import Derived.Test.YtbbagpnjjjohpaaJ0
import Derived.Laws.BitsLemmas
import Derived.WalkSpells
import Derived.WalkLawsBesides
import Derived.Laws.Pointers
import Derived.Laws.AppendOwnNone
import Derived.Lib.SliceRun

namespace Go.Proofs.Ytbbagpnjjjohpaa.hexes
open Go.RowKit

/-- Block g is just the cells cs of element type t, none frozen. -/
def Blk (w : World) (g : Nat) (t : TypeId) (cs : Array Value) : Prop := w.heap[g]? = some (.cells cs t (0, 0))
theorem Blk.lt {w : World} {g : Nat} {t : TypeId} {cs : Array Value} (h : Blk w g t cs) : g < w.heap.size := by
  rcases Nat.lt_or_ge g w.heap.size with hlt | hge
  · exact hlt
  · unfold Blk at h; rw [Array.getElem?_eq_none hge] at h; cases h
theorem Blk.cell {w : World} {g : Nat} {t : TypeId} {cs : Array Value} (h : Blk w g t cs) (i : Nat) : w.cell? ⟨g, i, none⟩ = cs[i]? := cell_of_row w g i cs t (0, 0) h
theorem Blk.frozen {w : World} {g : Nat} {t : TypeId} {cs : Array Value} (h : Blk w g t cs) (i : Nat) : w.frozen? ⟨g, i, none⟩ = false := by
  unfold Blk at h
  simp [World.frozen?, h]
theorem Blk.put {w : World} {g : Nat} {t : TypeId} {cs : Array Value} (h : Blk w g t cs) (i : Nat) (u : Value) : Blk (w.setCell ⟨g, i, none⟩ u) g t (cs.setIfInBounds i u) := by
  unfold Blk at h ⊢
  simp [World.setCell, Array.getElem?_modify, h]
theorem Blk.drewN {w : World} {g : Nat} {t : TypeId} {cs : Array Value} (h : Blk w g t cs) (n : Nat) : Blk (w.drewN n) g t cs := h
theorem Blk.new (w : World) (t : TypeId) (cs : Array Value) : Blk (w.alloc (.cells cs t)) w.heap.size t cs := heap_alloc_new w _
theorem Blk.below {w w' : World} {g : Nat} {t : TypeId} {cs : Array Value} (h : Blk w g t cs) (hb : Below w.heap.size w w') : Blk w' g t cs := (hb.block g h.lt).trans h
theorem Blk.grown {w w' : World} {g : Nat} {t : TypeId} {cs : Array Value} {row : Option Nat} (h : Blk w g t cs) (hb : w.grownBy w' row) (hg : some g ≠ row) : Blk w' g t cs := (hb.block g h.lt hg).trans h

/-- The bytes that a draw reads: a slice that came in, outside block c. -/
def Bytes8 (w : World) (c : Nat) (A : Option Addr) (len : Nat) : Prop :=
  0 < len → ∃ b off, A = some ⟨b, off, none⟩ ∧ b ≠ c ∧ b < w.heap.size ∧ ∀ j, j < len → ∃ z : Nat, z ≤ 255 ∧ w.cell? ⟨b, off + j, none⟩ = some (.int .u8 (z : Int))

theorem Bytes8.grown {w w' : World} {c : Nat} {A : Option Addr} {len : Nat} (h : Bytes8 w c A len) (hg : w.grownBy w' (some c)) : Bytes8 w' c A len := fun hl => by
  obtain ⟨b, off, hA, hne, hlt, hc⟩ := h hl
  refine ⟨b, off, hA, hne, Nat.lt_of_lt_of_le hlt hg.size, fun j hj => ?_⟩
  obtain ⟨z, hz, hcell⟩ := hc j hj
  exact ⟨z, hz, (World.cell?_of_block (a := ⟨b, off + j, none⟩) (hg.block b hlt (by simpa using hne))).trans hcell⟩
theorem Bytes8.below {w w' : World} {c : Nat} {A : Option Addr} {len : Nat} (h : Bytes8 w c A len) (hb : Below w.heap.size w w') : Bytes8 w' c A len := fun hl => by
  obtain ⟨b, off, hA, hne, hlt, hc⟩ := h hl
  refine ⟨b, off, hA, hne, Nat.lt_of_lt_of_le hlt hb.size, fun j hj => ?_⟩
  obtain ⟨z, hz, hcell⟩ := hc j hj
  exact ⟨z, hz, (hb.cell (p := ⟨b, off + j, none⟩) hlt).trans hcell⟩

/-- What came in as code: nil, or bytes. -/
def Came (w : World) (A : Option Addr) (len : Nat) : Prop :=
  0 < len → ∃ b off, A = some ⟨b, off, none⟩ ∧ b < w.heap.size ∧ ∀ j, j < len → ∃ z : Nat, z ≤ 255 ∧ w.cell? ⟨b, off + j, none⟩ = some (.int .u8 (z : Int))

theorem Came.bytes {w w' : World} {A : Option Addr} {len c : Nat} (h : Came w A len) (hb : Below w.heap.size w w') (hc : w.heap.size ≤ c) : Bytes8 w' c A len := fun hl => by
  obtain ⟨b, off, hA, hlt, hz⟩ := h hl
  refine ⟨b, off, hA, by omega, Nat.lt_of_lt_of_le hlt hb.size, fun j hj => ?_⟩
  obtain ⟨z, hz1, hcell⟩ := hz j hj
  exact ⟨z, hz1, (hb.cell (p := ⟨b, off + j, none⟩) hlt).trans hcell⟩
theorem Came.below {w w' : World} {A : Option Addr} {len : Nat} (h : Came w A len) (hb : Below w.heap.size w w') : Came w' A len := fun hl => by
  obtain ⟨b, off, hA, hlt, hz⟩ := h hl
  refine ⟨b, off, hA, Nat.lt_of_lt_of_le hlt hb.size, fun j hj => ?_⟩
  obtain ⟨z, hz1, hcell⟩ := hz j hj
  exact ⟨z, hz1, (hb.cell (p := ⟨b, off + j, none⟩) hlt).trans hcell⟩

end Go.Proofs.Ytbbagpnjjjohpaa.hexes

namespace Go.Proofs.Ytbbagpnjjjohpaa.hexes

/-- Ascending StampOrder. -/
def ltS (a b : Int × Int) : Prop := a.1 < b.1 ∨ (a.1 = b.1 ∧ a.2 < b.2)
instance (a b : Int × Int) : Decidable (ltS a b) := by unfold ltS; infer_instance

end Go.Proofs.Ytbbagpnjjjohpaa.hexes

namespace Go.Proofs.Ytbbagpnjjjohpaa.hexes
open Go.RowKit

theorem Blk.news {w : World} {g : Nat} {t : TypeId} {cs : Array Value} (h : Blk w g t cs) (j : Nat) (u : Value) (hu : cs.toList[j]? = some u) : w.cell? (Addr.add ⟨g, 0, none⟩ j) = some u := by
  rw [show (Addr.add ⟨g, 0, none⟩ j) = ⟨g, j, none⟩ by unfold Addr.add; split <;> simp_all, h.cell]
  simpa using hu
theorem addr_add0 (g j : Nat) : (Addr.add ⟨g, 0, none⟩ j) = ⟨g, j, none⟩ := by unfold Addr.add; split <;> simp_all

theorem addr_add1 (g o j : Nat) : (Addr.add ⟨g, o, none⟩ j) = ⟨g, o + j, none⟩ := by unfold Addr.add; split <;> simp_all

end Go.Proofs.Ytbbagpnjjjohpaa.hexes

namespace Go.Proofs.Ytbbagpnjjjohpaa.hexes
open Go.RowKit

theorem Sts.news {w : World} {ad : Addr} {ys : List (Int × Int)} (h : Sts w (some ad) ys) (j : Nat) (u : Value) (hu : (stCells ys)[j]? = some u) : w.cell? (ad.add j) = some u := by
  have hj : j < ys.length * 2 := by rw [← stCells_length]; exact (List.getElem?_eq_some_iff.1 hu).1
  obtain ⟨b, off, hA, _, hz⟩ := h (by omega)
  obtain rfl : ad = ⟨b, off, none⟩ := Option.some.inj hA
  rw [addr_add1]
  have hk : j / 2 < ys.length := by omega
  have e := stCells_at ys (j / 2) hk
  have z := hz (j / 2) hk
  rcases Nat.mod_two_eq_zero_or_one j with h2 | h2
  · rw [show j / 2 * 2 = j by omega] at e z
    rw [z.1, ← hu, e.1]
  · rw [show off + j / 2 * 2 + 1 = off + j by omega] at z
    rw [show j / 2 * 2 + 1 = j by omega] at e
    rw [z.2, ← hu, e.2]

theorem own_nil {w : World} {B e size n c : Nat} {A : Option Addr} {xs : List Value} (h : w.ownsRow B e size (.slice A n c) n xs) (hA : A = none) : c = 0 := by
  rcases h.2 with ⟨h', _⟩ | ⟨g, cap, cur, h', _⟩
  · simp only [Value.slice.injEq] at h'
    exact h'.2.2
  · subst hA
    simp at h'

end Go.Proofs.Ytbbagpnjjjohpaa.hexes

namespace Go.Proofs.Ytbbagpnjjjohpaa.hexes
open Go.RowKit

/-- A row of n elements whose block lies from lo on and below hi. -/
structure Row (w : World) (lo hi e size : Nat) (A : Option Addr) (n c : Nat) (xs : List Value) : Prop where
  own : w.ownsRow lo e size (.slice A n c) n xs
  lt : ∀ g, (Value.slice A n c).ownBlock = some g → g < hi

/-- Only a block from lo on and below hi was written. -/
def Wrote (w w' : World) (lo hi : Nat) : Prop := ∃ row, w.grownBy w' row ∧ ∀ g, row = some g → lo ≤ g ∧ g < hi

theorem Row.below {w w' : World} {lo hi e size n c : Nat} {A : Option Addr} {xs : List Value} (h : Row w lo hi e size A n c xs) (hb : Below w.heap.size w w') : Row w' lo hi e size A n c xs := ⟨own_below h.own hb, h.lt⟩
theorem Row.wrote {w w' : World} {lo hi lo' hi' e size n c : Nat} {A : Option Addr} {xs : List Value} (h : Row w lo hi e size A n c xs) (hw : Wrote w w' lo' hi') (hd : hi ≤ lo' ∨ hi' ≤ lo) : Row w' lo hi e size A n c xs := by
  obtain ⟨row, hg, hr⟩ := hw
  refine ⟨h.own.kept hg ?_, h.lt⟩
  cases hv : (Value.slice A n c).ownBlock with
  | none => exact .inl rfl
  | some g =>
    refine .inr fun e => ?_
    have h1 := hr g e.symm
    have h2 := h.lt g hv
    have h3 := own_ge h.own g hv
    omega
theorem Row.nil {w : World} {lo hi e size n c : Nat} {A : Option Addr} {xs : List Value} (h : Row w lo hi e size A n c xs) : A = none → c = 0 := own_nil h.own
theorem Row.len {w : World} {lo hi e n c : Nat} {A : Option Addr} {zs : List (Int × Int)} (h : Row w lo hi e 2 A n c (stCells zs)) : zs.length = n := by
  have := h.own.1; rw [stCells_length] at this; omega
theorem below_wrote {a w w' : World} {lo hi : Nat} (h : Below a.heap.size a w) (hw : Wrote w w' lo hi) (hlo : a.heap.size ≤ lo) : Below a.heap.size a w' := by
  obtain ⟨row, hg, hr⟩ := hw
  exact h.grown hg h.size fun k hk => Nat.le_trans hlo (hr k hk).1
theorem Wrote.size {w w' : World} {lo hi : Nat} (h : Wrote w w' lo hi) : w.heap.size ≤ w'.heap.size := by
  obtain ⟨row, hg, _⟩ := h
  exact hg.size

theorem row_of {w w' : World} {e size n : Nat} {v : Value} {xs : List Value} (h : w'.ownsRow w.heap.size e size v n xs) : ∃ A c, v = .slice A n c ∧ Row w' w.heap.size w'.heap.size e size A n c xs := by
  obtain ⟨A, c, rfl, hf⟩ := own_form h
  refine ⟨A, c, rfl, h, fun g hg => ?_⟩
  rcases h.2 with ⟨h', _⟩ | ⟨g', cap, cur, h', _, hgg, _⟩
  · rw [h'] at hg; simp [Value.ownBlock] at hg
  · rw [h'] at hg
    obtain rfl : g' = g := by simpa [Value.ownBlock] using hg
    exact (Array.getElem?_eq_some_iff.1 hgg).1

end Go.Proofs.Ytbbagpnjjjohpaa.hexes

