/-
  Lists of ints in memory: how they lie there, and the contracts of the laws' own functions on them.
-/
import Derived.Test.YtbbagpnjjjohpaaJ7
import Derived.Deep.Slices
import Derived.ChangeSame
import Derived.OpenShut

namespace Go.Proofs.Ytbbagpnjjjohpaa.hexes
open Go.RowKit Go.ChangeShapes Go.WideShapes Go.Deep

/-- A list of ints as a row of cells. -/
def isCells (zs : List Int) : List Value := zs.map fun z => Value.int .i64 z

theorem isCells_length (zs : List Int) : (isCells zs).length = zs.length := by simp [isCells]

theorem isCells_at (zs : List Int) (j : Nat) (h : j < zs.length) : (isCells zs)[j]? = some (.int .i64 zs[j]) := by simp [isCells, h]

/-- A list of ints that can be read at A. -/
def Ints (w : World) (A : Option Addr) (zs : List Int) : Prop :=
  0 < zs.length → ∃ b off, A = some ⟨b, off, none⟩ ∧ b < w.heap.size ∧ ∀ j, (h : j < zs.length) → w.cell? ⟨b, off + j, none⟩ = some (.int .i64 zs[j])

theorem Ints.below {w w' : World} {A : Option Addr} {zs : List Int} (h : Ints w A zs) (hb : Below w.heap.size w w') : Ints w' A zs := fun hl => by
  obtain ⟨b, off, hA, hlt, hz⟩ := h hl
  exact ⟨b, off, hA, Nat.lt_of_lt_of_le hlt hb.size, fun j hj => below_keep hb (hz j hj)⟩

theorem Ints.of_own {w : World} {B e n : Nat} {v : Value} {zs : List Int} (h : w.ownsRow B e 1 v n (isCells zs)) : ∃ A cap, v = .slice A n cap ∧ zs.length = n ∧ Ints w A zs := by
  have hl : zs.length = n := by have := h.1; rw [isCells_length] at this; omega
  rcases h.2 with ⟨rfl, rfl⟩ | ⟨g, cap, cur, rfl, _, hg, hnc, _, hcs, htk⟩
  · exact ⟨none, 0, rfl, hl, fun h => absurd h (by omega)⟩
  · refine ⟨some ⟨g, 0, none⟩, cap, rfl, hl, fun hp => ⟨g, 0, rfl, ?_, fun j hj => ?_⟩⟩
    · rcases Nat.lt_or_ge g w.heap.size with hlt | hge
      · exact hlt
      · rw [Array.getElem?_eq_none hge] at hg; cases hg
    · rw [Nat.zero_add, h.cellAt j (by omega)]
      exact isCells_at zs j hj

/-- The k-th entry of a list that can be read. -/
theorem Ints.at {w : World} {A : Option Addr} {zs : List Int} (h : Ints w A zs) {k : Nat} (hk : k < zs.length) : ∃ b off p, A = some ⟨b, off, none⟩ ∧ zs[k] = p ∧ w.cell? ⟨b, off + k, none⟩ = some (.int .i64 p) := by
  obtain ⟨b, off, hA, _, hz⟩ := h (by omega)
  exact ⟨b, off, zs[k], hA, rfl, hz k hk⟩

theorem Row.is {w : World} {lo hi e n c : Nat} {A : Option Addr} {zs : List Int} (h : Row w lo hi e 1 A n c (isCells zs)) : Ints w A zs := by
  obtain ⟨A', c', he, _, hs⟩ := Ints.of_own h.own
  simp only [Value.slice.injEq, true_and] at he
  obtain ⟨rfl, rfl⟩ := he
  exact hs

end Go.Proofs.Ytbbagpnjjjohpaa.hexes

