/-
  Lists of stamps in memory: how they lie there, and the contracts of the laws' own functions on them.
-/
import Derived.Test.YtbbagpnjjjohpaaJ0
import Derived.Test.YtbbagpnjjjohpaaJ1
import Derived.Deep.RegionHeld3

namespace Go.Proofs.Ytbbagpnjjjohpaa.hexes
open Go.RowKit

/-- A list of stamps as a row of cells. -/
def stCells (zs : List (Int × Int)) : List Value := zs.flatMap fun z => [.int .i64 z.1, .int .i64 z.2]

theorem stCells_cons (z : Int × Int) (zs : List (Int × Int)) : stCells (z :: zs) = .int .i64 z.1 :: .int .i64 z.2 :: stCells zs := rfl
theorem stCells_length (zs : List (Int × Int)) : (stCells zs).length = zs.length * 2 := by
  induction zs with
  | nil => rfl
  | cons z zs ih => rw [stCells_cons]; simp only [List.length_cons, ih]; omega
theorem stCells_at (zs : List (Int × Int)) (j : Nat) (h : j < zs.length) : (stCells zs)[j * 2]? = some (.int .i64 zs[j].1) ∧ (stCells zs)[j * 2 + 1]? = some (.int .i64 zs[j].2) := by
  induction zs generalizing j with
  | nil => simp at h
  | cons z zs ih =>
    rw [stCells_cons]
    cases j with
    | zero => exact ⟨rfl, rfl⟩
    | succ j =>
      have := ih j (by simpa using h)
      rw [show (j + 1) * 2 = j * 2 + 1 + 1 by omega, show j * 2 + 1 + 1 + 1 = (j * 2 + 1) + 1 + 1 by omega]
      simpa using this

/-- A list of stamps that can be read at A. -/
def Sts (w : World) (A : Option Addr) (zs : List (Int × Int)) : Prop :=
  0 < zs.length → ∃ b off, A = some ⟨b, off, none⟩ ∧ b < w.heap.size ∧ ∀ j, (h : j < zs.length) → w.cell? ⟨b, off + j * 2, none⟩ = some (.int .i64 zs[j].1) ∧ w.cell? ⟨b, off + j * 2 + 1, none⟩ = some (.int .i64 zs[j].2)

theorem Sts.below {w w' : World} {A : Option Addr} {zs : List (Int × Int)} (h : Sts w A zs) (hb : Below w.heap.size w w') : Sts w' A zs := fun hl => by
  obtain ⟨b, off, hA, hlt, hz⟩ := h hl
  exact ⟨b, off, hA, Nat.lt_of_lt_of_le hlt hb.size, fun j hj => ⟨below_keep hb (hz j hj).1, below_keep hb (hz j hj).2⟩⟩

theorem Sts.of_own {w : World} {B e n : Nat} {v : Value} {zs : List (Int × Int)} (h : w.ownsRow B e 2 v n (stCells zs)) : ∃ A cap, v = .slice A n cap ∧ zs.length = n ∧ Sts w A zs := by
  have hl : zs.length = n := by have := h.1; rw [stCells_length] at this; omega
  rcases h.2 with ⟨rfl, rfl⟩ | ⟨g, cap, cur, rfl, _, hg, hnc, _, hcs, htk⟩
  · exact ⟨none, 0, rfl, hl, fun h => absurd h (by omega)⟩
  · refine ⟨some ⟨g, 0, none⟩, cap, rfl, hl, fun hp => ⟨g, 0, rfl, ?_, fun j hj => ?_⟩⟩
    · rcases Nat.lt_or_ge g w.heap.size with hlt | hge
      · exact hlt
      · rw [Array.getElem?_eq_none hge] at hg; cases hg
    · have key : ∀ i u, (stCells zs)[i]? = some u → w.cell? ⟨g, i, none⟩ = some u := fun i u hu => by
        rw [cell_of_row w g i cur e (0, 0) hg]
        rw [← htk, List.getElem?_take] at hu
        split at hu
        · simpa using hu
        · cases hu
      rw [Nat.zero_add]
      exact ⟨key _ _ (stCells_at zs j hj).1, key _ _ (stCells_at zs j hj).2⟩

/-- The k-th stamp of a list that can be read, cell by cell. -/
theorem Sts.at {w : World} {A : Option Addr} {zs : List (Int × Int)} (h : Sts w A zs) {k : Nat} (hk : k < zs.length) : ∃ b off p q, A = some ⟨b, off, none⟩ ∧ zs[k] = (p, q) ∧ w.cell? ⟨b, off + k * 2, none⟩ = some (.int .i64 p) ∧ w.cell? ⟨b, off + k * 2 + 1, none⟩ = some (.int .i64 q) := by
  obtain ⟨b, off, hA, _, hz⟩ := h (by omega)
  exact ⟨b, off, zs[k].1, zs[k].2, hA, rfl, (hz k hk).1, (hz k hk).2⟩

end Go.Proofs.Ytbbagpnjjjohpaa.hexes

