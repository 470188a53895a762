/-
  Lists of Count in memory: how they lie there, and the contracts of the laws' own functions on them.
-/
import Derived.Test.YtbbagpnjjjohpaaJ22
import Derived.Test.YtbbagpnjjjohpaaJ2
import Derived.Test.YtbbagpnjjjohpaaJ3
import Derived.Test.YtbbagpnjjjohpaaJ7
import Derived.Test.YtbbagpnjjjohpaaJ5

namespace Go.Proofs.Ytbbagpnjjjohpaa.hexes
open Go.RowKit

/-- A list of Count as a row of cells. -/
def ctCells (zs : List Ct) : List Value := zs.flatMap fun z => [.int .i64 z.1.1, .int .i64 z.1.2, .int .i64 z.2]

theorem ctCells_cons (z : Ct) (zs : List Ct) : ctCells (z :: zs) = .int .i64 z.1.1 :: .int .i64 z.1.2 :: .int .i64 z.2 :: ctCells zs := rfl
theorem ctCells_length (zs : List Ct) : (ctCells zs).length = zs.length * 3 := by
  induction zs with
  | nil => rfl
  | cons z zs ih => rw [ctCells_cons]; simp only [List.length_cons, ih]; omega
theorem ctCells_at (zs : List Ct) (j : Nat) (h : j < zs.length) : (ctCells zs)[j * 3]? = some (.int .i64 zs[j].1.1) ∧ (ctCells zs)[j * 3 + 1]? = some (.int .i64 zs[j].1.2) ∧ (ctCells zs)[j * 3 + 2]? = some (.int .i64 zs[j].2) := by
  induction zs generalizing j with
  | nil => simp at h
  | cons z zs ih =>
    rw [ctCells_cons]
    cases j with
    | zero => exact ⟨rfl, rfl, rfl⟩
    | succ j =>
      have := ih j (by simpa using h)
      rw [show (j + 1) * 3 = j * 3 + 1 + 1 + 1 by omega]
      simpa using this

/-- A list of Count that can be read at A. -/
def Cts (w : World) (A : Option Addr) (zs : List Ct) : Prop :=
  0 < zs.length → ∃ b off, A = some ⟨b, off, none⟩ ∧ b < w.heap.size ∧ ∀ j, (h : j < zs.length) → w.cell? ⟨b, off + j * 3, none⟩ = some (.int .i64 zs[j].1.1) ∧ w.cell? ⟨b, off + j * 3 + 1, none⟩ = some (.int .i64 zs[j].1.2) ∧ w.cell? ⟨b, off + j * 3 + 2, none⟩ = some (.int .i64 zs[j].2)

theorem Cts.below {w w' : World} {A : Option Addr} {zs : List Ct} (h : Cts w A zs) (hb : Below w.heap.size w w') : Cts w' A zs := fun hl => by
  obtain ⟨b, off, hA, hlt, hz⟩ := h hl
  refine ⟨b, off, hA, Nat.lt_of_lt_of_le hlt hb.size, fun j hj => ?_⟩
  obtain ⟨h0, h1, h2⟩ := hz j hj
  exact ⟨below_keep hb h0, below_keep hb h1, below_keep hb h2⟩

theorem Cts.of_own {w : World} {B e n : Nat} {v : Value} {zs : List Ct} (h : w.ownsRow B e 3 v n (ctCells zs)) : ∃ A cap, v = .slice A n cap ∧ zs.length = n ∧ Cts w A zs := by
  have hl : zs.length = n := by have := h.1; rw [ctCells_length] at this; omega
  rcases h.2 with ⟨rfl, rfl⟩ | ⟨g, cap, cur, rfl, _, hg, hnc, _, hcs, htk⟩
  · exact ⟨none, 0, rfl, hl, fun h => absurd h (by omega)⟩
  · refine ⟨some ⟨g, 0, none⟩, cap, rfl, hl, fun hp => ⟨g, 0, rfl, ?_, fun j hj => ?_⟩⟩
    · rcases Nat.lt_or_ge g w.heap.size with hlt | hge
      · exact hlt
      · rw [Array.getElem?_eq_none hge] at hg; cases hg
    · have key : ∀ i u, (ctCells zs)[i]? = some u → w.cell? ⟨g, i, none⟩ = some u := fun i u hu => by
        rw [cell_of_row w g i cur e (0, 0) hg]
        rw [← htk, List.getElem?_take] at hu
        split at hu
        · simpa using hu
        · cases hu
      rw [Nat.zero_add]
      obtain ⟨h0, h1, h2⟩ := ctCells_at zs j hj
      exact ⟨key _ _ h0, key _ _ h1, key _ _ h2⟩

/-- The k-th entry of a list that can be read, cell by cell. -/
theorem Cts.at {w : World} {A : Option Addr} {zs : List Ct} (h : Cts w A zs) {k : Nat} (hk : k < zs.length) : ∃ b off p0 p1 p2, A = some ⟨b, off, none⟩ ∧ zs[k] = ((p0, p1), p2) ∧ w.cell? ⟨b, off + k * 3, none⟩ = some (.int .i64 p0) ∧ w.cell? ⟨b, off + k * 3 + 1, none⟩ = some (.int .i64 p1) ∧ w.cell? ⟨b, off + k * 3 + 2, none⟩ = some (.int .i64 p2) := by
  obtain ⟨b, off, hA, _, hz⟩ := h (by omega)
  obtain ⟨h0, h1, h2⟩ := hz k hk
  exact ⟨b, off, zs[k].1.1, zs[k].1.2, zs[k].2, hA, rfl, h0, h1, h2⟩

theorem Cts.news {w : World} {ad : Addr} {ys : List Ct} (h : Cts w (some ad) ys) (j : Nat) (u : Value) (hu : (ctCells ys)[j]? = some u) : w.cell? (ad.add j) = some u := by
  have hj : j < ys.length * 3 := by rw [← ctCells_length]; exact (List.getElem?_eq_some_iff.1 hu).1
  obtain ⟨b, off, hA, _, hz⟩ := h (by omega)
  obtain rfl : ad = ⟨b, off, none⟩ := Option.some.inj hA
  rw [addr_add1]
  have hk : j / 3 < ys.length := by omega
  obtain ⟨e0, e1, e2⟩ := ctCells_at ys (j / 3) hk
  obtain ⟨z0, z1, z2⟩ := hz (j / 3) hk
  have hm : j % 3 = 0 ∨ j % 3 = 1 ∨ j % 3 = 2 := by omega
  rcases hm with h2 | h2 | h2
  · rw [show j / 3 * 3 = j by omega] at e0
    rw [show off + j / 3 * 3 = off + j by omega] at z0
    rw [z0, ← hu, e0]
  · rw [show j / 3 * 3 + 1 = j by omega] at e1
    rw [show off + j / 3 * 3 + 1 = off + j by omega] at z1
    rw [z1, ← hu, e1]
  · rw [show j / 3 * 3 + 2 = j by omega] at e2
    rw [show off + j / 3 * 3 + 2 = off + j by omega] at z2
    rw [z2, ← hu, e2]

end Go.Proofs.Ytbbagpnjjjohpaa.hexes

