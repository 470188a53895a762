/-
  Lists of Record in memory: how they lie there, and the contracts of the laws' own functions on them.
-/
import Derived.Test.YtbbagpnjjjohpaaJ22
import Derived.Test.YtbbagpnjjjohpaaJ2
import Derived.Test.YtbbagpnjjjohpaaJ3
import Derived.Test.YtbbagpnjjjohpaaJ7
import Derived.Test.YtbbagpnjjjohpaaJ26
import Derived.Test.YtbbagpnjjjohpaaJ5

namespace Go.Proofs.Ytbbagpnjjjohpaa.hexes
open Go.RowKit

/-- A list of Record as a row of cells. -/
def rcCells (zs : List Rc) : List Value := zs.flatMap fun z => [.int .i64 z.1, .int .i64 z.2.1.1, .int .i64 z.2.1.2, .int .i64 z.2.2.1, .int .i64 z.2.2.2]

theorem rcCells_cons (z : Rc) (zs : List Rc) : rcCells (z :: zs) = .int .i64 z.1 :: .int .i64 z.2.1.1 :: .int .i64 z.2.1.2 :: .int .i64 z.2.2.1 :: .int .i64 z.2.2.2 :: rcCells zs := rfl
theorem rcCells_length (zs : List Rc) : (rcCells zs).length = zs.length * 5 := by
  induction zs with
  | nil => rfl
  | cons z zs ih => rw [rcCells_cons]; simp only [List.length_cons, ih]; omega
theorem rcCells_at (zs : List Rc) (j : Nat) (h : j < zs.length) : (rcCells zs)[j * 5]? = some (.int .i64 zs[j].1) ∧ (rcCells zs)[j * 5 + 1]? = some (.int .i64 zs[j].2.1.1) ∧ (rcCells zs)[j * 5 + 2]? = some (.int .i64 zs[j].2.1.2) ∧ (rcCells zs)[j * 5 + 3]? = some (.int .i64 zs[j].2.2.1) ∧ (rcCells zs)[j * 5 + 4]? = some (.int .i64 zs[j].2.2.2) := by
  induction zs generalizing j with
  | nil => simp at h
  | cons z zs ih =>
    rw [rcCells_cons]
    cases j with
    | zero => exact ⟨rfl, rfl, rfl, rfl, rfl⟩
    | succ j =>
      have := ih j (by simpa using h)
      rw [show (j + 1) * 5 = j * 5 + 1 + 1 + 1 + 1 + 1 by omega]
      simpa using this

/-- A list of Record that can be read at A. -/
def Rcs (w : World) (A : Option Addr) (zs : List Rc) : Prop :=
  0 < zs.length → ∃ b off, A = some ⟨b, off, none⟩ ∧ b < w.heap.size ∧ ∀ j, (h : j < zs.length) → w.cell? ⟨b, off + j * 5, none⟩ = some (.int .i64 zs[j].1) ∧ w.cell? ⟨b, off + j * 5 + 1, none⟩ = some (.int .i64 zs[j].2.1.1) ∧ w.cell? ⟨b, off + j * 5 + 2, none⟩ = some (.int .i64 zs[j].2.1.2) ∧ w.cell? ⟨b, off + j * 5 + 3, none⟩ = some (.int .i64 zs[j].2.2.1) ∧ w.cell? ⟨b, off + j * 5 + 4, none⟩ = some (.int .i64 zs[j].2.2.2)

theorem Rcs.below {w w' : World} {A : Option Addr} {zs : List Rc} (h : Rcs w A zs) (hb : Below w.heap.size w w') : Rcs w' A zs := fun hl => by
  obtain ⟨b, off, hA, hlt, hz⟩ := h hl
  refine ⟨b, off, hA, Nat.lt_of_lt_of_le hlt hb.size, fun j hj => ?_⟩
  obtain ⟨h0, h1, h2, h3, h4⟩ := hz j hj
  exact ⟨below_keep hb h0, below_keep hb h1, below_keep hb h2, below_keep hb h3, below_keep hb h4⟩

theorem Rcs.of_own {w : World} {B e n : Nat} {v : Value} {zs : List Rc} (h : w.ownsRow B e 5 v n (rcCells zs)) : ∃ A cap, v = .slice A n cap ∧ zs.length = n ∧ Rcs w A zs := by
  have hl : zs.length = n := by have := h.1; rw [rcCells_length] at this; omega
  rcases h.2 with ⟨rfl, rfl⟩ | ⟨g, cap, cur, rfl, _, hg, hnc, _, hcs, htk⟩
  · exact ⟨none, 0, rfl, hl, fun h => absurd h (by omega)⟩
  · refine ⟨some ⟨g, 0, none⟩, cap, rfl, hl, fun hp => ⟨g, 0, rfl, ?_, fun j hj => ?_⟩⟩
    · rcases Nat.lt_or_ge g w.heap.size with hlt | hge
      · exact hlt
      · rw [Array.getElem?_eq_none hge] at hg; cases hg
    · have key : ∀ i u, (rcCells zs)[i]? = some u → w.cell? ⟨g, i, none⟩ = some u := fun i u hu => by
        rw [cell_of_row w g i cur e (0, 0) hg]
        rw [← htk, List.getElem?_take] at hu
        split at hu
        · simpa using hu
        · cases hu
      rw [Nat.zero_add]
      obtain ⟨h0, h1, h2, h3, h4⟩ := rcCells_at zs j hj
      exact ⟨key _ _ h0, key _ _ h1, key _ _ h2, key _ _ h3, key _ _ h4⟩

/-- The k-th entry of a list that can be read, cell by cell. -/
theorem Rcs.at {w : World} {A : Option Addr} {zs : List Rc} (h : Rcs w A zs) {k : Nat} (hk : k < zs.length) : ∃ b off p0 p1 p2 p3 p4, A = some ⟨b, off, none⟩ ∧ zs[k] = (p0, (p1, p2), p3, p4) ∧ w.cell? ⟨b, off + k * 5, none⟩ = some (.int .i64 p0) ∧ w.cell? ⟨b, off + k * 5 + 1, none⟩ = some (.int .i64 p1) ∧ w.cell? ⟨b, off + k * 5 + 2, none⟩ = some (.int .i64 p2) ∧ w.cell? ⟨b, off + k * 5 + 3, none⟩ = some (.int .i64 p3) ∧ w.cell? ⟨b, off + k * 5 + 4, none⟩ = some (.int .i64 p4) := by
  obtain ⟨b, off, hA, _, hz⟩ := h (by omega)
  obtain ⟨h0, h1, h2, h3, h4⟩ := hz k hk
  exact ⟨b, off, zs[k].1, zs[k].2.1.1, zs[k].2.1.2, zs[k].2.2.1, zs[k].2.2.2, hA, rfl, h0, h1, h2, h3, h4⟩

theorem Rcs.news {w : World} {ad : Addr} {ys : List Rc} (h : Rcs w (some ad) ys) (j : Nat) (u : Value) (hu : (rcCells ys)[j]? = some u) : w.cell? (ad.add j) = some u := by
  have hj : j < ys.length * 5 := by rw [← rcCells_length]; exact (List.getElem?_eq_some_iff.1 hu).1
  obtain ⟨b, off, hA, _, hz⟩ := h (by omega)
  obtain rfl : ad = ⟨b, off, none⟩ := Option.some.inj hA
  rw [addr_add1]
  have hk : j / 5 < ys.length := by omega
  obtain ⟨e0, e1, e2, e3, e4⟩ := rcCells_at ys (j / 5) hk
  obtain ⟨z0, z1, z2, z3, z4⟩ := hz (j / 5) hk
  have hm : j % 5 = 0 ∨ j % 5 = 1 ∨ j % 5 = 2 ∨ j % 5 = 3 ∨ j % 5 = 4 := by omega
  rcases hm with h2 | h2 | h2 | h2 | h2
  · rw [show j / 5 * 5 = j by omega] at e0
    rw [show off + j / 5 * 5 = off + j by omega] at z0
    rw [z0, ← hu, e0]
  · rw [show j / 5 * 5 + 1 = j by omega] at e1
    rw [show off + j / 5 * 5 + 1 = off + j by omega] at z1
    rw [z1, ← hu, e1]
  · rw [show j / 5 * 5 + 2 = j by omega] at e2
    rw [show off + j / 5 * 5 + 2 = off + j by omega] at z2
    rw [z2, ← hu, e2]
  · rw [show j / 5 * 5 + 3 = j by omega] at e3
    rw [show off + j / 5 * 5 + 3 = off + j by omega] at z3
    rw [z3, ← hu, e3]
  · rw [show j / 5 * 5 + 4 = j by omega] at e4
    rw [show off + j / 5 * 5 + 4 = off + j by omega] at z4
    rw [z4, ← hu, e4]

end Go.Proofs.Ytbbagpnjjjohpaa.hexes

