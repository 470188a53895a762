/-
  Chapter 11's loops on lists, round by round.
  Lists of Count in memory: how they lie there, and the contracts of the laws' own functions on them.
  Lists of Record in memory: how they lie there, and the contracts of the laws' own functions on them.
  Cells: the contracts of the laws' eqCell and toCell.
-/
import Derived.Test.YtbbagpnjjjohpaaJ15
import Derived.Test.YtbbagpnjjjohpaaJ14
import Derived.Test.YtbbagpnjjjohpaaJ0
import Derived.Test.YtbbagpnjjjohpaaJ1
import Derived.Test.YtbbagpnjjjohpaaJ3

namespace Go.Proofs.Ytbbagpnjjjohpaa.hexes

theorem take_last {α : Type} {zs : List α} {j : Nat} (h : j < zs.length) : zs.take (j + 1) = zs.take j ++ [zs[j]] := by rw [List.take_succ_eq_append_getElem h]

end Go.Proofs.Ytbbagpnjjjohpaa.hexes

namespace Go.Proofs.Ytbbagpnjjjohpaa.hexes
open Go.RowKit

/-- A list of Count as a row of cells. -/
def ctCells (zs : List Ct) : List Value := zs.flatMap fun z => [.int .i64 z.1.1, .int .i64 z.1.2, .int .i64 z.2]

theorem ctCells_cons (z : Ct) (zs : List Ct) : ctCells (z :: zs) = .int .i64 z.1.1 :: .int .i64 z.1.2 :: .int .i64 z.2 :: ctCells zs := rfl
theorem ctCells_length (zs : List Ct) : (ctCells zs).length = zs.length * 3 := by
  induction zs with
  | nil => rfl
  | cons z zs ih => rw [ctCells_cons]; simp only [List.length_cons, ih]; omega
theorem ctCells_at (zs : List Ct) (j : Nat) (h : j < zs.length) : (ctCells zs)[j * 3]? = some (.int .i64 zs[j].1.1) ∧ (ctCells zs)[j * 3 + 1]? = some (.int .i64 zs[j].1.2) ∧ (ctCells zs)[j * 3 + 2]? = some (.int .i64 zs[j].2) := by
  induction zs generalizing j with
  | nil => simp at h
  | cons z zs ih =>
    rw [ctCells_cons]
    cases j with
    | zero => exact ⟨rfl, rfl, rfl⟩
    | succ j =>
      have := ih j (by simpa using h)
      rw [show (j + 1) * 3 = j * 3 + 1 + 1 + 1 by omega]
      simpa using this

/-- A list of Count that can be read at A. -/
def Cts (w : World) (A : Option Addr) (zs : List Ct) : Prop :=
  0 < zs.length → ∃ b off, A = some ⟨b, off, none⟩ ∧ b < w.heap.size ∧ ∀ j, (h : j < zs.length) → w.cell? ⟨b, off + j * 3, none⟩ = some (.int .i64 zs[j].1.1) ∧ w.cell? ⟨b, off + j * 3 + 1, none⟩ = some (.int .i64 zs[j].1.2) ∧ w.cell? ⟨b, off + j * 3 + 2, none⟩ = some (.int .i64 zs[j].2)

theorem Cts.below {w w' : World} {A : Option Addr} {zs : List Ct} (h : Cts w A zs) (hb : Below w.heap.size w w') : Cts w' A zs := fun hl => by
  obtain ⟨b, off, hA, hlt, hz⟩ := h hl
  refine ⟨b, off, hA, Nat.lt_of_lt_of_le hlt hb.size, fun j hj => ?_⟩
  obtain ⟨h0, h1, h2⟩ := hz j hj
  exact ⟨below_keep hb h0, below_keep hb h1, below_keep hb h2⟩

theorem Cts.of_own {w : World} {B e n : Nat} {v : Value} {zs : List Ct} (h : w.ownsRow B e 3 v n (ctCells zs)) : ∃ A cap, v = .slice A n cap ∧ zs.length = n ∧ Cts w A zs := by
  have hl : zs.length = n := by have := h.1; rw [ctCells_length] at this; omega
  rcases h.2 with ⟨rfl, rfl⟩ | ⟨g, cap, cur, rfl, _, hg, hnc, _, hcs, htk⟩
  · exact ⟨none, 0, rfl, hl, fun h => absurd h (by omega)⟩
  · refine ⟨some ⟨g, 0, none⟩, cap, rfl, hl, fun hp => ⟨g, 0, rfl, ?_, fun j hj => ?_⟩⟩
    · rcases Nat.lt_or_ge g w.heap.size with hlt | hge
      · exact hlt
      · rw [Array.getElem?_eq_none hge] at hg; cases hg
    · have key : ∀ i u, (ctCells zs)[i]? = some u → w.cell? ⟨g, i, none⟩ = some u := fun i u hu => by
        rw [cell_of_row w g i cur e (0, 0) hg]
        rw [← htk, List.getElem?_take] at hu
        split at hu
        · simpa using hu
        · cases hu
      rw [Nat.zero_add]
      obtain ⟨h0, h1, h2⟩ := ctCells_at zs j hj
      exact ⟨key _ _ h0, key _ _ h1, key _ _ h2⟩

/-- The k-th entry of a list that can be read, cell by cell. -/
theorem Cts.at {w : World} {A : Option Addr} {zs : List Ct} (h : Cts w A zs) {k : Nat} (hk : k < zs.length) : ∃ b off p0 p1 p2, A = some ⟨b, off, none⟩ ∧ zs[k] = ((p0, p1), p2) ∧ w.cell? ⟨b, off + k * 3, none⟩ = some (.int .i64 p0) ∧ w.cell? ⟨b, off + k * 3 + 1, none⟩ = some (.int .i64 p1) ∧ w.cell? ⟨b, off + k * 3 + 2, none⟩ = some (.int .i64 p2) := by
  obtain ⟨b, off, hA, _, hz⟩ := h (by omega)
  obtain ⟨h0, h1, h2⟩ := hz k hk
  exact ⟨b, off, zs[k].1.1, zs[k].1.2, zs[k].2, hA, rfl, h0, h1, h2⟩

theorem Cts.news {w : World} {ad : Addr} {ys : List Ct} (h : Cts w (some ad) ys) (j : Nat) (u : Value) (hu : (ctCells ys)[j]? = some u) : w.cell? (ad.add j) = some u := by
  have hj : j < ys.length * 3 := by rw [← ctCells_length]; exact (List.getElem?_eq_some_iff.1 hu).1
  obtain ⟨b, off, hA, _, hz⟩ := h (by omega)
  obtain rfl : ad = ⟨b, off, none⟩ := Option.some.inj hA
  rw [addr_add1]
  have hk : j / 3 < ys.length := by omega
  obtain ⟨e0, e1, e2⟩ := ctCells_at ys (j / 3) hk
  obtain ⟨z0, z1, z2⟩ := hz (j / 3) hk
  have hm : j % 3 = 0 ∨ j % 3 = 1 ∨ j % 3 = 2 := by omega
  rcases hm with h2 | h2 | h2
  · rw [show j / 3 * 3 = j by omega] at e0
    rw [show off + j / 3 * 3 = off + j by omega] at z0
    rw [z0, ← hu, e0]
  · rw [show j / 3 * 3 + 1 = j by omega] at e1
    rw [show off + j / 3 * 3 + 1 = off + j by omega] at z1
    rw [z1, ← hu, e1]
  · rw [show j / 3 * 3 + 2 = j by omega] at e2
    rw [show off + j / 3 * 3 + 2 = off + j by omega] at z2
    rw [z2, ← hu, e2]

end Go.Proofs.Ytbbagpnjjjohpaa.hexes

namespace Go.Proofs.Ytbbagpnjjjohpaa.hexes
open Go.RowKit

/-- A list of Record as a row of cells. -/
def rcCells (zs : List Rc) : List Value := zs.flatMap fun z => [.int .i64 z.1, .int .i64 z.2.1.1, .int .i64 z.2.1.2, .int .i64 z.2.2.1, .int .i64 z.2.2.2]

theorem rcCells_cons (z : Rc) (zs : List Rc) : rcCells (z :: zs) = .int .i64 z.1 :: .int .i64 z.2.1.1 :: .int .i64 z.2.1.2 :: .int .i64 z.2.2.1 :: .int .i64 z.2.2.2 :: rcCells zs := rfl
theorem rcCells_length (zs : List Rc) : (rcCells zs).length = zs.length * 5 := by
  induction zs with
  | nil => rfl
  | cons z zs ih => rw [rcCells_cons]; simp only [List.length_cons, ih]; omega
theorem rcCells_at (zs : List Rc) (j : Nat) (h : j < zs.length) : (rcCells zs)[j * 5]? = some (.int .i64 zs[j].1) ∧ (rcCells zs)[j * 5 + 1]? = some (.int .i64 zs[j].2.1.1) ∧ (rcCells zs)[j * 5 + 2]? = some (.int .i64 zs[j].2.1.2) ∧ (rcCells zs)[j * 5 + 3]? = some (.int .i64 zs[j].2.2.1) ∧ (rcCells zs)[j * 5 + 4]? = some (.int .i64 zs[j].2.2.2) := by
  induction zs generalizing j with
  | nil => simp at h
  | cons z zs ih =>
    rw [rcCells_cons]
    cases j with
    | zero => exact ⟨rfl, rfl, rfl, rfl, rfl⟩
    | succ j =>
      have := ih j (by simpa using h)
      rw [show (j + 1) * 5 = j * 5 + 1 + 1 + 1 + 1 + 1 by omega]
      simpa using this

/-- A list of Record that can be read at A. -/
def Rcs (w : World) (A : Option Addr) (zs : List Rc) : Prop :=
  0 < zs.length → ∃ b off, A = some ⟨b, off, none⟩ ∧ b < w.heap.size ∧ ∀ j, (h : j < zs.length) → w.cell? ⟨b, off + j * 5, none⟩ = some (.int .i64 zs[j].1) ∧ w.cell? ⟨b, off + j * 5 + 1, none⟩ = some (.int .i64 zs[j].2.1.1) ∧ w.cell? ⟨b, off + j * 5 + 2, none⟩ = some (.int .i64 zs[j].2.1.2) ∧ w.cell? ⟨b, off + j * 5 + 3, none⟩ = some (.int .i64 zs[j].2.2.1) ∧ w.cell? ⟨b, off + j * 5 + 4, none⟩ = some (.int .i64 zs[j].2.2.2)

theorem Rcs.below {w w' : World} {A : Option Addr} {zs : List Rc} (h : Rcs w A zs) (hb : Below w.heap.size w w') : Rcs w' A zs := fun hl => by
  obtain ⟨b, off, hA, hlt, hz⟩ := h hl
  refine ⟨b, off, hA, Nat.lt_of_lt_of_le hlt hb.size, fun j hj => ?_⟩
  obtain ⟨h0, h1, h2, h3, h4⟩ := hz j hj
  exact ⟨below_keep hb h0, below_keep hb h1, below_keep hb h2, below_keep hb h3, below_keep hb h4⟩

theorem Rcs.of_own {w : World} {B e n : Nat} {v : Value} {zs : List Rc} (h : w.ownsRow B e 5 v n (rcCells zs)) : ∃ A cap, v = .slice A n cap ∧ zs.length = n ∧ Rcs w A zs := by
  have hl : zs.length = n := by have := h.1; rw [rcCells_length] at this; omega
  rcases h.2 with ⟨rfl, rfl⟩ | ⟨g, cap, cur, rfl, _, hg, hnc, _, hcs, htk⟩
  · exact ⟨none, 0, rfl, hl, fun h => absurd h (by omega)⟩
  · refine ⟨some ⟨g, 0, none⟩, cap, rfl, hl, fun hp => ⟨g, 0, rfl, ?_, fun j hj => ?_⟩⟩
    · rcases Nat.lt_or_ge g w.heap.size with hlt | hge
      · exact hlt
      · rw [Array.getElem?_eq_none hge] at hg; cases hg
    · have key : ∀ i u, (rcCells zs)[i]? = some u → w.cell? ⟨g, i, none⟩ = some u := fun i u hu => by
        rw [cell_of_row w g i cur e (0, 0) hg]
        rw [← htk, List.getElem?_take] at hu
        split at hu
        · simpa using hu
        · cases hu
      rw [Nat.zero_add]
      obtain ⟨h0, h1, h2, h3, h4⟩ := rcCells_at zs j hj
      exact ⟨key _ _ h0, key _ _ h1, key _ _ h2, key _ _ h3, key _ _ h4⟩

/-- The k-th entry of a list that can be read, cell by cell. -/
theorem Rcs.at {w : World} {A : Option Addr} {zs : List Rc} (h : Rcs w A zs) {k : Nat} (hk : k < zs.length) : ∃ b off p0 p1 p2 p3 p4, A = some ⟨b, off, none⟩ ∧ zs[k] = (p0, (p1, p2), p3, p4) ∧ w.cell? ⟨b, off + k * 5, none⟩ = some (.int .i64 p0) ∧ w.cell? ⟨b, off + k * 5 + 1, none⟩ = some (.int .i64 p1) ∧ w.cell? ⟨b, off + k * 5 + 2, none⟩ = some (.int .i64 p2) ∧ w.cell? ⟨b, off + k * 5 + 3, none⟩ = some (.int .i64 p3) ∧ w.cell? ⟨b, off + k * 5 + 4, none⟩ = some (.int .i64 p4) := by
  obtain ⟨b, off, hA, _, hz⟩ := h (by omega)
  obtain ⟨h0, h1, h2, h3, h4⟩ := hz k hk
  exact ⟨b, off, zs[k].1, zs[k].2.1.1, zs[k].2.1.2, zs[k].2.2.1, zs[k].2.2.2, hA, rfl, h0, h1, h2, h3, h4⟩

theorem Rcs.news {w : World} {ad : Addr} {ys : List Rc} (h : Rcs w (some ad) ys) (j : Nat) (u : Value) (hu : (rcCells ys)[j]? = some u) : w.cell? (ad.add j) = some u := by
  have hj : j < ys.length * 5 := by rw [← rcCells_length]; exact (List.getElem?_eq_some_iff.1 hu).1
  obtain ⟨b, off, hA, _, hz⟩ := h (by omega)
  obtain rfl : ad = ⟨b, off, none⟩ := Option.some.inj hA
  rw [addr_add1]
  have hk : j / 5 < ys.length := by omega
  obtain ⟨e0, e1, e2, e3, e4⟩ := rcCells_at ys (j / 5) hk
  obtain ⟨z0, z1, z2, z3, z4⟩ := hz (j / 5) hk
  have hm : j % 5 = 0 ∨ j % 5 = 1 ∨ j % 5 = 2 ∨ j % 5 = 3 ∨ j % 5 = 4 := by omega
  rcases hm with h2 | h2 | h2 | h2 | h2
  · rw [show j / 5 * 5 = j by omega] at e0
    rw [show off + j / 5 * 5 = off + j by omega] at z0
    rw [z0, ← hu, e0]
  · rw [show j / 5 * 5 + 1 = j by omega] at e1
    rw [show off + j / 5 * 5 + 1 = off + j by omega] at z1
    rw [z1, ← hu, e1]
  · rw [show j / 5 * 5 + 2 = j by omega] at e2
    rw [show off + j / 5 * 5 + 2 = off + j by omega] at z2
    rw [z2, ← hu, e2]
  · rw [show j / 5 * 5 + 3 = j by omega] at e3
    rw [show off + j / 5 * 5 + 3 = off + j by omega] at z3
    rw [z3, ← hu, e3]
  · rw [show j / 5 * 5 + 4 = j by omega] at e4
    rw [show off + j / 5 * 5 + 4 = off + j by omega] at z4
    rw [z4, ← hu, e4]

end Go.Proofs.Ytbbagpnjjjohpaa.hexes

namespace Go.Proofs.Ytbbagpnjjjohpaa.hexes
open Go.RowKit

theorem eqCell_at (p0 p1 p2 p3 q0 q1 q2 q3 : Int) (w : World) :
    Calls Try.prog 67 #[.agg #[.int .i64 p0, .int .i64 p1, .int .i64 p2, .int .i64 p3], .agg #[.int .i64 q0, .int .i64 q1, .int .i64 q2, .int .i64 q3]] w fun e w' => e = .returned (.bool (decide (p0 = q0 ∧ p1 = q1 ∧ p2 = q2 ∧ p3 = q3))) ∧ (w.alloc (.cells #[.int .i64 p0, .int .i64 p1, .int .i64 p2, .int .i64 p3] 38)).alloc (.cells #[.int .i64 q0, .int .i64 q1, .int .i64 q2, .int .i64 q3] 38) = w' := by
  go_enter Try.func67, Try.ntmps67
  go_wp2
  all_goals (go_ret; refine ⟨?_, rfl⟩; simp_all)

theorem eqCell_any (p0 p1 p2 p3 q0 q1 q2 q3 : Int) (w : World) : Calls Try.prog 67 #[.agg #[.int .i64 p0, .int .i64 p1, .int .i64 p2, .int .i64 p3], .agg #[.int .i64 q0, .int .i64 q1, .int .i64 q2, .int .i64 q3]] w fun e w' => e = .returned (.bool (decide (p0 = q0 ∧ p1 = q1 ∧ p2 = q2 ∧ p3 = q3))) ∧ Below w.heap.size w w' :=
  (eqCell_at p0 p1 p2 p3 q0 q1 q2 q3 w).mono fun _ _ ⟨he, hw⟩ => ⟨he, hw ▸ ((Below.refl _ _).alloc (by simp) _).alloc (by simp) _⟩

theorem toCell_at (p0 p1 p2 p3 : Int) (w : World) :
    Calls Try.prog 36 #[.agg #[.int .i64 p0, .int .i64 p1, .int .i64 p2, .int .i64 p3]] w fun e w' => e = .returned (.agg #[.int .i64 p0, .int .i64 p1, .int .i64 p2, .int .i64 p3]) ∧ ((w.alloc (.cells #[.int .i64 p0, .int .i64 p1, .int .i64 p2, .int .i64 p3] 59)).alloc (.cells #[.int .i64 p0, .int .i64 p1, .int .i64 p2, .int .i64 p3] 38)).alloc (.cells #[.int .i64 p0, .int .i64 p1, .int .i64 p2, .int .i64 p3] 38) = w' := by
  go_enter Try.func36, Try.ntmps36
  go_wp2
  exact bodyPost_ret (v := .agg #[.int .i64 p0, .int .i64 p1, .int .i64 p2, .int .i64 p3]) (by simp [results, Try.results36, go_sem]) rfl ⟨rfl, rfl⟩

theorem toCell_any (p0 p1 p2 p3 : Int) (w : World) : Calls Try.prog 36 #[.agg #[.int .i64 p0, .int .i64 p1, .int .i64 p2, .int .i64 p3]] w fun e w' => e = .returned (.agg #[.int .i64 p0, .int .i64 p1, .int .i64 p2, .int .i64 p3]) ∧ Below w.heap.size w w' :=
  (toCell_at p0 p1 p2 p3 w).mono fun _ _ ⟨he, hw⟩ => ⟨he, hw ▸ (((Below.refl _ _).alloc (by simp) _).alloc (by simp) _).alloc (by simp; omega) _⟩
end Go.Proofs.Ytbbagpnjjjohpaa.hexes

