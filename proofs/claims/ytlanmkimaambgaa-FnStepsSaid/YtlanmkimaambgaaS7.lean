/-
  Steps on lists: how much a step makes; the steps one by one.
  Lists of Count in memory: how they lie there, and the contracts of the laws' own functions on them.
  Lists of Record in memory: how they lie there, and the contracts of the laws' own functions on them.
-/
import Derived.Test.YtlanmkimaambgaaS6
import Derived.Test.YtlanmkimaambgaaS0
import Derived.Test.YtlanmkimaambgaaS1

namespace Go.Proofs.Ytlanmkimaambgaa.hexes
open Go.RowKit

theorem emit_lenS (zs : List Int) (s : Int × Int) (key val : Int) : (emitL zs s key val).length ≤ zs.length := Nat.le_of_eq (emit_len zs s key val)
theorem stepN_out (x : Nd) (key val : Int) (goes : Bool) (cs : List Ce) (r : Rc) : (stepNd x key val goes cs r).1.2.length ≤ x.2.2.2.length := by
  unfold stepNd
  dsimp only
  repeat' split
  all_goals first | exact emit_lenS _ _ _ _ | simp
theorem stepN_cells (x : Nd) (key val : Int) (goes : Bool) (cs : List Ce) (r : Rc) : (stepNd x key val goes cs r).1.1.length ≤ cs.length + 1 := by
  have h := recC_len x.1 cs (r.1, r.2.1.1, r.2.2.1, r.2.2.2)
  unfold stepNd
  dsimp only
  repeat' split
  all_goals first | exact h | (simp; done) | (simp; omega)
theorem stepG_cells (gs : List Nd) (wk cp : Int) (cs : List Ce) (r : Rc) : (stepGr gs wk cp cs r).1.1.length ≤ cs.length + 1 := by
  unfold stepGr
  split
  · simp
  · exact stepN_cells _ _ _ _ _ _
theorem allB_at {gs : List Nd} {d : Int → Int} (h : allB gs d = true) {i : Nat} (hi : i < gs.length) : nodeB gs d i gs[i] = true := by
  unfold allB at h
  rw [List.all_eq_true] at h
  have := h i (by simpa using hi)
  simpa [List.getElem?_eq_getElem hi] using this
theorem stepG_out (gs : List Nd) (wk cp : Int) (cs : List Ce) (r : Rc) : (stepGr gs wk cp cs r).1.2.length ≤ 2 := by
  unfold stepGr
  split
  · simp
  · rename_i h
    refine Nat.le_trans (stepN_out _ _ _ _ _ _) ?_
    rw [Bool.not_eq_false, Bool.and_eq_true, Bool.and_eq_true] at h
    obtain ⟨⟨h1, h2⟩, _⟩ := h
    unfold hasB at h1
    simp only [decide_eq_true_eq] at h1
    obtain ⟨j, hj⟩ : ∃ j : Nat, r.1 = (j : Int) := ⟨r.1.toNat, by omega⟩
    have hl : j < gs.length := by omega
    rw [hj, nodeAt_of hl]
    unfold okGr at h2
    simp only [Bool.and_eq_true] at h2
    have h3 := allB_at h2.2 hl
    unfold nodeB at h3
    simp only [Bool.and_eq_true] at h3
    have h4 := h3.1.1
    unfold okN okNd at h4
    simp only [Bool.and_eq_true] at h4
    have h5 := h4.2
    unfold outsB at h5
    simp only [decide_eq_true_eq] at h5
    exact h5.1
theorem steps_nil (gs : List Nd) (wk cp : Int) (k : Nat) (cs : List Ce) : stepsG gs wk cp k (cs, []) = ((cs, []), 0) := by
  cases k <;> rfl
theorem steps_succ (gs : List Nd) (wk cp : Int) (k : Nat) (cs : List Ce) (r : Rc) (rs : List Rc) : stepsG gs wk cp (k + 1) (cs, r :: rs) = ((stepsG gs wk cp k ((stepGr gs wk cp cs r).1.1, rs ++ (stepGr gs wk cp cs r).1.2)).1, (stepsG gs wk cp k ((stepGr gs wk cp cs r).1.1, rs ++ (stepGr gs wk cp cs r).1.2)).2 + 1) := rfl
theorem steps_len (gs : List Nd) (wk cp : Int) (k : Nat) : ∀ (cs : List Ce) (rs : List Rc), (stepsG gs wk cp k (cs, rs)).1.1.length ≤ cs.length + k ∧ (stepsG gs wk cp k (cs, rs)).1.2.length ≤ rs.length + 2 * k := by
  induction k with
  | zero => intro cs rs; exact ⟨Nat.le_refl _, Nat.le_refl _⟩
  | succ k ih =>
    intro cs rs
    cases rs with
    | nil => rw [steps_nil]; exact ⟨Nat.le_add_right _ _, Nat.zero_le _⟩
    | cons r rs =>
      rw [steps_succ]
      have h := ih (stepGr gs wk cp cs r).1.1 (rs ++ (stepGr gs wk cp cs r).1.2)
      have h1 := stepG_cells gs wk cp cs r
      have h2 := stepG_out gs wk cp cs r
      have h3 := h.2
      rw [List.length_append] at h3
      refine ⟨Nat.le_trans h.1 (by omega), Nat.le_trans h3 ?_⟩
      rw [List.length_cons]
      omega
/-- After j steps the rest leads to the same end. -/
def StepsAt (gs : List Nd) (wk cp : Int) (K j : Nat) (q : (List Ce × List Rc) × Nat) (cs : List Ce) (rs : List Rc) : Prop := (stepsG gs wk cp (K - j) (cs, rs)).1 = q.1 ∧ (stepsG gs wk cp (K - j) (cs, rs)).2 + j = q.2
theorem StepsAt.start (gs : List Nd) (wk cp : Int) (K : Nat) (cs : List Ce) (rs : List Rc) : StepsAt gs wk cp K 0 (stepsG gs wk cp K (cs, rs)) cs rs := ⟨rfl, rfl⟩
theorem StepsAt.next {gs : List Nd} {wk cp : Int} {K j : Nat} {q : (List Ce × List Rc) × Nat} {cs : List Ce} {r : Rc} {rs : List Rc} (h : StepsAt gs wk cp K j q cs (r :: rs)) (hj : j < K) : StepsAt gs wk cp K (j + 1) q (stepGr gs wk cp cs r).1.1 (rs ++ (stepGr gs wk cp cs r).1.2) := by
  obtain ⟨h1, h2⟩ := h
  rw [show K - j = (K - (j + 1)) + 1 by omega, steps_succ] at h1 h2
  exact ⟨h1, by rw [← h2]; show _ = _ + 1 + j; omega⟩
theorem StepsAt.full {gs : List Nd} {wk cp : Int} {K : Nat} {q : (List Ce × List Rc) × Nat} {cs : List Ce} {rs : List Rc} (h : StepsAt gs wk cp K K q cs rs) : q = ((cs, rs), K) := by
  obtain ⟨h1, h2⟩ := h
  rw [Nat.sub_self] at h1 h2
  exact Prod.ext h1.symm (by rw [← h2]; show 0 + K = K; omega)
theorem StepsAt.empty {gs : List Nd} {wk cp : Int} {K j : Nat} {q : (List Ce × List Rc) × Nat} {cs : List Ce} (h : StepsAt gs wk cp K j q cs []) : q = ((cs, []), j) := by
  obtain ⟨h1, h2⟩ := h
  rw [steps_nil] at h1 h2
  exact Prod.ext h1.symm (by rw [← h2]; show 0 + j = j; omega)
end Go.Proofs.Ytlanmkimaambgaa.hexes

namespace Go.Proofs.Ytlanmkimaambgaa.hexes
open Go.RowKit

/-- A list of Count as a row of cells. -/
def ctCells (zs : List Ct) : List Value := zs.flatMap fun z => [.int .i64 z.1.1, .int .i64 z.1.2, .int .i64 z.2]

theorem ctCells_cons (z : Ct) (zs : List Ct) : ctCells (z :: zs) = .int .i64 z.1.1 :: .int .i64 z.1.2 :: .int .i64 z.2 :: ctCells zs := rfl
theorem ctCells_length (zs : List Ct) : (ctCells zs).length = zs.length * 3 := by
  induction zs with
  | nil => rfl
  | cons z zs ih => rw [ctCells_cons]; simp only [List.length_cons, ih]; omega
theorem ctCells_at (zs : List Ct) (j : Nat) (h : j < zs.length) : (ctCells zs)[j * 3]? = some (.int .i64 zs[j].1.1) ∧ (ctCells zs)[j * 3 + 1]? = some (.int .i64 zs[j].1.2) ∧ (ctCells zs)[j * 3 + 2]? = some (.int .i64 zs[j].2) := by
  induction zs generalizing j with
  | nil => simp at h
  | cons z zs ih =>
    rw [ctCells_cons]
    cases j with
    | zero => exact ⟨rfl, rfl, rfl⟩
    | succ j =>
      have := ih j (by simpa using h)
      rw [show (j + 1) * 3 = j * 3 + 1 + 1 + 1 by omega]
      simpa using this

/-- A list of Count that can be read at A. -/
def Cts (w : World) (A : Option Addr) (zs : List Ct) : Prop :=
  0 < zs.length → ∃ b off, A = some ⟨b, off, none⟩ ∧ b < w.heap.size ∧ ∀ j, (h : j < zs.length) → w.cell? ⟨b, off + j * 3, none⟩ = some (.int .i64 zs[j].1.1) ∧ w.cell? ⟨b, off + j * 3 + 1, none⟩ = some (.int .i64 zs[j].1.2) ∧ w.cell? ⟨b, off + j * 3 + 2, none⟩ = some (.int .i64 zs[j].2)

theorem Cts.below {w w' : World} {A : Option Addr} {zs : List Ct} (h : Cts w A zs) (hb : Below w.heap.size w w') : Cts w' A zs := fun hl => by
  obtain ⟨b, off, hA, hlt, hz⟩ := h hl
  refine ⟨b, off, hA, Nat.lt_of_lt_of_le hlt hb.size, fun j hj => ?_⟩
  obtain ⟨h0, h1, h2⟩ := hz j hj
  exact ⟨below_keep hb h0, below_keep hb h1, below_keep hb h2⟩

theorem Cts.of_own {w : World} {B e n : Nat} {v : Value} {zs : List Ct} (h : w.ownsRow B e 3 v n (ctCells zs)) : ∃ A cap, v = .slice A n cap ∧ zs.length = n ∧ Cts w A zs := by
  have hl : zs.length = n := by have := h.1; rw [ctCells_length] at this; omega
  rcases h.2 with ⟨rfl, rfl⟩ | ⟨g, cap, cur, rfl, _, hg, hnc, _, hcs, htk⟩
  · exact ⟨none, 0, rfl, hl, fun h => absurd h (by omega)⟩
  · refine ⟨some ⟨g, 0, none⟩, cap, rfl, hl, fun hp => ⟨g, 0, rfl, ?_, fun j hj => ?_⟩⟩
    · rcases Nat.lt_or_ge g w.heap.size with hlt | hge
      · exact hlt
      · rw [Array.getElem?_eq_none hge] at hg; cases hg
    · have key : ∀ i u, (ctCells zs)[i]? = some u → w.cell? ⟨g, i, none⟩ = some u := fun i u hu => by
        rw [cell_of_row w g i cur e (0, 0) hg]
        rw [← htk, List.getElem?_take] at hu
        split at hu
        · simpa using hu
        · cases hu
      rw [Nat.zero_add]
      obtain ⟨h0, h1, h2⟩ := ctCells_at zs j hj
      exact ⟨key _ _ h0, key _ _ h1, key _ _ h2⟩

/-- The k-th entry of a list that can be read, cell by cell. -/
theorem Cts.at {w : World} {A : Option Addr} {zs : List Ct} (h : Cts w A zs) {k : Nat} (hk : k < zs.length) : ∃ b off p0 p1 p2, A = some ⟨b, off, none⟩ ∧ zs[k] = ((p0, p1), p2) ∧ w.cell? ⟨b, off + k * 3, none⟩ = some (.int .i64 p0) ∧ w.cell? ⟨b, off + k * 3 + 1, none⟩ = some (.int .i64 p1) ∧ w.cell? ⟨b, off + k * 3 + 2, none⟩ = some (.int .i64 p2) := by
  obtain ⟨b, off, hA, _, hz⟩ := h (by omega)
  obtain ⟨h0, h1, h2⟩ := hz k hk
  exact ⟨b, off, zs[k].1.1, zs[k].1.2, zs[k].2, hA, rfl, h0, h1, h2⟩

theorem Cts.news {w : World} {ad : Addr} {ys : List Ct} (h : Cts w (some ad) ys) (j : Nat) (u : Value) (hu : (ctCells ys)[j]? = some u) : w.cell? (ad.add j) = some u := by
  have hj : j < ys.length * 3 := by rw [← ctCells_length]; exact (List.getElem?_eq_some_iff.1 hu).1
  obtain ⟨b, off, hA, _, hz⟩ := h (by omega)
  obtain rfl : ad = ⟨b, off, none⟩ := Option.some.inj hA
  rw [addr_add1]
  have hk : j / 3 < ys.length := by omega
  obtain ⟨e0, e1, e2⟩ := ctCells_at ys (j / 3) hk
  obtain ⟨z0, z1, z2⟩ := hz (j / 3) hk
  have hm : j % 3 = 0 ∨ j % 3 = 1 ∨ j % 3 = 2 := by omega
  rcases hm with h2 | h2 | h2
  · rw [show j / 3 * 3 = j by omega] at e0
    rw [show off + j / 3 * 3 = off + j by omega] at z0
    rw [z0, ← hu, e0]
  · rw [show j / 3 * 3 + 1 = j by omega] at e1
    rw [show off + j / 3 * 3 + 1 = off + j by omega] at z1
    rw [z1, ← hu, e1]
  · rw [show j / 3 * 3 + 2 = j by omega] at e2
    rw [show off + j / 3 * 3 + 2 = off + j by omega] at z2
    rw [z2, ← hu, e2]

end Go.Proofs.Ytlanmkimaambgaa.hexes

namespace Go.Proofs.Ytlanmkimaambgaa.hexes
open Go.RowKit

/-- A list of Record as a row of cells. -/
def rcCells (zs : List Rc) : List Value := zs.flatMap fun z => [.int .i64 z.1, .int .i64 z.2.1.1, .int .i64 z.2.1.2, .int .i64 z.2.2.1, .int .i64 z.2.2.2]

theorem rcCells_cons (z : Rc) (zs : List Rc) : rcCells (z :: zs) = .int .i64 z.1 :: .int .i64 z.2.1.1 :: .int .i64 z.2.1.2 :: .int .i64 z.2.2.1 :: .int .i64 z.2.2.2 :: rcCells zs := rfl
theorem rcCells_append (a b : List Rc) : rcCells (a ++ b) = rcCells a ++ rcCells b := by simp [rcCells]
theorem rcCells_length (zs : List Rc) : (rcCells zs).length = zs.length * 5 := by
  induction zs with
  | nil => rfl
  | cons z zs ih => rw [rcCells_cons]; simp only [List.length_cons, ih]; omega
theorem rcCells_at (zs : List Rc) (j : Nat) (h : j < zs.length) : (rcCells zs)[j * 5]? = some (.int .i64 zs[j].1) ∧ (rcCells zs)[j * 5 + 1]? = some (.int .i64 zs[j].2.1.1) ∧ (rcCells zs)[j * 5 + 2]? = some (.int .i64 zs[j].2.1.2) ∧ (rcCells zs)[j * 5 + 3]? = some (.int .i64 zs[j].2.2.1) ∧ (rcCells zs)[j * 5 + 4]? = some (.int .i64 zs[j].2.2.2) := by
  induction zs generalizing j with
  | nil => simp at h
  | cons z zs ih =>
    rw [rcCells_cons]
    cases j with
    | zero => exact ⟨rfl, rfl, rfl, rfl, rfl⟩
    | succ j =>
      have := ih j (by simpa using h)
      rw [show (j + 1) * 5 = j * 5 + 1 + 1 + 1 + 1 + 1 by omega]
      simpa using this
theorem rcCells_one {zs : List Rc} {u : Value} (h : u ∈ rcCells zs) : u.oneCell' = true := by
  simp only [rcCells, List.mem_flatMap, List.mem_cons, List.not_mem_nil, or_false] at h
  obtain ⟨z, _, rfl | rfl | rfl | rfl | rfl⟩ := h <;> rfl

/-- A list of Record that can be read at A. -/
def Rcs (w : World) (A : Option Addr) (zs : List Rc) : Prop :=
  0 < zs.length → ∃ b off, A = some ⟨b, off, none⟩ ∧ b < w.heap.size ∧ ∀ j, (h : j < zs.length) → w.cell? ⟨b, off + j * 5, none⟩ = some (.int .i64 zs[j].1) ∧ w.cell? ⟨b, off + j * 5 + 1, none⟩ = some (.int .i64 zs[j].2.1.1) ∧ w.cell? ⟨b, off + j * 5 + 2, none⟩ = some (.int .i64 zs[j].2.1.2) ∧ w.cell? ⟨b, off + j * 5 + 3, none⟩ = some (.int .i64 zs[j].2.2.1) ∧ w.cell? ⟨b, off + j * 5 + 4, none⟩ = some (.int .i64 zs[j].2.2.2)

theorem Rcs.below {w w' : World} {A : Option Addr} {zs : List Rc} (h : Rcs w A zs) (hb : Below w.heap.size w w') : Rcs w' A zs := fun hl => by
  obtain ⟨b, off, hA, hlt, hz⟩ := h hl
  refine ⟨b, off, hA, Nat.lt_of_lt_of_le hlt hb.size, fun j hj => ?_⟩
  obtain ⟨h0, h1, h2, h3, h4⟩ := hz j hj
  exact ⟨below_keep hb h0, below_keep hb h1, below_keep hb h2, below_keep hb h3, below_keep hb h4⟩

theorem Rcs.of_own {w : World} {B e n : Nat} {v : Value} {zs : List Rc} (h : w.ownsRow B e 5 v n (rcCells zs)) : ∃ A cap, v = .slice A n cap ∧ zs.length = n ∧ Rcs w A zs := by
  have hl : zs.length = n := by have := h.1; rw [rcCells_length] at this; omega
  rcases h.2 with ⟨rfl, rfl⟩ | ⟨g, cap, cur, rfl, _, hg, hnc, _, hcs, htk⟩
  · exact ⟨none, 0, rfl, hl, fun h => absurd h (by omega)⟩
  · refine ⟨some ⟨g, 0, none⟩, cap, rfl, hl, fun hp => ⟨g, 0, rfl, ?_, fun j hj => ?_⟩⟩
    · rcases Nat.lt_or_ge g w.heap.size with hlt | hge
      · exact hlt
      · rw [Array.getElem?_eq_none hge] at hg; cases hg
    · have key : ∀ i u, (rcCells zs)[i]? = some u → w.cell? ⟨g, i, none⟩ = some u := fun i u hu => by
        rw [cell_of_row w g i cur e (0, 0) hg]
        rw [← htk, List.getElem?_take] at hu
        split at hu
        · simpa using hu
        · cases hu
      rw [Nat.zero_add]
      obtain ⟨h0, h1, h2, h3, h4⟩ := rcCells_at zs j hj
      exact ⟨key _ _ h0, key _ _ h1, key _ _ h2, key _ _ h3, key _ _ h4⟩

/-- The k-th entry of a list that can be read, cell by cell. -/
theorem Rcs.at {w : World} {A : Option Addr} {zs : List Rc} (h : Rcs w A zs) {k : Nat} (hk : k < zs.length) : ∃ b off p0 p1 p2 p3 p4, A = some ⟨b, off, none⟩ ∧ zs[k] = (p0, (p1, p2), p3, p4) ∧ w.cell? ⟨b, off + k * 5, none⟩ = some (.int .i64 p0) ∧ w.cell? ⟨b, off + k * 5 + 1, none⟩ = some (.int .i64 p1) ∧ w.cell? ⟨b, off + k * 5 + 2, none⟩ = some (.int .i64 p2) ∧ w.cell? ⟨b, off + k * 5 + 3, none⟩ = some (.int .i64 p3) ∧ w.cell? ⟨b, off + k * 5 + 4, none⟩ = some (.int .i64 p4) := by
  obtain ⟨b, off, hA, _, hz⟩ := h (by omega)
  obtain ⟨h0, h1, h2, h3, h4⟩ := hz k hk
  exact ⟨b, off, zs[k].1, zs[k].2.1.1, zs[k].2.1.2, zs[k].2.2.1, zs[k].2.2.2, hA, rfl, h0, h1, h2, h3, h4⟩

theorem Rcs.news {w : World} {ad : Addr} {ys : List Rc} (h : Rcs w (some ad) ys) (j : Nat) (u : Value) (hu : (rcCells ys)[j]? = some u) : w.cell? (ad.add j) = some u := by
  have hj : j < ys.length * 5 := by rw [← rcCells_length]; exact (List.getElem?_eq_some_iff.1 hu).1
  obtain ⟨b, off, hA, _, hz⟩ := h (by omega)
  obtain rfl : ad = ⟨b, off, none⟩ := Option.some.inj hA
  rw [addr_add1]
  have hk : j / 5 < ys.length := by omega
  obtain ⟨e0, e1, e2, e3, e4⟩ := rcCells_at ys (j / 5) hk
  obtain ⟨z0, z1, z2, z3, z4⟩ := hz (j / 5) hk
  have hm : j % 5 = 0 ∨ j % 5 = 1 ∨ j % 5 = 2 ∨ j % 5 = 3 ∨ j % 5 = 4 := by omega
  rcases hm with h2 | h2 | h2 | h2 | h2
  · rw [show j / 5 * 5 = j by omega] at e0
    rw [show off + j / 5 * 5 = off + j by omega] at z0
    rw [z0, ← hu, e0]
  · rw [show j / 5 * 5 + 1 = j by omega] at e1
    rw [show off + j / 5 * 5 + 1 = off + j by omega] at z1
    rw [z1, ← hu, e1]
  · rw [show j / 5 * 5 + 2 = j by omega] at e2
    rw [show off + j / 5 * 5 + 2 = off + j by omega] at z2
    rw [z2, ← hu, e2]
  · rw [show j / 5 * 5 + 3 = j by omega] at e3
    rw [show off + j / 5 * 5 + 3 = off + j by omega] at z3
    rw [z3, ← hu, e3]
  · rw [show j / 5 * 5 + 4 = j by omega] at e4
    rw [show off + j / 5 * 5 + 4 = off + j by omega] at z4
    rw [z4, ← hu, e4]

theorem rcs_none {w : World} {n : Nat} {zs : List Rc} (h : Rcs w none zs) (hz : zs.length = n) : n = 0 := by
  rcases Nat.eq_zero_or_pos n with h0 | h0
  · exact h0
  · obtain ⟨b, off, hA, _⟩ := h (by omega)
    cases hA

theorem take_step_rc {zs ys : List Rc} {k : Nat} (h1 : k < zs.length) (h2 : k < ys.length) (ht : zs.take k = ys.take k) (he : zs[k] = ys[k]) : zs.take (k + 1) = ys.take (k + 1) := by
  rw [List.take_succ_eq_append_getElem h1, List.take_succ_eq_append_getElem h2, ht, he]

theorem rcinfo : (Try.prog.info? 31).map (fun i => (i.zero, i.size, i.bytes)) = some (some (.agg #[.int .i64 0, .int .i64 0, .int .i64 0, .int .i64 0, .int .i64 0]), 5, 40) := by kernel_rfl

/-- An append of a list of Record to an owned one. -/
theorem wpList_append_rc {w : World} {ops : Array Oper} {rest : List Oper} {o : Oper} {a : Act} {Q : Exit → Act → World → Prop} (hgd : o.guard = none) (s x : Operand)
    (ho : o.op = .call { callee := .builtin .append, args := #[s, x], argTypes := #[34, 34] })
    (base : Nat) (v : Value) (n : Nat) (zs : List Rc) (hs : a.eval s = v) (hown : w.ownsRow base 31 5 v n (rcCells zs))
    (A : Option Addr) (m c : Nat) (ys : List Rc) (hx : a.eval x = .slice A m c) (hA : A = none → c = 0) (hl : ys.length = m) (hsts : Rcs w A ys)
    (hb : n + m ≤ 4194304) (hbase : base ≤ w.heap.size)
    (h : ∀ v' w', w'.ownsRow base 31 5 v' (n + m) (rcCells (zs ++ ys)) → w.grownBy w' v.ownBlock → wpList Try.prog ops Q rest (a.put o.dst v') w') : wpList Try.prog ops Q (o :: rest) a w := by
  obtain ⟨i0, hi, hz0, hz1, hz2⟩ := info_parts rcinfo
  cases A with
  | none =>
    obtain rfl := rcs_none hsts hl
    obtain rfl := hA rfl
    obtain rfl := List.eq_nil_of_length_eq_zero hl
    exact wpList_append_own_none hgd s x 34 ho base 31 i0 5 Try.underlying34 hi v n (rcCells zs) hs hown hx (h v w (by simpa using hown) (grown_refl _ _))
  | some ad =>
    refine wpList_append_own w hgd s x 34 ho base 31 i0 (.agg #[.int .i64 0, .int .i64 0, .int .i64 0, .int .i64 0, .int .i64 0]) 5 40 Try.underlying34 hi hz0 hz1 hz2 rfl (by decide) v n (rcCells zs) hs hown ad m c (rcCells ys) hx (by rw [rcCells_length, hl]) hsts.news (fun u hu => rcCells_one hu) (by unfold maxLen; omega) (by omega) hbase ?_
    intro v' w' h2 h3 _
    rw [← rcCells_append] at h2
    exact h v' w' h2 h3

theorem rc_new (w : World) (p0 p1 p2 p3 p4 : Int) : Rcs (w.alloc (.cells #[.int .i64 p0, .int .i64 p1, .int .i64 p2, .int .i64 p3, .int .i64 p4] 31)) (some ⟨w.heap.size, 0, none⟩) [(p0, (p1, p2), p3, p4)] := fun _ =>
  ⟨w.heap.size, 0, rfl, by simp, fun j hj => by
    obtain rfl : j = 0 := by simpa using hj
    exact ⟨alloc_cells rfl rfl, alloc_cells rfl rfl, alloc_cells rfl rfl, alloc_cells rfl rfl, alloc_cells rfl rfl⟩⟩

theorem Row.rc {w : World} {lo hi e n c : Nat} {A : Option Addr} {zs : List Rc} (h : Row w lo hi e 5 A n c (rcCells zs)) : Rcs w A zs := by
  obtain ⟨A', c', he, _, hs⟩ := Rcs.of_own h.own
  simp only [Value.slice.injEq, true_and] at he
  obtain ⟨rfl, rfl⟩ := he
  exact hs

end Go.Proofs.Ytlanmkimaambgaa.hexes

