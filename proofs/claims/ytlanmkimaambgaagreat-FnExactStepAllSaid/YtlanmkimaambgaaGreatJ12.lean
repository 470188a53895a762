/-
  Cells as lists: the order of cells, lists in order, a cell put in, the least value of a key, what Recall answers, the cells of one operator and epoch.
  Minimal on lists, from a sorted list in one pass; and the facts on it that chapter 3's laws ask.
-/
import Derived.Test.YtlanmkimaambgaaGreatJ0
import Derived.Test.YtlanmkimaambgaaGreatJ1

namespace Go.Proofs.YtlanmkimaambgaaGreat.hexes
open Go.RowKit

/-- A cell: operator, epoch, key, value. -/
abbrev Ce := Int × Int × Int × Int

/-- What CellOrder answers. -/
def ordCe (a b : Ce) : Int :=
  if ordI a.2.1 b.2.1 ≠ 0 then ordI a.2.1 b.2.1
  else if ordI a.1 b.1 ≠ 0 then ordI a.1 b.1
  else if ordI a.2.2.1 b.2.2.1 ≠ 0 then ordI a.2.2.1 b.2.2.1
  else ordI a.2.2.2 b.2.2.2

/-- a comes ahead of b. -/
def ltE (a b : Ce) : Prop := a.2.1 < b.2.1 ∨ (a.2.1 = b.2.1 ∧ (a.1 < b.1 ∨ (a.1 = b.1 ∧ (a.2.2.1 < b.2.2.1 ∨ (a.2.2.1 = b.2.2.1 ∧ a.2.2.2 < b.2.2.2)))))
instance (a b : Ce) : Decidable (ltE a b) := by unfold ltE; infer_instance

theorem ltE_irrefl (a : Ce) : ¬ltE a a := by unfold ltE; omega
theorem ltE_trans {a b c : Ce} (h1 : ltE a b) (h2 : ltE b c) : ltE a c := by unfold ltE at *; omega
theorem ltE_total {a b : Ce} (h1 : ¬ltE a b) (h2 : ¬ltE b a) : a = b := by
  obtain ⟨a1, a2, a3, a4⟩ := a
  obtain ⟨b1, b2, b3, b4⟩ := b
  unfold ltE at *
  simp only [Prod.mk.injEq] at *
  omega

theorem ordE_cases (x u : Int) : (x < u ∧ ordI x u = -1) ∨ (x = u ∧ ordI x u = 0) ∨ (u < x ∧ ordI x u = 1) := by
  unfold ordI
  split
  · exact .inl ⟨by assumption, rfl⟩
  · split
    · exact .inr (.inr ⟨by omega, rfl⟩)
    · exact .inr (.inl ⟨by omega, rfl⟩)
theorem ordCe_neg (a b : Ce) : ordCe a b < 0 ↔ ltE a b := by
  unfold ordCe ltE
  rcases ordE_cases a.2.1 b.2.1 with ⟨h0, e0⟩ | ⟨h0, e0⟩ | ⟨h0, e0⟩
  · simp [e0]; omega
  rotate_left
  · simp [e0]; omega
  rcases ordE_cases a.1 b.1 with ⟨h1, e1⟩ | ⟨h1, e1⟩ | ⟨h1, e1⟩
  · simp [e0, e1]; omega
  rotate_left
  · simp [e0, e1]; omega
  rcases ordE_cases a.2.2.1 b.2.2.1 with ⟨h2, e2⟩ | ⟨h2, e2⟩ | ⟨h2, e2⟩
  · simp [e0, e1, e2]; omega
  rotate_left
  · simp [e0, e1, e2]; omega
  rcases ordE_cases a.2.2.2 b.2.2.2 with ⟨h3, e3⟩ | ⟨h3, e3⟩ | ⟨h3, e3⟩ <;> (simp [e0, e1, e2, e3]; omega)
theorem ordCe_zero (a b : Ce) : ordCe a b = 0 ↔ a = b := by
  obtain ⟨a1, a2, a3, a4⟩ := a
  obtain ⟨b1, b2, b3, b4⟩ := b
  unfold ordCe
  simp only [Prod.mk.injEq]
  rcases ordE_cases a2 b2 with ⟨h0, e0⟩ | ⟨h0, e0⟩ | ⟨h0, e0⟩
  · simp [e0]; omega
  rotate_left
  · simp [e0]; omega
  rcases ordE_cases a1 b1 with ⟨h1, e1⟩ | ⟨h1, e1⟩ | ⟨h1, e1⟩
  · simp [e0, e1]; omega
  rotate_left
  · simp [e0, e1]; omega
  rcases ordE_cases a3 b3 with ⟨h2, e2⟩ | ⟨h2, e2⟩ | ⟨h2, e2⟩
  · simp [e0, e1, e2]; omega
  rotate_left
  · simp [e0, e1, e2]; omega
  rcases ordE_cases a4 b4 with ⟨h3, e3⟩ | ⟨h3, e3⟩ | ⟨h3, e3⟩ <;> (simp [e0, e1, e2, e3]; omega)
theorem ordCe_bd (a b : Ce) : -1 ≤ ordCe a b ∧ ordCe a b ≤ 1 := by
  unfold ordCe
  split
  · exact ordI_bd _ _
  split
  · exact ordI_bd _ _
  split
  · exact ordI_bd _ _
  exact ordI_bd _ _

/-- In order, each once. -/
def AscE (zs : List Ce) : Prop := zs.Pairwise ltE
instance (zs : List Ce) : Decidable (AscE zs) := by unfold AscE; infer_instance
/-- What CellsOk answers. -/
def okCes (zs : List Ce) : Bool := decide (AscE zs)
theorem asc_take1 (zs : List Ce) : AscE (zs.take 1) := by
  cases zs with
  | nil => exact List.Pairwise.nil
  | cons z zs => simp [AscE]
theorem asc_step {zs : List Ce} {k : Nat} (hk : k + 1 < zs.length) (h : AscE (zs.take (k + 1))) (hl : ltE zs[k] zs[k + 1]) : AscE (zs.take (k + 1 + 1)) := by
  rw [List.take_succ_eq_append_getElem hk]
  refine List.pairwise_append.2 ⟨h, by simp, fun a ha b hb => ?_⟩
  obtain rfl : b = zs[k + 1] := by simpa using hb
  rw [List.take_succ_eq_append_getElem (by omega)] at ha h
  rcases List.mem_append.1 ha with h' | h'
  · exact ltE_trans ((List.pairwise_append.1 h).2.2 a h' zs[k] (by simp)) hl
  · obtain rfl : a = zs[k] := by simpa using h'
    exact hl
theorem asc_bad {zs : List Ce} {k : Nat} (hk : k + 1 < zs.length) (hl : ¬ltE zs[k] zs[k + 1]) : okCes zs = false :=
  decide_eq_false fun h => hl (List.pairwise_iff_getElem.1 h k (k + 1) (by omega) hk (by omega))
theorem asc_all {zs : List Ce} {k : Nat} (hk : zs.length ≤ k) (h : AscE (zs.take k)) : okCes zs = true := by
  rw [List.take_of_length_le hk] at h
  exact decide_eq_true h

/-- What HasCell answers. -/
def hasC (zs : List Ce) (x : Ce) : Bool := decide (x ∈ zs)
theorem hasC_hit {zs : List Ce} {x : Ce} {k : Nat} (hk : k < zs.length) (h : zs[k] = x) : hasC zs x = true := decide_eq_true (h ▸ List.getElem_mem hk)
theorem hasC_step {zs : List Ce} {x : Ce} {k : Nat} (hk : k < zs.length) (h : x ∉ zs.take k) (hn : zs[k] ≠ x) : x ∉ zs.take (k + 1) := by
  rw [List.take_succ_eq_append_getElem hk]
  simp only [List.mem_append, List.mem_singleton, not_or]
  exact ⟨h, fun e => hn e.symm⟩
theorem hasC_miss {zs : List Ce} {x : Ce} {k : Nat} (hk : zs.length ≤ k) (h : x ∉ zs.take k) : hasC zs x = false := by
  rw [List.take_of_length_le hk] at h
  exact decide_eq_false h

/-- What PutCell answers. -/
def putC (zs : List Ce) (x : Ce) : List Ce := if hasC zs x = true then zs else zs.takeWhile (fun z => decide (ltE z x)) ++ x :: zs.dropWhile (fun z => decide (ltE z x))
theorem while_split {zs : List Ce} {x : Ce} : ∀ {k : Nat}, k ≤ zs.length → (∀ z ∈ zs.take k, ltE z x) → (∀ h : k < zs.length, ¬ltE zs[k] x) → zs.takeWhile (fun z => decide (ltE z x)) = zs.take k ∧ zs.dropWhile (fun z => decide (ltE z x)) = zs.drop k := by
  induction zs with
  | nil => intro k _ _ _; simp
  | cons z zs ih =>
    intro k hk ha he
    cases k with
    | zero =>
      have : ¬ltE z x := he (by simp)
      simp [this]
    | succ k =>
      have h1 : ltE z x := ha z (by simp)
      obtain ⟨e1, e2⟩ := ih (k := k) (by simpa using hk) (fun y hy => ha y (by simp [hy])) (fun h => he (by simpa using h))
      simp [h1, e1, e2]
theorem put_in {zs : List Ce} {x : Ce} (h : hasC zs x = true) : putC zs x = zs := by unfold putC; rw [if_pos h]
theorem put_at {zs : List Ce} {x : Ce} {k : Nat} (hn : hasC zs x = false) (hk : k ≤ zs.length) (ha : ∀ z ∈ zs.take k, ltE z x) (he : ∀ h : k < zs.length, ¬ltE zs[k] x) : putC zs x = zs.take k ++ x :: zs.drop k := by
  obtain ⟨e1, e2⟩ := while_split hk ha he
  unfold putC
  rw [hn, if_neg (by decide), e1, e2]
theorem put_mem (zs : List Ce) (x y : Ce) : y ∈ putC zs x ↔ y = x ∨ y ∈ zs := by
  unfold putC
  split
  · rename_i h
    have h' : x ∈ zs := of_decide_eq_true h
    exact ⟨.inr, fun o => o.elim (fun e => e ▸ h') id⟩
  · have e := List.takeWhile_append_dropWhile (p := fun z => decide (ltE z x)) (l := zs)
    have : y ∈ zs ↔ y ∈ zs.takeWhile (fun z => decide (ltE z x)) ∨ y ∈ zs.dropWhile (fun z => decide (ltE z x)) := by rw [← List.mem_append, e]
    rw [this]
    simp only [List.mem_append, List.mem_cons]
    constructor
    · rintro (h | h | h)
      · exact .inr (.inl h)
      · exact .inl h
      · exact .inr (.inr h)
    · rintro (h | h | h)
      · exact .inr (.inl h)
      · exact .inl h
      · exact .inr (.inr h)
theorem hasC_put (zs : List Ce) (x : Ce) : hasC (putC zs x) x = true := decide_eq_true ((put_mem zs x x).2 (.inl rfl))
theorem put_len (zs : List Ce) (x : Ce) : (putC zs x).length ≤ zs.length + 1 := by
  unfold putC
  split
  · omega
  · have e := congrArg List.length (List.takeWhile_append_dropWhile (p := fun z => decide (ltE z x)) (l := zs))
    simp only [List.length_append, List.length_cons] at e ⊢
    omega
theorem put_asc {zs : List Ce} (x : Ce) (h : AscE zs) : AscE (putC zs x) := by
  cases hh : hasC zs x with
  | true => rw [put_in hh]; exact h
  | false =>
    have hx : x ∉ zs := of_decide_eq_false hh
    have e := List.takeWhile_append_dropWhile (p := fun z => decide (ltE z x)) (l := zs)
    unfold putC
    rw [hh, if_neg (by decide)]
    obtain ⟨A, hA⟩ : ∃ A, zs.takeWhile (fun z => decide (ltE z x)) = A := ⟨_, rfl⟩
    obtain ⟨B, hB⟩ : ∃ B, zs.dropWhile (fun z => decide (ltE z x)) = B := ⟨_, rfl⟩
    have hA2 : ∀ a ∈ A, ltE a x := fun a ha => by
      rw [← hA] at ha
      have := List.all_eq_true.1 (List.all_takeWhile (p := fun z => decide (ltE z x)) (l := zs)) a ha
      simpa using this
    have hB2 : ∀ b bs, B = b :: bs → ¬ltE b x := fun b bs hb => by
      have := List.head?_dropWhile_not (fun z => decide (ltE z x)) zs
      rw [hB, hb] at this
      simpa using this
    rw [hA, hB] at e ⊢
    have hp : (A ++ B).Pairwise ltE := by rw [e]; exact h
    obtain ⟨pA, pB, pAB⟩ := List.pairwise_append.1 hp
    refine List.pairwise_append.2 ⟨pA, List.pairwise_cons.2 ⟨fun b hb => ?_, pB⟩, fun a ha b hb => ?_⟩
    · cases B with
      | nil => cases hb
      | cons c cs =>
        have hc : ltE x c := by
          by_cases hlt : ltE x c
          · exact hlt
          · have := ltE_total hlt (hB2 c cs rfl)
            subst this
            exact absurd (by rw [← e]; simp) hx
        rcases List.mem_cons.1 hb with rfl | hb'
        · exact hc
        · exact ltE_trans hc ((List.pairwise_cons.1 pB).1 b hb')
    · rcases List.mem_cons.1 hb with rfl | hb'
      · exact hA2 a ha
      · exact pAB a ha b hb'

/-- Whether a cell is of that operator, epoch and key. -/
def keyC (o e k : Int) (z : Ce) : Bool := decide (z.1 = o ∧ z.2.1 = e ∧ z.2.2.1 = k)
/-- One more cell looked at. -/
def leastStep (o e k : Int) (m : Int × Bool) (z : Ce) : Int × Bool := if keyC o e k z = true ∧ (m.2 = false ∨ z.2.2.2 < m.1) then (z.2.2.2, true) else m
/-- What LeastOf answers. -/
def leastC (zs : List Ce) (o e k : Int) : Int × Bool := zs.foldl (leastStep o e k) (0, false)
theorem least_step {zs : List Ce} {o e k : Int} {j : Nat} (hj : j < zs.length) : leastC (zs.take (j + 1)) o e k = leastStep o e k (leastC (zs.take j) o e k) zs[j] := by
  unfold leastC
  rw [List.take_succ_eq_append_getElem hj, List.foldl_append]
  rfl
theorem least_all {zs : List Ce} {o e k : Int} {j : Nat} (hj : zs.length ≤ j) : leastC (zs.take j) o e k = leastC zs o e k := by rw [List.take_of_length_le hj]
/-- The least of the cells met. -/
def LeastIs (zs : List Ce) (o e k : Int) (m : Int × Bool) : Prop :=
  (m.2 = false → ∀ z ∈ zs, keyC o e k z = false) ∧ (m.2 = true → (∃ z ∈ zs, keyC o e k z = true ∧ z.2.2.2 = m.1) ∧ ∀ z ∈ zs, keyC o e k z = true → m.1 ≤ z.2.2.2)
theorem least_is (zs : List Ce) (o e k : Int) : LeastIs zs o e k (leastC zs o e k) := by
  have key : ∀ (ys xs : List Ce) (m : Int × Bool), LeastIs xs o e k m → LeastIs (xs ++ ys) o e k (ys.foldl (leastStep o e k) m) := by
    intro ys
    induction ys with
    | nil => intro xs m h; simpa using h
    | cons y ys ih =>
      intro xs m h
      have := ih (xs ++ [y]) (leastStep o e k m y) (by
        unfold leastStep
        split
        · rename_i hc
          refine ⟨(fun h' => by cases h'), fun _ => ⟨⟨y, by simp, hc.1, rfl⟩, fun z hz hk => ?_⟩⟩
          rcases List.mem_append.1 hz with hz' | hz'
          · rcases hc.2 with h0 | h0
            · exact absurd hk (by rw [h.1 h0 z hz']; decide)
            · cases hm : m.2 with
              | false => exact absurd hk (by rw [h.1 hm z hz']; decide)
              | true => have := (h.2 hm).2 z hz' hk; simp only; omega
          · obtain rfl : z = y := by simpa using hz'
            exact Int.le_refl _
        · rename_i hc
          refine ⟨fun h' z hz => ?_, fun h' => ⟨?_, fun z hz hk => ?_⟩⟩
          · rcases List.mem_append.1 hz with hz' | hz'
            · exact h.1 h' z hz'
            · obtain rfl : z = y := by simpa using hz'
              cases hk : keyC o e k z with
              | false => rfl
              | true => exact absurd ⟨hk, .inl h'⟩ hc
          · obtain ⟨z, hz, h1, h2⟩ := (h.2 h').1
            exact ⟨z, by simp [hz], h1, h2⟩
          · rcases List.mem_append.1 hz with hz' | hz'
            · exact (h.2 h').2 z hz' hk
            · obtain rfl : z = y := by simpa using hz'
              rcases Int.lt_or_le z.2.2.2 m.1 with h1 | h1
              · exact absurd ⟨hk, .inr h1⟩ hc
              · exact h1)
      simpa using this
  exact key zs [] (0, false) ⟨fun _ z hz => by simp at hz, fun h => by cases h⟩

/-- The cells of another operator, epoch or key. -/
def delC (zs : List Ce) (x : Ce) : List Ce := zs.filter fun z => !keyC x.1 x.2.1 x.2.2.1 z
theorem del_len (zs : List Ce) (x : Ce) : (delC zs x).length ≤ zs.length := List.length_filter_le _ _
theorem del_step {zs : List Ce} {x : Ce} {k : Nat} (hk : k < zs.length) : delC (zs.take (k + 1)) x = delC (zs.take k) x ++ (if keyC x.1 x.2.1 x.2.2.1 zs[k] = true then [] else [zs[k]]) := by
  unfold delC
  rw [List.take_succ_eq_append_getElem hk, List.filter_append]
  cases h : keyC x.1 x.2.1 x.2.2.1 zs[k] <;> simp [h]
theorem del_all {zs : List Ce} {x : Ce} {k : Nat} (hk : zs.length ≤ k) : delC (zs.take k) x = delC zs x := by rw [List.take_of_length_le hk]
/-- What CellsOf answers. -/
def ofC (zs : List Ce) (o e : Int) : List Ce := zs.filter fun z => decide (z.1 = o ∧ z.2.1 = e)
theorem of_len (zs : List Ce) (o e : Int) : (ofC zs o e).length ≤ zs.length := List.length_filter_le _ _
theorem of_step {zs : List Ce} {o e : Int} {k : Nat} (hk : k < zs.length) : ofC (zs.take (k + 1)) o e = ofC (zs.take k) o e ++ (if zs[k].1 = o ∧ zs[k].2.1 = e then [zs[k]] else []) := by
  unfold ofC
  rw [List.take_succ_eq_append_getElem hk, List.filter_append]
  by_cases h : zs[k].1 = o ∧ zs[k].2.1 = e <;> simp [h]
theorem of_all {zs : List Ce} {o e : Int} {k : Nat} (hk : zs.length ≤ k) : ofC (zs.take k) o e = ofC zs o e := by rw [List.take_of_length_le hk]

/-- What Recall answers where the least is kept. -/
def recL (zs : List Ce) (x : Ce) : List Ce × Bool :=
  if (leastC zs x.1 x.2.1 x.2.2.1).2 = true ∧ (leastC zs x.1 x.2.1 x.2.2.1).1 ≤ x.2.2.2 then (zs, false) else (putC (delC zs x) x, true)
/-- What Recall answers. -/
def recC (kind : Int) (zs : List Ce) (x : Ce) : List Ce × Bool :=
  if kind = 6 then (if hasC zs x = true then (zs, false) else (putC zs x, true))
  else if kind = 5 ∨ kind = 8 then recL zs x
  else (zs, true)
theorem recC_len (kind : Int) (zs : List Ce) (x : Ce) : (recC kind zs x).1.length ≤ zs.length + 1 := by
  unfold recC recL
  have h1 := put_len zs x
  have h2 := put_len (delC zs x) x
  have h3 := del_len zs x
  split
  · split
    · simp
    · exact h1
  · split
    · split
      · simp
      · simp only; omega
    · simp
end Go.Proofs.YtlanmkimaambgaaGreat.hexes

namespace Go.Proofs.YtlanmkimaambgaaGreat.hexes

theorem leq_iff (a b : Int × Int) : leqSt a.1 a.2 b.1 b.2 = true ↔ a.1 ≤ b.1 ∧ a.2 ≤ b.2 := by simp [leqSt]

theorem least_iff (zs : List (Int × Int)) (z : Int × Int) : leastB zs z = true ↔ ∀ t ∈ zs, (t.1 ≤ z.1 ∧ t.2 ≤ z.2) → t = z := by
  simp only [leastB, List.all_eq_true, Bool.or_eq_true, decide_eq_true_eq, Bool.not_eq_true']
  constructor
  · intro h t ht hl
    rcases h t ht with h1 | h1
    · exact h1
    · rw [(leq_iff t z).2 hl] at h1; cases h1
  · intro h t ht
    by_cases hl : t.1 ≤ z.1 ∧ t.2 ≤ z.2
    · exact .inl (h t ht hl)
    · refine .inr ?_
      rw [← Bool.not_eq_true, leq_iff]
      exact hl

/-- One step of the pass over a sorted list. -/
def scanStep (out : List (Int × Int)) (s : Int × Int) : List (Int × Int) :=
  match out.getLast? with
  | none => out ++ [s]
  | some l => if leqSt l.1 l.2 s.1 s.2 = true then out else out ++ [s]
/-- The pass over a sorted list. -/
def scanL (ys : List (Int × Int)) : List (Int × Int) := ys.foldl scanStep []

/-- What the pass has made of the stamps P that it has seen. -/
structure Scan (P out : List (Int × Int)) : Prop where
  sub : ∀ o ∈ out, o ∈ P
  asc : out.Pairwise ltS
  last : ∀ l, out.getLast? = some l → ∀ p ∈ P, l.2 ≤ p.2
  cover : ∀ p ∈ P, ∃ o ∈ out, o.1 ≤ p.1 ∧ o.2 ≤ p.2
  anti : ∀ a ∈ out, ∀ b ∈ out, a.1 ≤ b.1 → a.2 ≤ b.2 → a = b

theorem Scan.nil : Scan [] [] where
  sub := fun _ h => by cases h
  asc := List.Pairwise.nil
  last := fun _ h => by cases h
  cover := fun _ h => by cases h
  anti := fun _ h => by cases h

theorem Scan.step {P out : List (Int × Int)} (h : Scan P out) (s : Int × Int) (hs : ∀ p ∈ P, ¬ltS s p) : Scan (P ++ [s]) (scanStep out s) := by
  unfold scanStep
  cases hl : out.getLast? with
  | none =>
    obtain rfl : out = [] := List.getLast?_eq_none_iff.1 hl
    have hP : P = [] := by
      rcases P with _ | ⟨p, P⟩
      · rfl
      · obtain ⟨o, ho, _⟩ := h.cover p List.mem_cons_self
        cases ho
    subst hP
    simp only [List.nil_append]
    exact ⟨fun o ho => ho, List.pairwise_singleton _ _, fun l hl p hp => by
      simp only [List.getLast?_singleton, Option.some.injEq] at hl
      simp only [List.mem_singleton] at hp
      subst hl hp; exact Int.le_refl _, fun p hp => ⟨p, hp, Int.le_refl _, Int.le_refl _⟩, fun a ha b hb _ _ => by
      simp only [List.mem_singleton] at ha hb
      rw [ha, hb]⟩
  | some l =>
    have lm : l ∈ out := List.mem_of_getLast? hl
    have lP := h.sub l lm
    have ll := h.last l hl
    have ls := hs l lP
    dsimp only
    split
    · rename_i hq
      rw [leq_iff] at hq
      refine ⟨fun o ho => List.mem_append_left _ (h.sub o ho), h.asc, fun l' hl' p hp => ?_, fun p hp => ?_, h.anti⟩
      · rw [hl] at hl'
        obtain rfl : l = l' := Option.some.inj hl'
        rcases List.mem_append.1 hp with h1 | h1
        · exact ll p h1
        · obtain rfl : p = s := by simpa using h1
          exact hq.2
      · rcases List.mem_append.1 hp with h1 | h1
        · exact h.cover p h1
        · obtain rfl : p = s := by simpa using h1
          exact ⟨l, lm, hq⟩
    · rename_i hq
      rw [leq_iff] at hq
      have hlt : s.2 < l.2 := by
        unfold ltS at ls
        omega
      have ho : ∀ o ∈ out, ltS o s ∧ s.2 < o.2 := fun o hom => by
        have h1 := hs o (h.sub o hom)
        have h2 := ll o (h.sub o hom)
        unfold ltS at h1 ⊢
        omega
      refine ⟨fun o hom => ?_, ?_, fun l' hl' p hp => ?_, fun p hp => ?_, fun a ha b hb h1 h2 => ?_⟩
      · rcases List.mem_append.1 hom with h1 | h1
        · exact List.mem_append_left _ (h.sub o h1)
        · exact List.mem_append_right _ h1
      · rw [List.pairwise_append]
        refine ⟨h.asc, List.pairwise_singleton _ _, fun a ha b hb => ?_⟩
        obtain rfl : b = s := by simpa using hb
        exact (ho a ha).1
      · obtain rfl : s = l' := by simpa using hl'
        rcases List.mem_append.1 hp with h1 | h1
        · have := ll p h1; omega
        · obtain rfl : p = s := by simpa using h1
          exact Int.le_refl _
      · rcases List.mem_append.1 hp with h1 | h1
        · obtain ⟨o, h2, h3⟩ := h.cover p h1
          exact ⟨o, List.mem_append_left _ h2, h3⟩
        · obtain rfl : p = s := by simpa using h1
          exact ⟨p, List.mem_append_right _ (by simp), Int.le_refl _, Int.le_refl _⟩
      · rcases List.mem_append.1 ha with h3 | h3 <;> rcases List.mem_append.1 hb with h4 | h4
        · exact h.anti a h3 b h4 h1 h2
        · obtain rfl : b = s := by simpa using h4
          have := (ho a h3).2; omega
        · obtain rfl : a = s := by simpa using h3
          have h5 := ho b h4
          unfold ltS at h5
          omega
        · obtain rfl : a = s := by simpa using h3
          obtain rfl : b = a := by simpa using h4
          rfl

/-- Ascending, equal stamps allowed. -/
def Asc (ys : List (Int × Int)) : Prop := ys.Pairwise fun a b => ¬ltS b a

theorem scan_take {ys : List (Int × Int)} (h : Asc ys) : ∀ k, k ≤ ys.length → Scan (ys.take k) ((ys.take k).foldl scanStep [])
  | 0, _ => by simpa using Scan.nil
  | k + 1, hk => by
    rw [List.take_succ_eq_append_getElem (by omega), List.foldl_append]
    refine (scan_take h k (by omega)).step ys[k] fun p hp => ?_
    obtain ⟨i, hi, rfl⟩ := List.mem_take_iff_getElem.1 hp
    exact List.pairwise_iff_getElem.1 h i k (by omega) (by omega) (by omega)

theorem scan_all {ys : List (Int × Int)} (h : Asc ys) : Scan ys (scanL ys) := by
  have := scan_take h ys.length (Nat.le_refl _)
  rwa [List.take_length] at this

theorem scan_step {ys : List (Int × Int)} {k : Nat} (hk : k < ys.length) : (ys.take (k + 1)).foldl scanStep [] = scanStep ((ys.take k).foldl scanStep []) ys[k] := by
  rw [List.take_succ_eq_append_getElem hk, List.foldl_append]
  rfl

theorem scan_length : ∀ (ys out : List (Int × Int)), (ys.foldl scanStep out).length ≤ out.length + ys.length
  | [], out => by simp
  | y :: ys, out => by
    rw [List.foldl_cons]
    have h1 := scan_length ys (scanStep out y)
    have h2 : (scanStep out y).length ≤ out.length + 1 := by
      unfold scanStep
      split
      · simp
      · split
        · omega
        · simp
    simp only [List.length_cons]
    omega

/-- The pass over a sorted list gives Minimal of any list with the same stamps. -/
theorem scan_min {ys zs : List (Int × Int)} (h : Asc ys) (hp : ∀ z, z ∈ ys ↔ z ∈ zs) : scanL ys = minL zs := by
  have S := scan_all h
  refine sorted_ext _ _ S.asc (sorted_minL zs) fun z => ?_
  rw [mem_minL, least_iff]
  constructor
  · intro hz
    refine ⟨(hp z).1 (S.sub z hz), fun t ht hl => ?_⟩
    obtain ⟨o, ho, h1⟩ := S.cover t ((hp t).2 ht)
    obtain rfl := S.anti o ho z hz (by omega) (by omega)
    exact Prod.ext (by omega) (by omega)
  · rintro ⟨hz, hl⟩
    obtain ⟨o, ho, h1⟩ := S.cover z ((hp z).2 hz)
    obtain rfl := hl o ((hp o).1 (S.sub o ho)) h1
    exact ho

theorem asc_sort (zs : List (Int × Int)) : Asc (zs.mergeSort fun a b => !decide (ltS b a)) := by
  have h := List.pairwise_mergeSort (le := fun a b : Int × Int => !decide (ltS b a)) (fun a b c h1 h2 => by
    simp only [Bool.not_eq_true', decide_eq_false_iff_not] at *
    unfold ltS at *; omega) (fun a b => by
    simp only [Bool.or_eq_true, Bool.not_eq_true', decide_eq_false_iff_not]
    unfold ltS; omega) zs
  refine h.imp fun hab => ?_
  simpa using hab

/-- Each stamp of a list has one of Minimal's below it. -/
theorem min_cover (zs : List (Int × Int)) {p : Int × Int} (hp : p ∈ zs) : ∃ o ∈ minL zs, o.1 ≤ p.1 ∧ o.2 ≤ p.2 := by
  have hm : ∀ z, z ∈ (zs.mergeSort fun a b => !decide (ltS b a)) ↔ z ∈ zs := fun z => List.mem_mergeSort
  rw [← scan_min (asc_sort zs) hm]
  exact (scan_all (asc_sort zs)).cover p ((hm p).2 hp)

theorem minL_congr {zs ys : List (Int × Int)} (h : ∀ z, z ∈ zs ↔ z ∈ ys) : minL zs = minL ys := by
  refine sorted_ext _ _ (sorted_minL _) (sorted_minL _) fun z => ?_
  rw [mem_minL, mem_minL, least_iff, least_iff, h z]
  constructor
  · rintro ⟨h1, h2⟩; exact ⟨h1, fun t ht => h2 t ((h t).2 ht)⟩
  · rintro ⟨h1, h2⟩; exact ⟨h1, fun t ht => h2 t ((h t).1 ht)⟩

theorem minL_comm (a b : List (Int × Int)) : minL (b ++ a) = minL (a ++ b) := minL_congr fun z => by simp only [List.mem_append]; exact Or.comm

/-- A list between Minimal and the whole has the same Minimal. -/
theorem minL_between {zs ys : List (Int × Int)} (h1 : ∀ z ∈ minL zs, z ∈ ys) (h2 : ∀ z ∈ ys, z ∈ zs) : minL ys = minL zs := by
  refine sorted_ext _ _ (sorted_minL _) (sorted_minL _) fun z => ?_
  rw [mem_minL ys, least_iff]
  constructor
  · rintro ⟨hz, hl⟩
    obtain ⟨o, ho, h3⟩ := min_cover zs (h2 z hz)
    obtain rfl := hl o (h1 o ho) h3
    exact ho
  · intro hz
    have := (mem_minL zs z).1 hz
    rw [least_iff] at this
    exact ⟨h1 z hz, fun t ht => this.2 t (h2 t ht)⟩

theorem minL_sub {zs : List (Int × Int)} : ∀ z ∈ minL zs, z ∈ zs := fun z hz => ((mem_minL zs z).1 hz).1
theorem minL_minL (zs : List (Int × Int)) : minL (minL zs) = minL zs := minL_between (fun _ h => h) minL_sub
theorem minL_twice (zs : List (Int × Int)) : minL (minL zs ++ minL zs) = minL zs := minL_between (fun _ h => List.mem_append_left _ h) (fun z h => minL_sub z (by simpa using h))
theorem minL_again (a b : List (Int × Int)) : minL (minL (a ++ b) ++ a) = minL (a ++ b) :=
  minL_between (fun _ h => List.mem_append_left _ h) (fun z h => by
    rcases List.mem_append.1 h with h1 | h1
    · exact minL_sub z h1
    · exact List.mem_append_left _ h1)
theorem minL_pair : minL [(1, 0), (0, 1)] = [(0, 1), (1, 0)] := by decide +kernel
end Go.Proofs.YtlanmkimaambgaaGreat.hexes

