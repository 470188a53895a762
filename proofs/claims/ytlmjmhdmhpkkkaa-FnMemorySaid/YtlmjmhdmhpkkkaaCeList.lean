/-
  Cells as lists: the order of cells, lists in order, a cell put in, the least value of a key, what Recall answers, the cells of one operator and epoch.
-/
import Derived.Test.YtlmjmhdmhpkkkaaStamps
namespace Go.Proofs.Ytlmjmhdmhpkkkaa.hexes
open Go.RowKit

/-- A cell: operator, epoch, key, value. -/
abbrev Ce := Int × Int × Int × Int

/-- What CellOrder answers. -/
def ordCe (a b : Ce) : Int :=
  if ordI a.2.1 b.2.1 ≠ 0 then ordI a.2.1 b.2.1
  else if ordI a.1 b.1 ≠ 0 then ordI a.1 b.1
  else if ordI a.2.2.1 b.2.2.1 ≠ 0 then ordI a.2.2.1 b.2.2.1
  else ordI a.2.2.2 b.2.2.2

/-- a comes ahead of b. -/
def ltE (a b : Ce) : Prop := a.2.1 < b.2.1 ∨ (a.2.1 = b.2.1 ∧ (a.1 < b.1 ∨ (a.1 = b.1 ∧ (a.2.2.1 < b.2.2.1 ∨ (a.2.2.1 = b.2.2.1 ∧ a.2.2.2 < b.2.2.2)))))
instance (a b : Ce) : Decidable (ltE a b) := by unfold ltE; infer_instance

theorem ltE_irrefl (a : Ce) : ¬ltE a a := by unfold ltE; omega
theorem ltE_trans {a b c : Ce} (h1 : ltE a b) (h2 : ltE b c) : ltE a c := by unfold ltE at *; omega
theorem ltE_total {a b : Ce} (h1 : ¬ltE a b) (h2 : ¬ltE b a) : a = b := by
  obtain ⟨a1, a2, a3, a4⟩ := a
  obtain ⟨b1, b2, b3, b4⟩ := b
  unfold ltE at *
  simp only [Prod.mk.injEq] at *
  omega

theorem ordE_cases (x u : Int) : (x < u ∧ ordI x u = -1) ∨ (x = u ∧ ordI x u = 0) ∨ (u < x ∧ ordI x u = 1) := by
  unfold ordI
  split
  · exact .inl ⟨by assumption, rfl⟩
  · split
    · exact .inr (.inr ⟨by omega, rfl⟩)
    · exact .inr (.inl ⟨by omega, rfl⟩)
theorem ordCe_neg (a b : Ce) : ordCe a b < 0 ↔ ltE a b := by
  unfold ordCe ltE
  rcases ordE_cases a.2.1 b.2.1 with ⟨h0, e0⟩ | ⟨h0, e0⟩ | ⟨h0, e0⟩
  · simp [e0]; omega
  rotate_left
  · simp [e0]; omega
  rcases ordE_cases a.1 b.1 with ⟨h1, e1⟩ | ⟨h1, e1⟩ | ⟨h1, e1⟩
  · simp [e0, e1]; omega
  rotate_left
  · simp [e0, e1]; omega
  rcases ordE_cases a.2.2.1 b.2.2.1 with ⟨h2, e2⟩ | ⟨h2, e2⟩ | ⟨h2, e2⟩
  · simp [e0, e1, e2]; omega
  rotate_left
  · simp [e0, e1, e2]; omega
  rcases ordE_cases a.2.2.2 b.2.2.2 with ⟨h3, e3⟩ | ⟨h3, e3⟩ | ⟨h3, e3⟩ <;> (simp [e0, e1, e2, e3]; omega)
theorem ordCe_zero (a b : Ce) : ordCe a b = 0 ↔ a = b := by
  obtain ⟨a1, a2, a3, a4⟩ := a
  obtain ⟨b1, b2, b3, b4⟩ := b
  unfold ordCe
  simp only [Prod.mk.injEq]
  rcases ordE_cases a2 b2 with ⟨h0, e0⟩ | ⟨h0, e0⟩ | ⟨h0, e0⟩
  · simp [e0]; omega
  rotate_left
  · simp [e0]; omega
  rcases ordE_cases a1 b1 with ⟨h1, e1⟩ | ⟨h1, e1⟩ | ⟨h1, e1⟩
  · simp [e0, e1]; omega
  rotate_left
  · simp [e0, e1]; omega
  rcases ordE_cases a3 b3 with ⟨h2, e2⟩ | ⟨h2, e2⟩ | ⟨h2, e2⟩
  · simp [e0, e1, e2]; omega
  rotate_left
  · simp [e0, e1, e2]; omega
  rcases ordE_cases a4 b4 with ⟨h3, e3⟩ | ⟨h3, e3⟩ | ⟨h3, e3⟩ <;> (simp [e0, e1, e2, e3]; omega)
theorem ordCe_bd (a b : Ce) : -1 ≤ ordCe a b ∧ ordCe a b ≤ 1 := by
  unfold ordCe
  split
  · exact ordI_bd _ _
  split
  · exact ordI_bd _ _
  split
  · exact ordI_bd _ _
  exact ordI_bd _ _

/-- In order, each once. -/
def AscE (zs : List Ce) : Prop := zs.Pairwise ltE
instance (zs : List Ce) : Decidable (AscE zs) := by unfold AscE; infer_instance
/-- What CellsOk answers. -/
def okCes (zs : List Ce) : Bool := decide (AscE zs)
theorem asc_take1 (zs : List Ce) : AscE (zs.take 1) := by
  cases zs with
  | nil => exact List.Pairwise.nil
  | cons z zs => simp [AscE]
theorem asc_step {zs : List Ce} {k : Nat} (hk : k + 1 < zs.length) (h : AscE (zs.take (k + 1))) (hl : ltE zs[k] zs[k + 1]) : AscE (zs.take (k + 1 + 1)) := by
  rw [List.take_succ_eq_append_getElem hk]
  refine List.pairwise_append.2 ⟨h, by simp, fun a ha b hb => ?_⟩
  obtain rfl : b = zs[k + 1] := by simpa using hb
  rw [List.take_succ_eq_append_getElem (by omega)] at ha h
  rcases List.mem_append.1 ha with h' | h'
  · exact ltE_trans ((List.pairwise_append.1 h).2.2 a h' zs[k] (by simp)) hl
  · obtain rfl : a = zs[k] := by simpa using h'
    exact hl
theorem asc_bad {zs : List Ce} {k : Nat} (hk : k + 1 < zs.length) (hl : ¬ltE zs[k] zs[k + 1]) : okCes zs = false :=
  decide_eq_false fun h => hl (List.pairwise_iff_getElem.1 h k (k + 1) (by omega) hk (by omega))
theorem asc_all {zs : List Ce} {k : Nat} (hk : zs.length ≤ k) (h : AscE (zs.take k)) : okCes zs = true := by
  rw [List.take_of_length_le hk] at h
  exact decide_eq_true h

/-- What HasCell answers. -/
def hasC (zs : List Ce) (x : Ce) : Bool := decide (x ∈ zs)
theorem hasC_hit {zs : List Ce} {x : Ce} {k : Nat} (hk : k < zs.length) (h : zs[k] = x) : hasC zs x = true := decide_eq_true (h ▸ List.getElem_mem hk)
theorem hasC_step {zs : List Ce} {x : Ce} {k : Nat} (hk : k < zs.length) (h : x ∉ zs.take k) (hn : zs[k] ≠ x) : x ∉ zs.take (k + 1) := by
  rw [List.take_succ_eq_append_getElem hk]
  simp only [List.mem_append, List.mem_singleton, not_or]
  exact ⟨h, fun e => hn e.symm⟩
theorem hasC_miss {zs : List Ce} {x : Ce} {k : Nat} (hk : zs.length ≤ k) (h : x ∉ zs.take k) : hasC zs x = false := by
  rw [List.take_of_length_le hk] at h
  exact decide_eq_false h

/-- What PutCell answers. -/
def putC (zs : List Ce) (x : Ce) : List Ce := if hasC zs x = true then zs else zs.takeWhile (fun z => decide (ltE z x)) ++ x :: zs.dropWhile (fun z => decide (ltE z x))
theorem while_split {zs : List Ce} {x : Ce} : ∀ {k : Nat}, k ≤ zs.length → (∀ z ∈ zs.take k, ltE z x) → (∀ h : k < zs.length, ¬ltE zs[k] x) → zs.takeWhile (fun z => decide (ltE z x)) = zs.take k ∧ zs.dropWhile (fun z => decide (ltE z x)) = zs.drop k := by
  induction zs with
  | nil => intro k _ _ _; simp
  | cons z zs ih =>
    intro k hk ha he
    cases k with
    | zero =>
      have : ¬ltE z x := he (by simp)
      simp [this]
    | succ k =>
      have h1 : ltE z x := ha z (by simp)
      obtain ⟨e1, e2⟩ := ih (k := k) (by simpa using hk) (fun y hy => ha y (by simp [hy])) (fun h => he (by simpa using h))
      simp [h1, e1, e2]
theorem put_in {zs : List Ce} {x : Ce} (h : hasC zs x = true) : putC zs x = zs := by unfold putC; rw [if_pos h]
theorem put_at {zs : List Ce} {x : Ce} {k : Nat} (hn : hasC zs x = false) (hk : k ≤ zs.length) (ha : ∀ z ∈ zs.take k, ltE z x) (he : ∀ h : k < zs.length, ¬ltE zs[k] x) : putC zs x = zs.take k ++ x :: zs.drop k := by
  obtain ⟨e1, e2⟩ := while_split hk ha he
  unfold putC
  rw [hn, if_neg (by decide), e1, e2]
theorem put_mem (zs : List Ce) (x y : Ce) : y ∈ putC zs x ↔ y = x ∨ y ∈ zs := by
  unfold putC
  split
  · rename_i h
    have h' : x ∈ zs := of_decide_eq_true h
    exact ⟨.inr, fun o => o.elim (fun e => e ▸ h') id⟩
  · have e := List.takeWhile_append_dropWhile (p := fun z => decide (ltE z x)) (l := zs)
    have : y ∈ zs ↔ y ∈ zs.takeWhile (fun z => decide (ltE z x)) ∨ y ∈ zs.dropWhile (fun z => decide (ltE z x)) := by rw [← List.mem_append, e]
    rw [this]
    simp only [List.mem_append, List.mem_cons]
    constructor
    · rintro (h | h | h)
      · exact .inr (.inl h)
      · exact .inl h
      · exact .inr (.inr h)
    · rintro (h | h | h)
      · exact .inr (.inl h)
      · exact .inl h
      · exact .inr (.inr h)
theorem hasC_put (zs : List Ce) (x : Ce) : hasC (putC zs x) x = true := decide_eq_true ((put_mem zs x x).2 (.inl rfl))
theorem put_len (zs : List Ce) (x : Ce) : (putC zs x).length ≤ zs.length + 1 := by
  unfold putC
  split
  · omega
  · have e := congrArg List.length (List.takeWhile_append_dropWhile (p := fun z => decide (ltE z x)) (l := zs))
    simp only [List.length_append, List.length_cons] at e ⊢
    omega
theorem put_asc {zs : List Ce} (x : Ce) (h : AscE zs) : AscE (putC zs x) := by
  cases hh : hasC zs x with
  | true => rw [put_in hh]; exact h
  | false =>
    have hx : x ∉ zs := of_decide_eq_false hh
    have e := List.takeWhile_append_dropWhile (p := fun z => decide (ltE z x)) (l := zs)
    unfold putC
    rw [hh, if_neg (by decide)]
    obtain ⟨A, hA⟩ : ∃ A, zs.takeWhile (fun z => decide (ltE z x)) = A := ⟨_, rfl⟩
    obtain ⟨B, hB⟩ : ∃ B, zs.dropWhile (fun z => decide (ltE z x)) = B := ⟨_, rfl⟩
    have hA2 : ∀ a ∈ A, ltE a x := fun a ha => by
      rw [← hA] at ha
      have := List.all_eq_true.1 (List.all_takeWhile (p := fun z => decide (ltE z x)) (l := zs)) a ha
      simpa using this
    have hB2 : ∀ b bs, B = b :: bs → ¬ltE b x := fun b bs hb => by
      have := List.head?_dropWhile_not (fun z => decide (ltE z x)) zs
      rw [hB, hb] at this
      simpa using this
    rw [hA, hB] at e ⊢
    have hp : (A ++ B).Pairwise ltE := by rw [e]; exact h
    obtain ⟨pA, pB, pAB⟩ := List.pairwise_append.1 hp
    refine List.pairwise_append.2 ⟨pA, List.pairwise_cons.2 ⟨fun b hb => ?_, pB⟩, fun a ha b hb => ?_⟩
    · cases B with
      | nil => cases hb
      | cons c cs =>
        have hc : ltE x c := by
          by_cases hlt : ltE x c
          · exact hlt
          · have := ltE_total hlt (hB2 c cs rfl)
            subst this
            exact absurd (by rw [← e]; simp) hx
        rcases List.mem_cons.1 hb with rfl | hb'
        · exact hc
        · exact ltE_trans hc ((List.pairwise_cons.1 pB).1 b hb')
    · rcases List.mem_cons.1 hb with rfl | hb'
      · exact hA2 a ha
      · exact pAB a ha b hb'

/-- Whether a cell is of that operator, epoch and key. -/
def keyC (o e k : Int) (z : Ce) : Bool := decide (z.1 = o ∧ z.2.1 = e ∧ z.2.2.1 = k)
/-- One more cell looked at. -/
def leastStep (o e k : Int) (m : Int × Bool) (z : Ce) : Int × Bool := if keyC o e k z = true ∧ (m.2 = false ∨ z.2.2.2 < m.1) then (z.2.2.2, true) else m
/-- What LeastOf answers. -/
def leastC (zs : List Ce) (o e k : Int) : Int × Bool := zs.foldl (leastStep o e k) (0, false)
theorem least_step {zs : List Ce} {o e k : Int} {j : Nat} (hj : j < zs.length) : leastC (zs.take (j + 1)) o e k = leastStep o e k (leastC (zs.take j) o e k) zs[j] := by
  unfold leastC
  rw [List.take_succ_eq_append_getElem hj, List.foldl_append]
  rfl
theorem least_all {zs : List Ce} {o e k : Int} {j : Nat} (hj : zs.length ≤ j) : leastC (zs.take j) o e k = leastC zs o e k := by rw [List.take_of_length_le hj]
/-- The least of the cells met. -/
def LeastIs (zs : List Ce) (o e k : Int) (m : Int × Bool) : Prop :=
  (m.2 = false → ∀ z ∈ zs, keyC o e k z = false) ∧ (m.2 = true → (∃ z ∈ zs, keyC o e k z = true ∧ z.2.2.2 = m.1) ∧ ∀ z ∈ zs, keyC o e k z = true → m.1 ≤ z.2.2.2)
theorem least_is (zs : List Ce) (o e k : Int) : LeastIs zs o e k (leastC zs o e k) := by
  have key : ∀ (ys xs : List Ce) (m : Int × Bool), LeastIs xs o e k m → LeastIs (xs ++ ys) o e k (ys.foldl (leastStep o e k) m) := by
    intro ys
    induction ys with
    | nil => intro xs m h; simpa using h
    | cons y ys ih =>
      intro xs m h
      have := ih (xs ++ [y]) (leastStep o e k m y) (by
        unfold leastStep
        split
        · rename_i hc
          refine ⟨(fun h' => by cases h'), fun _ => ⟨⟨y, by simp, hc.1, rfl⟩, fun z hz hk => ?_⟩⟩
          rcases List.mem_append.1 hz with hz' | hz'
          · rcases hc.2 with h0 | h0
            · exact absurd hk (by rw [h.1 h0 z hz']; decide)
            · cases hm : m.2 with
              | false => exact absurd hk (by rw [h.1 hm z hz']; decide)
              | true => have := (h.2 hm).2 z hz' hk; simp only; omega
          · obtain rfl : z = y := by simpa using hz'
            exact Int.le_refl _
        · rename_i hc
          refine ⟨fun h' z hz => ?_, fun h' => ⟨?_, fun z hz hk => ?_⟩⟩
          · rcases List.mem_append.1 hz with hz' | hz'
            · exact h.1 h' z hz'
            · obtain rfl : z = y := by simpa using hz'
              cases hk : keyC o e k z with
              | false => rfl
              | true => exact absurd ⟨hk, .inl h'⟩ hc
          · obtain ⟨z, hz, h1, h2⟩ := (h.2 h').1
            exact ⟨z, by simp [hz], h1, h2⟩
          · rcases List.mem_append.1 hz with hz' | hz'
            · exact (h.2 h').2 z hz' hk
            · obtain rfl : z = y := by simpa using hz'
              rcases Int.lt_or_le z.2.2.2 m.1 with h1 | h1
              · exact absurd ⟨hk, .inr h1⟩ hc
              · exact h1)
      simpa using this
  exact key zs [] (0, false) ⟨fun _ z hz => by simp at hz, fun h => by cases h⟩

/-- The cells of another operator, epoch or key. -/
def delC (zs : List Ce) (x : Ce) : List Ce := zs.filter fun z => !keyC x.1 x.2.1 x.2.2.1 z
theorem del_len (zs : List Ce) (x : Ce) : (delC zs x).length ≤ zs.length := List.length_filter_le _ _
theorem del_step {zs : List Ce} {x : Ce} {k : Nat} (hk : k < zs.length) : delC (zs.take (k + 1)) x = delC (zs.take k) x ++ (if keyC x.1 x.2.1 x.2.2.1 zs[k] = true then [] else [zs[k]]) := by
  unfold delC
  rw [List.take_succ_eq_append_getElem hk, List.filter_append]
  cases h : keyC x.1 x.2.1 x.2.2.1 zs[k] <;> simp [h]
theorem del_all {zs : List Ce} {x : Ce} {k : Nat} (hk : zs.length ≤ k) : delC (zs.take k) x = delC zs x := by rw [List.take_of_length_le hk]
/-- What CellsOf answers. -/
def ofC (zs : List Ce) (o e : Int) : List Ce := zs.filter fun z => decide (z.1 = o ∧ z.2.1 = e)
theorem of_len (zs : List Ce) (o e : Int) : (ofC zs o e).length ≤ zs.length := List.length_filter_le _ _
theorem of_step {zs : List Ce} {o e : Int} {k : Nat} (hk : k < zs.length) : ofC (zs.take (k + 1)) o e = ofC (zs.take k) o e ++ (if zs[k].1 = o ∧ zs[k].2.1 = e then [zs[k]] else []) := by
  unfold ofC
  rw [List.take_succ_eq_append_getElem hk, List.filter_append]
  by_cases h : zs[k].1 = o ∧ zs[k].2.1 = e <;> simp [h]
theorem of_all {zs : List Ce} {o e : Int} {k : Nat} (hk : zs.length ≤ k) : ofC (zs.take k) o e = ofC zs o e := by rw [List.take_of_length_le hk]

/-- What Recall answers where the least is kept. -/
def recL (zs : List Ce) (x : Ce) : List Ce × Bool :=
  if (leastC zs x.1 x.2.1 x.2.2.1).2 = true ∧ (leastC zs x.1 x.2.1 x.2.2.1).1 ≤ x.2.2.2 then (zs, false) else (putC (delC zs x) x, true)
/-- What Recall answers. -/
def recC (kind : Int) (zs : List Ce) (x : Ce) : List Ce × Bool :=
  if kind = 6 then (if hasC zs x = true then (zs, false) else (putC zs x, true))
  else if kind = 5 ∨ kind = 8 then recL zs x
  else (zs, true)
theorem recC_len (kind : Int) (zs : List Ce) (x : Ce) : (recC kind zs x).1.length ≤ zs.length + 1 := by
  unfold recC recL
  have h1 := put_len zs x
  have h2 := put_len (delC zs x) x
  have h3 := del_len zs x
  split
  · split
    · simp
    · exact h1
  · split
    · split
      · simp
      · simp only; omega
    · simp
end Go.Proofs.Ytlmjmhdmhpkkkaa.hexes
