/-
  Count tables as lists: what chapter 4's functions answer, and why a table is known by its entries.
-/
import Derived.Test.YtlanmkimaambgaaGreatJ12

namespace Go.Proofs.YtlanmkimaambgaaGreat.hexes
open Go.RowKit

/-- An entry: a stamp and its count. -/
abbrev Ct := (Int × Int) × Int

/-- Whether the i-th entry of a table is as CountsOk asks. -/
def okAt (zs : List Ct) (i : Nat) : Bool :=
  match zs[i]? with
  | none => true
  | some z => okSt z.1.1 z.1.2 && decide (-1000000 ≤ z.2 ∧ z.2 ≤ 1000000) && decide (z.2 ≠ 0) && (match i with
    | 0 => true
    | j + 1 => match zs[j]? with
      | none => true
      | some y => decide (ltS y.1 z.1))
/-- What CountsOk answers. -/
def okCts (zs : List Ct) : Bool := (List.range zs.length).all (okAt zs)

/-- An entry as CountsOk asks. -/
def Entry (z : Ct) : Prop := okSt z.1.1 z.1.2 = true ∧ (-1000000 ≤ z.2 ∧ z.2 ≤ 1000000) ∧ z.2 ≠ 0
/-- A valid table. -/
structure Table (zs : List Ct) : Prop where
  asc : zs.Pairwise fun a b => ltS a.1 b.1
  ent : ∀ z ∈ zs, Entry z

theorem okAt_iff (zs : List Ct) (i : Nat) (hi : i < zs.length) : okAt zs i = true ↔ Entry zs[i] ∧ ∀ j, (h : j + 1 = i) → ltS (zs[j]'(by omega)).1 zs[i].1 := by
  unfold okAt Entry
  rw [List.getElem?_eq_getElem hi]
  cases i with
  | zero =>
    simp only [Bool.and_eq_true, decide_eq_true_eq, Bool.and_true]
    constructor
    · rintro ⟨⟨h1, h2⟩, h3⟩; exact ⟨⟨h1, h2, h3⟩, fun j h => absurd h (by omega)⟩
    · rintro ⟨⟨h1, h2, h3⟩, _⟩; exact ⟨⟨h1, h2⟩, h3⟩
  | succ j =>
    dsimp only
    rw [List.getElem?_eq_getElem (show j < zs.length by omega)]
    simp only [Bool.and_eq_true, decide_eq_true_eq]
    constructor
    · rintro ⟨⟨⟨h1, h2⟩, h3⟩, h4⟩
      refine ⟨⟨h1, h2, h3⟩, fun j' h => ?_⟩
      obtain rfl : j' = j := by omega
      exact h4
    · rintro ⟨⟨h1, h2, h3⟩, h4⟩; exact ⟨⟨⟨h1, h2⟩, h3⟩, h4 j rfl⟩

theorem okCts_table {zs : List Ct} (h : okCts zs = true) : Table zs := by
  unfold okCts at h
  rw [List.all_eq_true] at h
  have h' : ∀ i (hi : i < zs.length), Entry zs[i] ∧ ∀ j, (h : j + 1 = i) → ltS (zs[j]'(by omega)).1 zs[i].1 := fun i hi => (okAt_iff zs i hi).1 (h i (by simpa using hi))
  refine ⟨List.pairwise_iff_getElem.2 fun i j hi hj hij => ?_, fun z hz => ?_⟩
  · induction j with
    | zero => omega
    | succ j ih =>
      have hs := (h' (j + 1) hj).2 j rfl
      by_cases e : i = j
      · subst e; exact hs
      · exact ltS_trans (ih (by omega) (by omega)) hs
  · obtain ⟨i, hi, rfl⟩ := List.mem_iff_getElem.1 hz
    exact (h' i hi).1
theorem table_okCts {zs : List Ct} (h : Table zs) : okCts zs = true := by
  unfold okCts
  rw [List.all_eq_true]
  intro i hi
  have hi' : i < zs.length := by simpa using hi
  refine (okAt_iff zs i hi').2 ⟨h.ent _ (List.getElem_mem hi'), fun j hj => ?_⟩
  exact List.pairwise_iff_getElem.1 h.asc j i (by omega) hi' (by omega)
theorem okCts_iff (zs : List Ct) : okCts zs = true ↔ Table zs := ⟨okCts_table, table_okCts⟩

/-- Two ascending tables with the same entries are one. -/
theorem ct_ext : ∀ (a b : List Ct), a.Pairwise (fun a b => ltS a.1 b.1) → b.Pairwise (fun a b => ltS a.1 b.1) → (∀ z, z ∈ a ↔ z ∈ b) → a = b
  | [], [], _, _, _ => rfl
  | [], t :: b, _, _, h => absurd ((h t).2 List.mem_cons_self) (by simp)
  | t :: a, [], _, _, h => absurd ((h t).1 List.mem_cons_self) (by simp)
  | s :: a, t :: b, ha, hb, h => by
    rw [List.pairwise_cons] at ha hb
    have hst : s = t := by
      rcases List.mem_cons.1 ((h s).1 List.mem_cons_self) with h1 | h1
      · exact h1
      · rcases List.mem_cons.1 ((h t).2 List.mem_cons_self) with h2 | h2
        · exact h2.symm
        · exact absurd (ltS_trans (hb.1 s h1) (ha.1 t h2)) (ltS_irrefl _)
    subst hst
    have hab : a = b := ct_ext a b ha.2 hb.2 (fun z => by
      constructor
      · intro hz
        rcases List.mem_cons.1 ((h z).1 (List.mem_cons_of_mem _ hz)) with rfl | h1
        · exact absurd (ha.1 z hz) (ltS_irrefl _)
        · exact h1
      · intro hz
        rcases List.mem_cons.1 ((h z).2 (List.mem_cons_of_mem _ hz)) with rfl | h1
        · exact absurd (hb.1 z hz) (ltS_irrefl _)
        · exact h1)
    rw [hab]

/-- What CountAt answers. -/
def countAt : List Ct → Int × Int → Int
  | [], _ => 0
  | z :: zs, s => if z.1 = s then z.2 else countAt zs s
theorem countAt_mem {zs : List Ct} (h : zs.Pairwise fun a b => ltS a.1 b.1) {z : Ct} (hz : z ∈ zs) : countAt zs z.1 = z.2 := by
  induction zs with
  | nil => cases hz
  | cons y zs ih =>
    rw [List.pairwise_cons] at h
    unfold countAt
    rcases List.mem_cons.1 hz with rfl | h1
    · rw [if_pos rfl]
    · rw [if_neg (fun e => by have := h.1 z h1; rw [e] at this; exact ltS_irrefl _ this)]
      exact ih h.2 h1
theorem countAt_none {zs : List Ct} {s : Int × Int} (h : ∀ z ∈ zs, z.1 ≠ s) : countAt zs s = 0 := by
  induction zs with
  | nil => rfl
  | cons y zs ih =>
    unfold countAt
    rw [if_neg (h y List.mem_cons_self)]
    exact ih fun z hz => h z (List.mem_cons_of_mem _ hz)
/-- In a valid table an entry is there just where the count is not 0. -/
theorem mem_iff_countAt {zs : List Ct} (h : Table zs) (s : Int × Int) (n : Int) : (s, n) ∈ zs ↔ countAt zs s = n ∧ n ≠ 0 := by
  constructor
  · intro hz
    exact ⟨countAt_mem h.asc hz, (h.ent _ hz).2.2⟩
  · rintro ⟨rfl, hn⟩
    by_cases hex : ∃ z ∈ zs, z.1 = s
    · obtain ⟨z, hz, rfl⟩ := hex
      rw [countAt_mem h.asc hz]
      exact hz
    · exact absurd (countAt_none fun z hz e => hex ⟨z, hz, e⟩) hn
theorem countAt_bd {zs : List Ct} (h : Table zs) (s : Int × Int) : -1000000 ≤ countAt zs s ∧ countAt zs s ≤ 1000000 := by
  by_cases hn : countAt zs s = 0
  · omega
  · exact (h.ent _ ((mem_iff_countAt h s _).2 ⟨rfl, hn⟩)).2.1
theorem table_ext {a b : List Ct} (ha : Table a) (hb : Table b) (h : ∀ s, countAt a s = countAt b s) : a = b := by
  refine ct_ext a b ha.asc hb.asc fun z => ?_
  obtain ⟨s, n⟩ := z
  rw [mem_iff_countAt ha, mem_iff_countAt hb, h]

/-- The table with the count v at s. -/
def putL (zs : List Ct) (s : Int × Int) (v : Int) : List Ct := (zs.filter fun z => decide (ltS z.1 s)) ++ ((if v = 0 then [] else [(s, v)]) ++ zs.filter fun z => decide (ltS s z.1))
theorem mem_putL {zs : List Ct} (s : Int × Int) (v : Int) (z : Ct) : z ∈ putL zs s v ↔ (z ∈ zs ∧ z.1 ≠ s) ∨ (z = (s, v) ∧ v ≠ 0) := by
  unfold putL
  simp only [List.mem_append, List.mem_filter, decide_eq_true_eq]
  constructor
  · rintro (⟨h1, h2⟩ | h1 | ⟨h1, h2⟩)
    · exact .inl ⟨h1, fun e => by rw [e] at h2; exact ltS_irrefl _ h2⟩
    · split at h1
      · cases h1
      · rename_i hv
        exact .inr ⟨by simpa using h1, hv⟩
    · exact .inl ⟨h1, fun e => by rw [e] at h2; exact ltS_irrefl _ h2⟩
  · rintro (⟨h1, h2⟩ | ⟨rfl, hv⟩)
    · rcases ltS_cases z.1 s with h3 | h3 | h3
      · exact .inl ⟨h1, h3⟩
      · exact absurd h3 h2
      · exact .inr (.inr ⟨h1, h3⟩)
    · exact .inr (.inl (by rw [if_neg hv]; simp))
theorem asc_putL {zs : List Ct} (h : zs.Pairwise fun a b => ltS a.1 b.1) (s : Int × Int) (v : Int) : (putL zs s v).Pairwise fun a b => ltS a.1 b.1 := by
  unfold putL
  rw [List.pairwise_append, List.pairwise_append]
  refine ⟨h.filter _, ⟨?_, h.filter _, fun a ha b hb => ?_⟩, fun a ha b hb => ?_⟩
  · split
    · exact List.Pairwise.nil
    · exact List.pairwise_singleton _ _
  · split at ha
    · cases ha
    · obtain rfl : a = (s, v) := by simpa using ha
      simpa using (List.mem_filter.1 hb).2
  · have h1 : ltS a.1 s := by simpa using (List.mem_filter.1 ha).2
    rcases List.mem_append.1 hb with h2 | h2
    · split at h2
      · cases h2
      · obtain rfl : b = (s, v) := by simpa using h2
        exact h1
    · exact ltS_trans h1 (by simpa using (List.mem_filter.1 h2).2)
theorem table_putL {zs : List Ct} (h : Table zs) {s : Int × Int} (hs : okSt s.1 s.2 = true) {v : Int} (hv : -1000000 ≤ v ∧ v ≤ 1000000) : Table (putL zs s v) := by
  refine ⟨asc_putL h.asc s v, fun z hz => ?_⟩
  rcases (mem_putL s v z).1 hz with ⟨h1, _⟩ | ⟨rfl, hn⟩
  · exact h.ent z h1
  · exact ⟨hs, hv, hn⟩
theorem countAt_putL {zs : List Ct} (h : Table zs) {s : Int × Int} (hs : okSt s.1 s.2 = true) {v : Int} (hv : -1000000 ≤ v ∧ v ≤ 1000000) (t : Int × Int) : countAt (putL zs s v) t = if t = s then v else countAt zs t := by
  have hT := table_putL h hs hv
  by_cases e : t = s
  · subst e
    rw [if_pos rfl]
    by_cases hv0 : v = 0
    · subst hv0
      refine countAt_none fun z hz => ?_
      rcases (mem_putL t 0 z).1 hz with h1 | h1
      · exact h1.2
      · exact absurd rfl h1.2
    · exact ((mem_iff_countAt hT t v).1 ((mem_putL t v _).2 (.inr ⟨rfl, hv0⟩))).1
  · rw [if_neg e]
    by_cases hc : countAt zs t = 0
    · rw [hc]
      refine countAt_none fun z hz e2 => ?_
      rcases (mem_putL s v z).1 hz with h1 | h1
      · have h3 := (mem_iff_countAt h z.1 z.2).1 h1.1
        rw [e2, hc] at h3
        exact h3.2 h3.1.symm
      · rw [h1.1] at e2; exact e e2.symm
    · exact ((mem_iff_countAt hT t _).1 ((mem_putL s v _).2 (.inl ⟨(mem_iff_countAt h t _).2 ⟨rfl, hc⟩, e⟩))).1

/-- Whether Adjust takes the number. -/
def adjOk (zs : List Ct) (s : Int × Int) (n : Int) : Bool := okCts zs && okSt s.1 s.2 && decide (-1000000 ≤ countAt zs s + n ∧ countAt zs s + n ≤ 1000000)
/-- What Adjust answers. -/
def adjL (zs : List Ct) (s : Int × Int) (n : Int) : List Ct := if adjOk zs s n = true then putL zs s (countAt zs s + n) else zs

/-- One round of the reference's Adjust. -/
def adjStep (s : Int × Int) (v : Int) (st : List Ct × Bool) (z : Ct) : List Ct × Bool :=
  let st2 := if st.2 = false ∧ ¬ltS z.1 s then (st.1 ++ [(s, v)], true) else st
  if z.1 = s then st2 else (st2.1 ++ [z], st2.2)
/-- The reference's Adjust on a valid table. -/
def adjScan (s : Int × Int) (v : Int) (zs : List Ct) : List Ct × Bool := zs.foldl (adjStep s v) ([], decide (v = 0))
def adjEnd (s : Int × Int) (v : Int) (st : List Ct × Bool) : List Ct := if st.2 = true then st.1 else st.1 ++ [(s, v)]

theorem adjScan_step {s : Int × Int} {v : Int} {zs : List Ct} {k : Nat} (hk : k < zs.length) : adjScan s v (zs.take (k + 1)) = adjStep s v (adjScan s v (zs.take k)) zs[k] := by
  unfold adjScan
  rw [List.take_succ_eq_append_getElem hk, List.foldl_append]
  rfl

theorem adjStep_done (s : Int × Int) (v : Int) : ∀ (zs out : List Ct), zs.foldl (adjStep s v) (out, true) = (out ++ zs.filter fun z => decide (z.1 ≠ s), true)
  | [], out => by simp
  | z :: zs, out => by
    rw [List.foldl_cons]
    have h1 : adjStep s v (out, true) z = (if z.1 = s then out else out ++ [z], true) := by
      unfold adjStep
      simp only [Bool.true_eq_false, false_and, if_false]
      split <;> rfl
    rw [h1, adjStep_done s v zs]
    by_cases hz : z.1 = s
    · simp [hz]
    · simp [hz]

theorem adjStep_open (s : Int × Int) (v : Int) : ∀ (zs out : List Ct), zs.Pairwise (fun a b => ltS a.1 b.1) →
    adjEnd s v (zs.foldl (adjStep s v) (out, false)) = out ++ ((zs.filter fun z => decide (ltS z.1 s)) ++ ([(s, v)] ++ zs.filter fun z => decide (ltS s z.1)))
  | [], out, _ => by simp [adjEnd]
  | z :: zs, out, h => by
    rw [List.pairwise_cons] at h
    rw [List.foldl_cons]
    by_cases hz : ltS z.1 s
    · have hne : z.1 ≠ s := fun e => by rw [e] at hz; exact ltS_irrefl _ hz
      have hng : ¬ltS s z.1 := fun e => ltS_irrefl _ (ltS_trans hz e)
      have h1 : adjStep s v (out, false) z = (out ++ [z], false) := by
        unfold adjStep
        simp [hz, hne]
      rw [h1, adjStep_open s v zs _ h.2]
      simp [hz, hng]
    · have hge : s = z.1 ∨ ltS s z.1 := by
        rcases ltS_cases s z.1 with h2 | h2 | h2
        · exact .inr h2
        · exact .inl h2
        · exact absurd h2 hz
      have hgt : ∀ y ∈ zs, ltS s y.1 := fun y hy => by
        rcases hge with e | e
        · rw [e]; exact h.1 y hy
        · exact ltS_trans e (h.1 y hy)
      have h1 : adjStep s v (out, false) z = (if z.1 = s then out ++ [(s, v)] else out ++ [(s, v)] ++ [z], true) := by
        unfold adjStep
        simp only [hz, not_false_eq_true, and_self, if_true]
        split <;> rfl
      have f1 : (zs.filter fun z => decide (ltS z.1 s)) = [] := List.filter_eq_nil_iff.2 fun y hy => by
        simp only [decide_eq_true_eq]
        exact fun e => ltS_irrefl _ (ltS_trans e (hgt y hy))
      have f2 : (zs.filter fun z => decide (ltS s z.1)) = zs := List.filter_eq_self.2 fun y hy => by simpa using hgt y hy
      have f3 : (zs.filter fun z => decide (z.1 ≠ s)) = zs := List.filter_eq_self.2 fun y hy => by
        simp only [decide_eq_true_eq]
        exact fun e => by have := hgt y hy; rw [e] at this; exact ltS_irrefl _ this
      rw [h1, adjStep_done, f3, List.filter_cons_of_neg (by simpa using hz), f1]
      unfold adjEnd
      simp only [if_true, List.nil_append]
      rcases hge with e | e
      · subst e
        rw [if_pos rfl, List.filter_cons_of_neg (by simpa using ltS_irrefl z.1), f2]
        simp
      · have hne : z.1 ≠ s := fun e2 => by rw [e2] at e; exact ltS_irrefl _ e
        rw [if_neg hne, List.filter_cons_of_pos (by simpa using e), f2]
        simp

/-- The reference's rounds give the table with the count v at s. -/
theorem adjScan_put {zs : List Ct} (h : zs.Pairwise fun a b => ltS a.1 b.1) (s : Int × Int) (v : Int) : adjEnd s v (adjScan s v zs) = putL zs s v := by
  unfold adjScan
  by_cases hv : v = 0
  · subst hv
    have hd : decide ((0 : Int) = 0) = true := by decide
    rw [hd, adjStep_done]
    unfold adjEnd
    simp only [if_true, List.nil_append]
    refine ct_ext _ _ (h.filter _) (asc_putL h s 0) fun z => ?_
    rw [mem_putL, List.mem_filter]
    simp
  · have hd : decide (v = 0) = false := by simpa using hv
    rw [hd, adjStep_open s v zs [] h]
    unfold putL
    rw [if_neg hv]
    simp

theorem putL_length (zs : List Ct) (s : Int × Int) (v : Int) : (putL zs s v).length ≤ zs.length + 1 + zs.length := by
  unfold putL
  have h1 := List.length_filter_le (fun z : Ct => decide (ltS z.1 s)) zs
  have h2 := List.length_filter_le (fun z : Ct => decide (ltS s z.1)) zs
  simp only [List.length_append]
  split <;> simp <;> omega
theorem filter_two : ∀ (zs : List Ct) (s : Int × Int), (zs.filter fun z => decide (ltS z.1 s)).length + (zs.filter fun z => decide (ltS s z.1)).length ≤ zs.length
  | [], _ => by simp
  | z :: zs, s => by
    have ih := filter_two zs s
    by_cases h1 : ltS z.1 s
    · have h2 : ¬ltS s z.1 := fun e => ltS_irrefl _ (ltS_trans h1 e)
      rw [List.filter_cons_of_pos (by simpa using h1), List.filter_cons_of_neg (by simpa using h2)]
      simp only [List.length_cons]; omega
    · rw [List.filter_cons_of_neg (by simpa using h1)]
      by_cases h2 : ltS s z.1
      · rw [List.filter_cons_of_pos (by simpa using h2)]
        simp only [List.length_cons]; omega
      · rw [List.filter_cons_of_neg (by simpa using h2)]
        simp only [List.length_cons]; omega
theorem putL_len (zs : List Ct) (s : Int × Int) (v : Int) : (putL zs s v).length ≤ zs.length + 1 := by
  unfold putL
  have := filter_two zs s
  simp only [List.length_append]
  split <;> simp <;> omega

theorem adjL_ok {zs : List Ct} {s : Int × Int} {n : Int} (h : adjOk zs s n = true) : adjL zs s n = putL zs s (countAt zs s + n) := by unfold adjL; rw [if_pos h]
theorem adjOk_iff (zs : List Ct) (s : Int × Int) (n : Int) : adjOk zs s n = true ↔ Table zs ∧ okSt s.1 s.2 = true ∧ (-1000000 ≤ countAt zs s + n ∧ countAt zs s + n ≤ 1000000) := by
  unfold adjOk
  simp only [Bool.and_eq_true, decide_eq_true_eq, okCts_iff, and_assoc]
theorem table_adjL {zs : List Ct} {s : Int × Int} {n : Int} (h : adjOk zs s n = true) : Table (adjL zs s n) := by
  obtain ⟨hT, hs, hv⟩ := (adjOk_iff zs s n).1 h
  rw [adjL_ok h]
  exact table_putL hT hs hv
theorem countAt_adjL {zs : List Ct} {s : Int × Int} {n : Int} (h : adjOk zs s n = true) (t : Int × Int) : countAt (adjL zs s n) t = if t = s then countAt zs s + n else countAt zs t := by
  obtain ⟨hT, hs, hv⟩ := (adjOk_iff zs s n).1 h
  rw [adjL_ok h]
  exact countAt_putL hT hs hv t

/-- Adding tables: one entry after another; whether all were taken. -/
def addL : List Ct → List Ct → List Ct × Bool
  | a, [] => (a, true)
  | a, z :: b => if adjOk a z.1 z.2 = true then addL (adjL a z.1 z.2) b else (a, false)
/-- Whether AddCounts takes the second table. -/
def addOk (a b : List Ct) : Bool := okCts a && okCts b && (addL a b).2
/-- What AddCounts answers. -/
def sumsL (a b : List Ct) : List Ct := if addOk a b = true then (addL a b).1 else a

theorem addL_snoc : ∀ (a b : List Ct) (z : Ct), addL a (b ++ [z]) = if (addL a b).2 = true then (if adjOk (addL a b).1 z.1 z.2 = true then (adjL (addL a b).1 z.1 z.2, true) else ((addL a b).1, false)) else addL a b
  | a, [], z => by by_cases h : adjOk a z.1 z.2 = true <;> simp [addL, h]
  | a, y :: b, z => by
    rw [List.cons_append]
    unfold addL
    by_cases h : adjOk a y.1 y.2 = true
    · rw [if_pos h, if_pos h]; exact addL_snoc _ b z
    · rw [if_neg h, if_neg h]; simp

/-- The sum of the counts. -/
def sumL (zs : List Ct) : Int := (zs.map Prod.snd).sum
theorem sumL_cons (z : Ct) (zs : List Ct) : sumL (z :: zs) = z.2 + sumL zs := by simp [sumL]
theorem sumL_append (a b : List Ct) : sumL (a ++ b) = sumL a + sumL b := by simp [sumL]
theorem sumL_parts : ∀ {zs : List Ct}, zs.Pairwise (fun a b => ltS a.1 b.1) → ∀ s : Int × Int, sumL zs = sumL (zs.filter fun z => decide (ltS z.1 s)) + countAt zs s + sumL (zs.filter fun z => decide (ltS s z.1))
  | [], _, s => by simp [sumL, countAt]
  | z :: zs, h, s => by
    rw [List.pairwise_cons] at h
    have ih := sumL_parts h.2 s
    rw [sumL_cons]
    unfold countAt
    rcases ltS_cases z.1 s with h1 | h1 | h1
    · have h2 : ¬ltS s z.1 := fun e => ltS_irrefl _ (ltS_trans h1 e)
      have h3 : z.1 ≠ s := fun e => by rw [e] at h1; exact ltS_irrefl _ h1
      rw [if_neg h3, List.filter_cons_of_pos (by simpa using h1), List.filter_cons_of_neg (by simpa using h2), sumL_cons]
      omega
    · have hn : ∀ y ∈ zs, y.1 ≠ s := fun y hy e => by have := h.1 y hy; rw [h1, e] at this; exact ltS_irrefl _ this
      rw [countAt_none hn] at ih
      rw [if_pos h1, List.filter_cons_of_neg (by rw [h1]; simpa using ltS_irrefl s), List.filter_cons_of_neg (by rw [h1]; simpa using ltS_irrefl s)]
      omega
    · have h2 : ¬ltS z.1 s := fun e => ltS_irrefl _ (ltS_trans h1 e)
      have h3 : z.1 ≠ s := fun e => by rw [e] at h1; exact ltS_irrefl _ h1
      rw [if_neg h3, List.filter_cons_of_neg (by simpa using h2), List.filter_cons_of_pos (by simpa using h1), sumL_cons]
      omega
theorem sumL_putL {zs : List Ct} (h : zs.Pairwise fun a b => ltS a.1 b.1) (s : Int × Int) (v : Int) : sumL (putL zs s v) = sumL zs - countAt zs s + v := by
  have := sumL_parts h s
  unfold putL
  rw [sumL_append, sumL_append]
  by_cases hv : v = 0
  · rw [if_pos hv]; simp only [sumL, List.map_nil, List.sum_nil] at *; omega
  · rw [if_neg hv]
    have e : sumL [(s, v)] = v := by simp [sumL]
    omega
theorem sumL_adjL {zs : List Ct} {s : Int × Int} {n : Int} (h : adjOk zs s n = true) : sumL (adjL zs s n) = sumL zs + n := by
  obtain ⟨hT, hs, hv⟩ := (adjOk_iff zs s n).1 h
  rw [adjL_ok h, sumL_putL hT.asc]
  omega
theorem sumL_addL : ∀ (a b : List Ct), (addL a b).2 = true → sumL (addL a b).1 = sumL a + sumL b
  | a, [], _ => by simp [addL, sumL]
  | a, z :: b, h => by
    unfold addL at h ⊢
    by_cases hk : adjOk a z.1 z.2 = true
    · rw [if_pos hk] at h ⊢
      rw [sumL_addL _ b h, sumL_adjL hk, sumL_cons]
      omega
    · rw [if_neg hk] at h
      cases h

/-- The sum of the counts, as 64 bits hold it. -/
def totalL (zs : List Ct) : Int := zs.foldl (fun a z => wrap64 (a + z.2)) 0
def epochL (zs : List Ct) (e : Int) : Int := zs.foldl (fun a z => if z.1.1 = e then wrap64 (a + z.2) else a) 0
/-- The stamps whose count is positive. -/
def posL (zs : List Ct) : List (Int × Int) := (zs.filter fun z => decide (0 < z.2)).map Prod.fst

theorem wrap_in {x : Int} (h : -9000000000000000000 ≤ x ∧ x ≤ 9000000000000000000) : wrap64 x = x := by unfold wrap64; omega
theorem totalL_from : ∀ (zs : List Ct) (a B : Int), (∀ z ∈ zs, -1000000 ≤ z.2 ∧ z.2 ≤ 1000000) → -B ≤ a → a ≤ B → B + 1000000 * (zs.length : Int) ≤ 9000000000000000000 → zs.foldl (fun a z => wrap64 (a + z.2)) a = a + sumL zs
  | [], a, B, _, _, _, _ => by simp [sumL]
  | z :: zs, a, B, h, h1, h2, h3 => by
    have hz := h z List.mem_cons_self
    simp only [List.length_cons, Int.natCast_add, Int.natCast_one] at h3
    rw [List.foldl_cons, wrap_in (by omega), totalL_from zs (a + z.2) (B + 1000000) (fun y hy => h y (List.mem_cons_of_mem _ hy)) (by omega) (by omega) (by omega), sumL_cons]
    omega
theorem totalL_table {zs : List Ct} (h : Table zs) (hl : zs.length ≤ 4194304) : totalL zs = sumL zs := by
  unfold totalL
  rw [totalL_from zs 0 0 (fun z hz => (h.ent z hz).2.1) (by omega) (by omega) (by omega)]
  omega

/-- Adjust by n and back. -/
theorem adj_back {zs : List Ct} {s : Int × Int} {n : Int} (h : adjOk zs s n = true) : adjOk (adjL zs s n) s (-n) = true ∧ adjL (adjL zs s n) s (-n) = zs := by
  obtain ⟨hT, hs, hv⟩ := (adjOk_iff zs s n).1 h
  have hb := countAt_bd hT s
  have hc : countAt (adjL zs s n) s = countAt zs s + n := by rw [countAt_adjL h, if_pos rfl]
  have h1 : adjOk (adjL zs s n) s (-n) = true := (adjOk_iff _ _ _).2 ⟨table_adjL h, hs, by rw [hc]; omega⟩
  refine ⟨h1, table_ext (table_adjL h1) hT fun t => ?_⟩
  rw [countAt_adjL h1]
  by_cases e : t = s
  · rw [if_pos e, hc, e]; omega
  · rw [if_neg e, countAt_adjL h, if_neg e]
end Go.Proofs.YtlanmkimaambgaaGreat.hexes

