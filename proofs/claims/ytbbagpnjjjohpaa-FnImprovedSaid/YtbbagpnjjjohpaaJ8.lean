/-
  Cells as lists: the order of cells, lists in order, a cell put in, the least value of a key, what Recall answers, the cells of one operator and epoch.
  Minimal on lists, from a sorted list in one pass; and the facts on it that chapter 3's laws ask.
  Count tables as lists: what chapter 4's functions answer, and why a table is known by its entries.
  Records as lists: the order of records, what sorting gives, bags, epochs, counts by stamp.
  Remembers on both sides.
  One step of an operator on lists.
  Steps on lists: how much a step makes; the steps one by one.
-/
import Derived.Test.YtbbagpnjjjohpaaJ0
import Derived.Test.YtbbagpnjjjohpaaJ1
import Derived.Test.YtbbagpnjjjohpaaJ3
import Derived.Test.YtbbagpnjjjohpaaJ6
import Derived.Test.YtbbagpnjjjohpaaJ7

namespace Go.Proofs.Ytbbagpnjjjohpaa.hexes
open Go.RowKit

/-- A cell: operator, epoch, key, value. -/
abbrev Ce := Int × Int × Int × Int

/-- What CellOrder answers. -/
def ordCe (a b : Ce) : Int :=
  if ordI a.2.1 b.2.1 ≠ 0 then ordI a.2.1 b.2.1
  else if ordI a.1 b.1 ≠ 0 then ordI a.1 b.1
  else if ordI a.2.2.1 b.2.2.1 ≠ 0 then ordI a.2.2.1 b.2.2.1
  else ordI a.2.2.2 b.2.2.2

/-- a comes ahead of b. -/
def ltE (a b : Ce) : Prop := a.2.1 < b.2.1 ∨ (a.2.1 = b.2.1 ∧ (a.1 < b.1 ∨ (a.1 = b.1 ∧ (a.2.2.1 < b.2.2.1 ∨ (a.2.2.1 = b.2.2.1 ∧ a.2.2.2 < b.2.2.2)))))
instance (a b : Ce) : Decidable (ltE a b) := by unfold ltE; infer_instance

theorem ordE_cases (x u : Int) : (x < u ∧ ordI x u = -1) ∨ (x = u ∧ ordI x u = 0) ∨ (u < x ∧ ordI x u = 1) := by
  unfold ordI
  split
  · exact .inl ⟨by assumption, rfl⟩
  · split
    · exact .inr (.inr ⟨by omega, rfl⟩)
    · exact .inr (.inl ⟨by omega, rfl⟩)
theorem ordCe_neg (a b : Ce) : ordCe a b < 0 ↔ ltE a b := by
  unfold ordCe ltE
  rcases ordE_cases a.2.1 b.2.1 with ⟨h0, e0⟩ | ⟨h0, e0⟩ | ⟨h0, e0⟩
  · simp [e0]; omega
  rotate_left
  · simp [e0]; omega
  rcases ordE_cases a.1 b.1 with ⟨h1, e1⟩ | ⟨h1, e1⟩ | ⟨h1, e1⟩
  · simp [e0, e1]; omega
  rotate_left
  · simp [e0, e1]; omega
  rcases ordE_cases a.2.2.1 b.2.2.1 with ⟨h2, e2⟩ | ⟨h2, e2⟩ | ⟨h2, e2⟩
  · simp [e0, e1, e2]; omega
  rotate_left
  · simp [e0, e1, e2]; omega
  rcases ordE_cases a.2.2.2 b.2.2.2 with ⟨h3, e3⟩ | ⟨h3, e3⟩ | ⟨h3, e3⟩ <;> (simp [e0, e1, e2, e3]; omega)
theorem ordCe_zero (a b : Ce) : ordCe a b = 0 ↔ a = b := by
  obtain ⟨a1, a2, a3, a4⟩ := a
  obtain ⟨b1, b2, b3, b4⟩ := b
  unfold ordCe
  simp only [Prod.mk.injEq]
  rcases ordE_cases a2 b2 with ⟨h0, e0⟩ | ⟨h0, e0⟩ | ⟨h0, e0⟩
  · simp [e0]; omega
  rotate_left
  · simp [e0]; omega
  rcases ordE_cases a1 b1 with ⟨h1, e1⟩ | ⟨h1, e1⟩ | ⟨h1, e1⟩
  · simp [e0, e1]; omega
  rotate_left
  · simp [e0, e1]; omega
  rcases ordE_cases a3 b3 with ⟨h2, e2⟩ | ⟨h2, e2⟩ | ⟨h2, e2⟩
  · simp [e0, e1, e2]; omega
  rotate_left
  · simp [e0, e1, e2]; omega
  rcases ordE_cases a4 b4 with ⟨h3, e3⟩ | ⟨h3, e3⟩ | ⟨h3, e3⟩ <;> (simp [e0, e1, e2, e3]; omega)

/-- In order, each once. -/
def AscE (zs : List Ce) : Prop := zs.Pairwise ltE
instance (zs : List Ce) : Decidable (AscE zs) := by unfold AscE; infer_instance

/-- What HasCell answers. -/
def hasC (zs : List Ce) (x : Ce) : Bool := decide (x ∈ zs)
theorem hasC_hit {zs : List Ce} {x : Ce} {k : Nat} (hk : k < zs.length) (h : zs[k] = x) : hasC zs x = true := decide_eq_true (h ▸ List.getElem_mem hk)
theorem hasC_step {zs : List Ce} {x : Ce} {k : Nat} (hk : k < zs.length) (h : x ∉ zs.take k) (hn : zs[k] ≠ x) : x ∉ zs.take (k + 1) := by
  rw [List.take_succ_eq_append_getElem hk]
  simp only [List.mem_append, List.mem_singleton, not_or]
  exact ⟨h, fun e => hn e.symm⟩
theorem hasC_miss {zs : List Ce} {x : Ce} {k : Nat} (hk : zs.length ≤ k) (h : x ∉ zs.take k) : hasC zs x = false := by
  rw [List.take_of_length_le hk] at h
  exact decide_eq_false h

/-- What PutCell answers. -/
def putC (zs : List Ce) (x : Ce) : List Ce := if hasC zs x = true then zs else zs.takeWhile (fun z => decide (ltE z x)) ++ x :: zs.dropWhile (fun z => decide (ltE z x))
theorem while_split {zs : List Ce} {x : Ce} : ∀ {k : Nat}, k ≤ zs.length → (∀ z ∈ zs.take k, ltE z x) → (∀ h : k < zs.length, ¬ltE zs[k] x) → zs.takeWhile (fun z => decide (ltE z x)) = zs.take k ∧ zs.dropWhile (fun z => decide (ltE z x)) = zs.drop k := by
  induction zs with
  | nil => intro k _ _ _; simp
  | cons z zs ih =>
    intro k hk ha he
    cases k with
    | zero =>
      have : ¬ltE z x := he (by simp)
      simp [this]
    | succ k =>
      have h1 : ltE z x := ha z (by simp)
      obtain ⟨e1, e2⟩ := ih (k := k) (by simpa using hk) (fun y hy => ha y (by simp [hy])) (fun h => he (by simpa using h))
      simp [h1, e1, e2]
theorem put_in {zs : List Ce} {x : Ce} (h : hasC zs x = true) : putC zs x = zs := by unfold putC; rw [if_pos h]
theorem put_at {zs : List Ce} {x : Ce} {k : Nat} (hn : hasC zs x = false) (hk : k ≤ zs.length) (ha : ∀ z ∈ zs.take k, ltE z x) (he : ∀ h : k < zs.length, ¬ltE zs[k] x) : putC zs x = zs.take k ++ x :: zs.drop k := by
  obtain ⟨e1, e2⟩ := while_split hk ha he
  unfold putC
  rw [hn, if_neg (by decide), e1, e2]
theorem put_mem (zs : List Ce) (x y : Ce) : y ∈ putC zs x ↔ y = x ∨ y ∈ zs := by
  unfold putC
  split
  · rename_i h
    have h' : x ∈ zs := of_decide_eq_true h
    exact ⟨.inr, fun o => o.elim (fun e => e ▸ h') id⟩
  · have e := List.takeWhile_append_dropWhile (p := fun z => decide (ltE z x)) (l := zs)
    have : y ∈ zs ↔ y ∈ zs.takeWhile (fun z => decide (ltE z x)) ∨ y ∈ zs.dropWhile (fun z => decide (ltE z x)) := by rw [← List.mem_append, e]
    rw [this]
    simp only [List.mem_append, List.mem_cons]
    constructor
    · rintro (h | h | h)
      · exact .inr (.inl h)
      · exact .inl h
      · exact .inr (.inr h)
    · rintro (h | h | h)
      · exact .inr (.inl h)
      · exact .inl h
      · exact .inr (.inr h)
theorem put_len (zs : List Ce) (x : Ce) : (putC zs x).length ≤ zs.length + 1 := by
  unfold putC
  split
  · omega
  · have e := congrArg List.length (List.takeWhile_append_dropWhile (p := fun z => decide (ltE z x)) (l := zs))
    simp only [List.length_append, List.length_cons] at e ⊢
    omega

/-- Whether a cell is of that operator, epoch and key. -/
def keyC (o e k : Int) (z : Ce) : Bool := decide (z.1 = o ∧ z.2.1 = e ∧ z.2.2.1 = k)
/-- One more cell looked at. -/
def leastStep (o e k : Int) (m : Int × Bool) (z : Ce) : Int × Bool := if keyC o e k z = true ∧ (m.2 = false ∨ z.2.2.2 < m.1) then (z.2.2.2, true) else m
/-- What LeastOf answers. -/
def leastC (zs : List Ce) (o e k : Int) : Int × Bool := zs.foldl (leastStep o e k) (0, false)
theorem least_step {zs : List Ce} {o e k : Int} {j : Nat} (hj : j < zs.length) : leastC (zs.take (j + 1)) o e k = leastStep o e k (leastC (zs.take j) o e k) zs[j] := by
  unfold leastC
  rw [List.take_succ_eq_append_getElem hj, List.foldl_append]
  rfl
theorem least_all {zs : List Ce} {o e k : Int} {j : Nat} (hj : zs.length ≤ j) : leastC (zs.take j) o e k = leastC zs o e k := by rw [List.take_of_length_le hj]
/-- The least of the cells met. -/
def LeastIs (zs : List Ce) (o e k : Int) (m : Int × Bool) : Prop :=
  (m.2 = false → ∀ z ∈ zs, keyC o e k z = false) ∧ (m.2 = true → (∃ z ∈ zs, keyC o e k z = true ∧ z.2.2.2 = m.1) ∧ ∀ z ∈ zs, keyC o e k z = true → m.1 ≤ z.2.2.2)
theorem least_is (zs : List Ce) (o e k : Int) : LeastIs zs o e k (leastC zs o e k) := by
  have key : ∀ (ys xs : List Ce) (m : Int × Bool), LeastIs xs o e k m → LeastIs (xs ++ ys) o e k (ys.foldl (leastStep o e k) m) := by
    intro ys
    induction ys with
    | nil => intro xs m h; simpa using h
    | cons y ys ih =>
      intro xs m h
      have := ih (xs ++ [y]) (leastStep o e k m y) (by
        unfold leastStep
        split
        · rename_i hc
          refine ⟨(fun h' => by cases h'), fun _ => ⟨⟨y, by simp, hc.1, rfl⟩, fun z hz hk => ?_⟩⟩
          rcases List.mem_append.1 hz with hz' | hz'
          · rcases hc.2 with h0 | h0
            · exact absurd hk (by rw [h.1 h0 z hz']; decide)
            · cases hm : m.2 with
              | false => exact absurd hk (by rw [h.1 hm z hz']; decide)
              | true => have := (h.2 hm).2 z hz' hk; simp only; omega
          · obtain rfl : z = y := by simpa using hz'
            exact Int.le_refl _
        · rename_i hc
          refine ⟨fun h' z hz => ?_, fun h' => ⟨?_, fun z hz hk => ?_⟩⟩
          · rcases List.mem_append.1 hz with hz' | hz'
            · exact h.1 h' z hz'
            · obtain rfl : z = y := by simpa using hz'
              cases hk : keyC o e k z with
              | false => rfl
              | true => exact absurd ⟨hk, .inl h'⟩ hc
          · obtain ⟨z, hz, h1, h2⟩ := (h.2 h').1
            exact ⟨z, by simp [hz], h1, h2⟩
          · rcases List.mem_append.1 hz with hz' | hz'
            · exact (h.2 h').2 z hz' hk
            · obtain rfl : z = y := by simpa using hz'
              rcases Int.lt_or_le z.2.2.2 m.1 with h1 | h1
              · exact absurd ⟨hk, .inr h1⟩ hc
              · exact h1)
      simpa using this
  exact key zs [] (0, false) ⟨fun _ z hz => by simp at hz, fun h => by cases h⟩

/-- The cells of another operator, epoch or key. -/
def delC (zs : List Ce) (x : Ce) : List Ce := zs.filter fun z => !keyC x.1 x.2.1 x.2.2.1 z
theorem del_len (zs : List Ce) (x : Ce) : (delC zs x).length ≤ zs.length := List.length_filter_le _ _
theorem del_step {zs : List Ce} {x : Ce} {k : Nat} (hk : k < zs.length) : delC (zs.take (k + 1)) x = delC (zs.take k) x ++ (if keyC x.1 x.2.1 x.2.2.1 zs[k] = true then [] else [zs[k]]) := by
  unfold delC
  rw [List.take_succ_eq_append_getElem hk, List.filter_append]
  cases h : keyC x.1 x.2.1 x.2.2.1 zs[k] <;> simp [h]

/-- What Recall answers where the least is kept. -/
def recL (zs : List Ce) (x : Ce) : List Ce × Bool :=
  if (leastC zs x.1 x.2.1 x.2.2.1).2 = true ∧ (leastC zs x.1 x.2.1 x.2.2.1).1 ≤ x.2.2.2 then (zs, false) else (putC (delC zs x) x, true)
/-- What Recall answers. -/
def recC (kind : Int) (zs : List Ce) (x : Ce) : List Ce × Bool :=
  if kind = 6 then (if hasC zs x = true then (zs, false) else (putC zs x, true))
  else if kind = 5 ∨ kind = 8 then recL zs x
  else (zs, true)
theorem recC_len (kind : Int) (zs : List Ce) (x : Ce) : (recC kind zs x).1.length ≤ zs.length + 1 := by
  unfold recC recL
  have h1 := put_len zs x
  have h2 := put_len (delC zs x) x
  have h3 := del_len zs x
  split
  · split
    · simp
    · exact h1
  · split
    · split
      · simp
      · simp only; omega
    · simp
end Go.Proofs.Ytbbagpnjjjohpaa.hexes

namespace Go.Proofs.Ytbbagpnjjjohpaa.hexes

theorem leq_iff (a b : Int × Int) : leqSt a.1 a.2 b.1 b.2 = true ↔ a.1 ≤ b.1 ∧ a.2 ≤ b.2 := by simp [leqSt]

/-- One step of the pass over a sorted list. -/
def scanStep (out : List (Int × Int)) (s : Int × Int) : List (Int × Int) :=
  match out.getLast? with
  | none => out ++ [s]
  | some l => if leqSt l.1 l.2 s.1 s.2 = true then out else out ++ [s]

/-- What the pass has made of the stamps P that it has seen. -/
structure Scan (P out : List (Int × Int)) : Prop where
  sub : ∀ o ∈ out, o ∈ P
  asc : out.Pairwise ltS
  last : ∀ l, out.getLast? = some l → ∀ p ∈ P, l.2 ≤ p.2
  cover : ∀ p ∈ P, ∃ o ∈ out, o.1 ≤ p.1 ∧ o.2 ≤ p.2
  anti : ∀ a ∈ out, ∀ b ∈ out, a.1 ≤ b.1 → a.2 ≤ b.2 → a = b

theorem Scan.nil : Scan [] [] where
  sub := fun _ h => by cases h
  asc := List.Pairwise.nil
  last := fun _ h => by cases h
  cover := fun _ h => by cases h
  anti := fun _ h => by cases h

theorem Scan.step {P out : List (Int × Int)} (h : Scan P out) (s : Int × Int) (hs : ∀ p ∈ P, ¬ltS s p) : Scan (P ++ [s]) (scanStep out s) := by
  unfold scanStep
  cases hl : out.getLast? with
  | none =>
    obtain rfl : out = [] := List.getLast?_eq_none_iff.1 hl
    have hP : P = [] := by
      rcases P with _ | ⟨p, P⟩
      · rfl
      · obtain ⟨o, ho, _⟩ := h.cover p List.mem_cons_self
        cases ho
    subst hP
    simp only [List.nil_append]
    exact ⟨fun o ho => ho, List.pairwise_singleton _ _, fun l hl p hp => by
      simp only [List.getLast?_singleton, Option.some.injEq] at hl
      simp only [List.mem_singleton] at hp
      subst hl hp; exact Int.le_refl _, fun p hp => ⟨p, hp, Int.le_refl _, Int.le_refl _⟩, fun a ha b hb _ _ => by
      simp only [List.mem_singleton] at ha hb
      rw [ha, hb]⟩
  | some l =>
    have lm : l ∈ out := List.mem_of_getLast? hl
    have lP := h.sub l lm
    have ll := h.last l hl
    have ls := hs l lP
    dsimp only
    split
    · rename_i hq
      rw [leq_iff] at hq
      refine ⟨fun o ho => List.mem_append_left _ (h.sub o ho), h.asc, fun l' hl' p hp => ?_, fun p hp => ?_, h.anti⟩
      · rw [hl] at hl'
        obtain rfl : l = l' := Option.some.inj hl'
        rcases List.mem_append.1 hp with h1 | h1
        · exact ll p h1
        · obtain rfl : p = s := by simpa using h1
          exact hq.2
      · rcases List.mem_append.1 hp with h1 | h1
        · exact h.cover p h1
        · obtain rfl : p = s := by simpa using h1
          exact ⟨l, lm, hq⟩
    · rename_i hq
      rw [leq_iff] at hq
      have hlt : s.2 < l.2 := by
        unfold ltS at ls
        omega
      have ho : ∀ o ∈ out, ltS o s ∧ s.2 < o.2 := fun o hom => by
        have h1 := hs o (h.sub o hom)
        have h2 := ll o (h.sub o hom)
        unfold ltS at h1 ⊢
        omega
      refine ⟨fun o hom => ?_, ?_, fun l' hl' p hp => ?_, fun p hp => ?_, fun a ha b hb h1 h2 => ?_⟩
      · rcases List.mem_append.1 hom with h1 | h1
        · exact List.mem_append_left _ (h.sub o h1)
        · exact List.mem_append_right _ h1
      · rw [List.pairwise_append]
        refine ⟨h.asc, List.pairwise_singleton _ _, fun a ha b hb => ?_⟩
        obtain rfl : b = s := by simpa using hb
        exact (ho a ha).1
      · obtain rfl : s = l' := by simpa using hl'
        rcases List.mem_append.1 hp with h1 | h1
        · have := ll p h1; omega
        · obtain rfl : p = s := by simpa using h1
          exact Int.le_refl _
      · rcases List.mem_append.1 hp with h1 | h1
        · obtain ⟨o, h2, h3⟩ := h.cover p h1
          exact ⟨o, List.mem_append_left _ h2, h3⟩
        · obtain rfl : p = s := by simpa using h1
          exact ⟨p, List.mem_append_right _ (by simp), Int.le_refl _, Int.le_refl _⟩
      · rcases List.mem_append.1 ha with h3 | h3 <;> rcases List.mem_append.1 hb with h4 | h4
        · exact h.anti a h3 b h4 h1 h2
        · obtain rfl : b = s := by simpa using h4
          have := (ho a h3).2; omega
        · obtain rfl : a = s := by simpa using h3
          have h5 := ho b h4
          unfold ltS at h5
          omega
        · obtain rfl : a = s := by simpa using h3
          obtain rfl : b = a := by simpa using h4
          rfl

end Go.Proofs.Ytbbagpnjjjohpaa.hexes

namespace Go.Proofs.Ytbbagpnjjjohpaa.hexes
open Go.RowKit

/-- An entry: a stamp and its count. -/
abbrev Ct := (Int × Int) × Int

end Go.Proofs.Ytbbagpnjjjohpaa.hexes

namespace Go.Proofs.Ytbbagpnjjjohpaa.hexes
open Go.RowKit

/-- A record: operator, stamp, key, value. -/
abbrev Rc := Int × (Int × Int) × Int × Int

/-- All its numbers are of 64 bits. -/
def wfRc (z : Rc) : Prop := (Lit.int .i64 z.1).wf = true ∧ (Lit.int .i64 z.2.1.1).wf = true ∧ (Lit.int .i64 z.2.1.2).wf = true ∧ (Lit.int .i64 z.2.2.1).wf = true ∧ (Lit.int .i64 z.2.2.2).wf = true
/-- What RecordOk answers. -/
def okRc (z : Rc) : Bool := decide (0 ≤ z.1 ∧ z.1 ≤ 7) && okSt z.2.1.1 z.2.1.2 && decide (0 ≤ z.2.2.1 ∧ z.2.2.1 ≤ 99) && decide (0 ≤ z.2.2.2 ∧ z.2.2.2 ≤ 999)

/-- a comes ahead of b. -/
def ltR (a b : Rc) : Prop := ltS a.2.1 b.2.1 ∨ (a.2.1.1 = b.2.1.1 ∧ a.2.1.2 = b.2.1.2 ∧ (a.1 < b.1 ∨ (a.1 = b.1 ∧ (a.2.2.1 < b.2.2.1 ∨ (a.2.2.1 = b.2.2.1 ∧ a.2.2.2 < b.2.2.2)))))
instance (a b : Rc) : Decidable (ltR a b) := by unfold ltR ltS; infer_instance

end Go.Proofs.Ytbbagpnjjjohpaa.hexes

namespace Go.Proofs.Ytbbagpnjjjohpaa.hexes
open Go.RowKit

def remB (k : Int) : Bool := decide (k = 5 ∨ k = 6 ∨ k = 8)

end Go.Proofs.Ytbbagpnjjjohpaa.hexes

namespace Go.Proofs.Ytbbagpnjjjohpaa.hexes
open Go.RowKit

/-- The records that an operator emits. -/
def emitL (zs : List Int) (s : Int × Int) (key val : Int) : List Rc := zs.map fun z => (z, s, key, val)
/-- What StepOp answers behind the checks: the node, what Changed gives. -/
def stepNd (x : Nd) (key val : Int) (goes : Bool) (cs : List Ce) (r : Rc) : (List Ce × List Rc) × Bool :=
  if goes = false ∧ x.1 ≠ 8 then ((cs, []), true)
  else
    let m := if remB x.1 = true then recC x.1 cs (r.1, r.2.1.1, r.2.2.1, r.2.2.2) else (cs, true)
    if m.2 = false then ((m.1, []), true)
    else if x.1 = 7 then (if hasNext r.2.1.1 r.2.1.2 = true then ((m.1, emitL x.2.2.2 (r.2.1.1, r.2.1.2 + 1) key val), true) else ((m.1, []), true))
    else ((m.1, emitL x.2.2.2 r.2.1 key val), true)
/-- Whether Changed's arguments are right. -/
def okX (x : Nd) (r : Rc) : Bool := okC x.1 x.2.1 x.2.2.1 (dec1 x.2.1) r.2.2.1 r.2.2.2 x.2.2.2
/-- What StepOp answers. -/
def stepGr (gs : List Nd) (wk cp : Int) (cs : List Ce) (r : Rc) : (List Ce × List Rc) × Bool :=
  if (hasB gs r.1 && okGr gs dec1 wk cp && okRc r) = false then ((cs, []), false)
  else stepNd (nodeAt gs r.1) (chgK (okX (nodeAt gs r.1) r) (nodeAt gs r.1).1 (nodeAt gs r.1).2.1 r.2.2.1) (chgV (okX (nodeAt gs r.1) r) (nodeAt gs r.1).1 (nodeAt gs r.1).2.1 r.2.2.2) (chgO (okX (nodeAt gs r.1) r) (nodeAt gs r.1).1 (nodeAt gs r.1).2.1 (nodeAt gs r.1).2.2.1 r.2.2.1) cs r
/-- What StepAll answers after k steps. -/
def stepsG (gs : List Nd) (wk cp : Int) : Nat → List Ce × List Rc → (List Ce × List Rc) × Nat
  | 0, s => (s, 0)
  | _ + 1, (cs, []) => ((cs, []), 0)
  | k + 1, (cs, r :: rs) =>
    let m := stepGr gs wk cp cs r
    let q := stepsG gs wk cp k (m.1.1, rs ++ m.1.2)
    (q.1, q.2 + 1)
theorem nodeAt_few {gs : List Nd} (ho : ∀ x ∈ gs, x.2.2.2.length ≤ 1048576) (t : Int) : (nodeAt gs t).2.2.2.length ≤ 1048576 := by
  unfold nodeAt
  split
  · cases h : gs[t.toNat]? with
    | none => simp [nd0]
    | some x => exact ho x (List.mem_of_getElem? h)
  · simp [nd0]
end Go.Proofs.Ytbbagpnjjjohpaa.hexes

namespace Go.Proofs.Ytbbagpnjjjohpaa.hexes
open Go.RowKit

theorem allB_at {gs : List Nd} {d : Int → Int} (h : allB gs d = true) {i : Nat} (hi : i < gs.length) : nodeB gs d i gs[i] = true := by
  unfold allB at h
  rw [List.all_eq_true] at h
  have := h i (by simpa using hi)
  simpa [List.getElem?_eq_getElem hi] using this
theorem steps_nil (gs : List Nd) (wk cp : Int) (k : Nat) (cs : List Ce) : stepsG gs wk cp k (cs, []) = ((cs, []), 0) := by
  cases k <;> rfl
theorem steps_succ (gs : List Nd) (wk cp : Int) (k : Nat) (cs : List Ce) (r : Rc) (rs : List Rc) : stepsG gs wk cp (k + 1) (cs, r :: rs) = ((stepsG gs wk cp k ((stepGr gs wk cp cs r).1.1, rs ++ (stepGr gs wk cp cs r).1.2)).1, (stepsG gs wk cp k ((stepGr gs wk cp cs r).1.1, rs ++ (stepGr gs wk cp cs r).1.2)).2 + 1) := rfl
/-- After j steps the rest leads to the same end. -/
def StepsAt (gs : List Nd) (wk cp : Int) (K j : Nat) (q : (List Ce × List Rc) × Nat) (cs : List Ce) (rs : List Rc) : Prop := (stepsG gs wk cp (K - j) (cs, rs)).1 = q.1 ∧ (stepsG gs wk cp (K - j) (cs, rs)).2 + j = q.2
theorem StepsAt.start (gs : List Nd) (wk cp : Int) (K : Nat) (cs : List Ce) (rs : List Rc) : StepsAt gs wk cp K 0 (stepsG gs wk cp K (cs, rs)) cs rs := ⟨rfl, rfl⟩
theorem StepsAt.next {gs : List Nd} {wk cp : Int} {K j : Nat} {q : (List Ce × List Rc) × Nat} {cs : List Ce} {r : Rc} {rs : List Rc} (h : StepsAt gs wk cp K j q cs (r :: rs)) (hj : j < K) : StepsAt gs wk cp K (j + 1) q (stepGr gs wk cp cs r).1.1 (rs ++ (stepGr gs wk cp cs r).1.2) := by
  obtain ⟨h1, h2⟩ := h
  rw [show K - j = (K - (j + 1)) + 1 by omega, steps_succ] at h1 h2
  exact ⟨h1, by rw [← h2]; show _ = _ + 1 + j; omega⟩
theorem StepsAt.empty {gs : List Nd} {wk cp : Int} {K j : Nat} {q : (List Ce × List Rc) × Nat} {cs : List Ce} (h : StepsAt gs wk cp K j q cs []) : q = ((cs, []), j) := by
  obtain ⟨h1, h2⟩ := h
  rw [steps_nil] at h1 h2
  exact Prod.ext h1.symm (by rw [← h2]; show 0 + j = j; omega)
end Go.Proofs.Ytbbagpnjjjohpaa.hexes

