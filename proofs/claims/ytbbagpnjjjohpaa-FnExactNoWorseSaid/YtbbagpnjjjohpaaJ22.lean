/-
  Minimal on lists, from a sorted list in one pass; and the facts on it that chapter 3's laws ask.
-/
import Derived.Test.YtbbagpnjjjohpaaJ6

namespace Go.Proofs.Ytbbagpnjjjohpaa.hexes

theorem leq_iff (a b : Int × Int) : leqSt a.1 a.2 b.1 b.2 = true ↔ a.1 ≤ b.1 ∧ a.2 ≤ b.2 := by simp [leqSt]

/-- One step of the pass over a sorted list. -/
def scanStep (out : List (Int × Int)) (s : Int × Int) : List (Int × Int) :=
  match out.getLast? with
  | none => out ++ [s]
  | some l => if leqSt l.1 l.2 s.1 s.2 = true then out else out ++ [s]

/-- What the pass has made of the stamps P that it has seen. -/
structure Scan (P out : List (Int × Int)) : Prop where
  sub : ∀ o ∈ out, o ∈ P
  asc : out.Pairwise ltS
  last : ∀ l, out.getLast? = some l → ∀ p ∈ P, l.2 ≤ p.2
  cover : ∀ p ∈ P, ∃ o ∈ out, o.1 ≤ p.1 ∧ o.2 ≤ p.2
  anti : ∀ a ∈ out, ∀ b ∈ out, a.1 ≤ b.1 → a.2 ≤ b.2 → a = b

theorem Scan.nil : Scan [] [] where
  sub := fun _ h => by cases h
  asc := List.Pairwise.nil
  last := fun _ h => by cases h
  cover := fun _ h => by cases h
  anti := fun _ h => by cases h

theorem Scan.step {P out : List (Int × Int)} (h : Scan P out) (s : Int × Int) (hs : ∀ p ∈ P, ¬ltS s p) : Scan (P ++ [s]) (scanStep out s) := by
  unfold scanStep
  cases hl : out.getLast? with
  | none =>
    obtain rfl : out = [] := List.getLast?_eq_none_iff.1 hl
    have hP : P = [] := by
      rcases P with _ | ⟨p, P⟩
      · rfl
      · obtain ⟨o, ho, _⟩ := h.cover p List.mem_cons_self
        cases ho
    subst hP
    simp only [List.nil_append]
    exact ⟨fun o ho => ho, List.pairwise_singleton _ _, fun l hl p hp => by
      simp only [List.getLast?_singleton, Option.some.injEq] at hl
      simp only [List.mem_singleton] at hp
      subst hl hp; exact Int.le_refl _, fun p hp => ⟨p, hp, Int.le_refl _, Int.le_refl _⟩, fun a ha b hb _ _ => by
      simp only [List.mem_singleton] at ha hb
      rw [ha, hb]⟩
  | some l =>
    have lm : l ∈ out := List.mem_of_getLast? hl
    have lP := h.sub l lm
    have ll := h.last l hl
    have ls := hs l lP
    dsimp only
    split
    · rename_i hq
      rw [leq_iff] at hq
      refine ⟨fun o ho => List.mem_append_left _ (h.sub o ho), h.asc, fun l' hl' p hp => ?_, fun p hp => ?_, h.anti⟩
      · rw [hl] at hl'
        obtain rfl : l = l' := Option.some.inj hl'
        rcases List.mem_append.1 hp with h1 | h1
        · exact ll p h1
        · obtain rfl : p = s := by simpa using h1
          exact hq.2
      · rcases List.mem_append.1 hp with h1 | h1
        · exact h.cover p h1
        · obtain rfl : p = s := by simpa using h1
          exact ⟨l, lm, hq⟩
    · rename_i hq
      rw [leq_iff] at hq
      have hlt : s.2 < l.2 := by
        unfold ltS at ls
        omega
      have ho : ∀ o ∈ out, ltS o s ∧ s.2 < o.2 := fun o hom => by
        have h1 := hs o (h.sub o hom)
        have h2 := ll o (h.sub o hom)
        unfold ltS at h1 ⊢
        omega
      refine ⟨fun o hom => ?_, ?_, fun l' hl' p hp => ?_, fun p hp => ?_, fun a ha b hb h1 h2 => ?_⟩
      · rcases List.mem_append.1 hom with h1 | h1
        · exact List.mem_append_left _ (h.sub o h1)
        · exact List.mem_append_right _ h1
      · rw [List.pairwise_append]
        refine ⟨h.asc, List.pairwise_singleton _ _, fun a ha b hb => ?_⟩
        obtain rfl : b = s := by simpa using hb
        exact (ho a ha).1
      · obtain rfl : s = l' := by simpa using hl'
        rcases List.mem_append.1 hp with h1 | h1
        · have := ll p h1; omega
        · obtain rfl : p = s := by simpa using h1
          exact Int.le_refl _
      · rcases List.mem_append.1 hp with h1 | h1
        · obtain ⟨o, h2, h3⟩ := h.cover p h1
          exact ⟨o, List.mem_append_left _ h2, h3⟩
        · obtain rfl : p = s := by simpa using h1
          exact ⟨p, List.mem_append_right _ (by simp), Int.le_refl _, Int.le_refl _⟩
      · rcases List.mem_append.1 ha with h3 | h3 <;> rcases List.mem_append.1 hb with h4 | h4
        · exact h.anti a h3 b h4 h1 h2
        · obtain rfl : b = s := by simpa using h4
          have := (ho a h3).2; omega
        · obtain rfl : a = s := by simpa using h3
          have h5 := ho b h4
          unfold ltS at h5
          omega
        · obtain rfl : a = s := by simpa using h3
          obtain rfl : b = a := by simpa using h4
          rfl

end Go.Proofs.Ytbbagpnjjjohpaa.hexes

