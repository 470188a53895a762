/-
  Minimal on lists, from a sorted list in one pass; and the facts on it that chapter 3's laws ask.
-/
import Derived.Test.YthkkleicekhelaaMinList
namespace Go.Proofs.Ythkkleicekhelaa.hexes

theorem leq_iff (a b : Int × Int) : leqSt a.1 a.2 b.1 b.2 = true ↔ a.1 ≤ b.1 ∧ a.2 ≤ b.2 := by simp [leqSt]

theorem least_iff (zs : List (Int × Int)) (z : Int × Int) : leastB zs z = true ↔ ∀ t ∈ zs, (t.1 ≤ z.1 ∧ t.2 ≤ z.2) → t = z := by
  simp only [leastB, List.all_eq_true, Bool.or_eq_true, decide_eq_true_eq, Bool.not_eq_true']
  constructor
  · intro h t ht hl
    rcases h t ht with h1 | h1
    · exact h1
    · rw [(leq_iff t z).2 hl] at h1; cases h1
  · intro h t ht
    by_cases hl : t.1 ≤ z.1 ∧ t.2 ≤ z.2
    · exact .inl (h t ht hl)
    · refine .inr ?_
      rw [← Bool.not_eq_true, leq_iff]
      exact hl

/-- One step of the pass over a sorted list. -/
def scanStep (out : List (Int × Int)) (s : Int × Int) : List (Int × Int) :=
  match out.getLast? with
  | none => out ++ [s]
  | some l => if leqSt l.1 l.2 s.1 s.2 = true then out else out ++ [s]
/-- The pass over a sorted list. -/
def scanL (ys : List (Int × Int)) : List (Int × Int) := ys.foldl scanStep []

/-- What the pass has made of the stamps P that it has seen. -/
structure Scan (P out : List (Int × Int)) : Prop where
  sub : ∀ o ∈ out, o ∈ P
  asc : out.Pairwise ltS
  last : ∀ l, out.getLast? = some l → ∀ p ∈ P, l.2 ≤ p.2
  cover : ∀ p ∈ P, ∃ o ∈ out, o.1 ≤ p.1 ∧ o.2 ≤ p.2
  anti : ∀ a ∈ out, ∀ b ∈ out, a.1 ≤ b.1 → a.2 ≤ b.2 → a = b

theorem Scan.nil : Scan [] [] where
  sub := fun _ h => by cases h
  asc := List.Pairwise.nil
  last := fun _ h => by cases h
  cover := fun _ h => by cases h
  anti := fun _ h => by cases h

theorem Scan.step {P out : List (Int × Int)} (h : Scan P out) (s : Int × Int) (hs : ∀ p ∈ P, ¬ltS s p) : Scan (P ++ [s]) (scanStep out s) := by
  unfold scanStep
  cases hl : out.getLast? with
  | none =>
    obtain rfl : out = [] := List.getLast?_eq_none_iff.1 hl
    have hP : P = [] := by
      rcases P with _ | ⟨p, P⟩
      · rfl
      · obtain ⟨o, ho, _⟩ := h.cover p List.mem_cons_self
        cases ho
    subst hP
    simp only [List.nil_append]
    exact ⟨fun o ho => ho, List.pairwise_singleton _ _, fun l hl p hp => by
      simp only [List.getLast?_singleton, Option.some.injEq] at hl
      simp only [List.mem_singleton] at hp
      subst hl hp; exact Int.le_refl _, fun p hp => ⟨p, hp, Int.le_refl _, Int.le_refl _⟩, fun a ha b hb _ _ => by
      simp only [List.mem_singleton] at ha hb
      rw [ha, hb]⟩
  | some l =>
    have lm : l ∈ out := List.mem_of_getLast? hl
    have lP := h.sub l lm
    have ll := h.last l hl
    have ls := hs l lP
    dsimp only
    split
    · rename_i hq
      rw [leq_iff] at hq
      refine ⟨fun o ho => List.mem_append_left _ (h.sub o ho), h.asc, fun l' hl' p hp => ?_, fun p hp => ?_, h.anti⟩
      · rw [hl] at hl'
        obtain rfl : l = l' := Option.some.inj hl'
        rcases List.mem_append.1 hp with h1 | h1
        · exact ll p h1
        · obtain rfl : p = s := by simpa using h1
          exact hq.2
      · rcases List.mem_append.1 hp with h1 | h1
        · exact h.cover p h1
        · obtain rfl : p = s := by simpa using h1
          exact ⟨l, lm, hq⟩
    · rename_i hq
      rw [leq_iff] at hq
      have hlt : s.2 < l.2 := by
        unfold ltS at ls
        omega
      have ho : ∀ o ∈ out, ltS o s ∧ s.2 < o.2 := fun o hom => by
        have h1 := hs o (h.sub o hom)
        have h2 := ll o (h.sub o hom)
        unfold ltS at h1 ⊢
        omega
      refine ⟨fun o hom => ?_, ?_, fun l' hl' p hp => ?_, fun p hp => ?_, fun a ha b hb h1 h2 => ?_⟩
      · rcases List.mem_append.1 hom with h1 | h1
        · exact List.mem_append_left _ (h.sub o h1)
        · exact List.mem_append_right _ h1
      · rw [List.pairwise_append]
        refine ⟨h.asc, List.pairwise_singleton _ _, fun a ha b hb => ?_⟩
        obtain rfl : b = s := by simpa using hb
        exact (ho a ha).1
      · obtain rfl : s = l' := by simpa using hl'
        rcases List.mem_append.1 hp with h1 | h1
        · have := ll p h1; omega
        · obtain rfl : p = s := by simpa using h1
          exact Int.le_refl _
      · rcases List.mem_append.1 hp with h1 | h1
        · obtain ⟨o, h2, h3⟩ := h.cover p h1
          exact ⟨o, List.mem_append_left _ h2, h3⟩
        · obtain rfl : p = s := by simpa using h1
          exact ⟨p, List.mem_append_right _ (by simp), Int.le_refl _, Int.le_refl _⟩
      · rcases List.mem_append.1 ha with h3 | h3 <;> rcases List.mem_append.1 hb with h4 | h4
        · exact h.anti a h3 b h4 h1 h2
        · obtain rfl : b = s := by simpa using h4
          have := (ho a h3).2; omega
        · obtain rfl : a = s := by simpa using h3
          have h5 := ho b h4
          unfold ltS at h5
          omega
        · obtain rfl : a = s := by simpa using h3
          obtain rfl : b = a := by simpa using h4
          rfl

/-- Ascending, equal stamps allowed. -/
def Asc (ys : List (Int × Int)) : Prop := ys.Pairwise fun a b => ¬ltS b a

theorem scan_take {ys : List (Int × Int)} (h : Asc ys) : ∀ k, k ≤ ys.length → Scan (ys.take k) ((ys.take k).foldl scanStep [])
  | 0, _ => by simpa using Scan.nil
  | k + 1, hk => by
    rw [List.take_succ_eq_append_getElem (by omega), List.foldl_append]
    refine (scan_take h k (by omega)).step ys[k] fun p hp => ?_
    obtain ⟨i, hi, rfl⟩ := List.mem_take_iff_getElem.1 hp
    exact List.pairwise_iff_getElem.1 h i k (by omega) (by omega) (by omega)

theorem scan_all {ys : List (Int × Int)} (h : Asc ys) : Scan ys (scanL ys) := by
  have := scan_take h ys.length (Nat.le_refl _)
  rwa [List.take_length] at this

theorem scan_step {ys : List (Int × Int)} {k : Nat} (hk : k < ys.length) : (ys.take (k + 1)).foldl scanStep [] = scanStep ((ys.take k).foldl scanStep []) ys[k] := by
  rw [List.take_succ_eq_append_getElem hk, List.foldl_append]
  rfl

theorem scan_length : ∀ (ys out : List (Int × Int)), (ys.foldl scanStep out).length ≤ out.length + ys.length
  | [], out => by simp
  | y :: ys, out => by
    rw [List.foldl_cons]
    have h1 := scan_length ys (scanStep out y)
    have h2 : (scanStep out y).length ≤ out.length + 1 := by
      unfold scanStep
      split
      · simp
      · split
        · omega
        · simp
    simp only [List.length_cons]
    omega

/-- The pass over a sorted list gives Minimal of any list with the same stamps. -/
theorem scan_min {ys zs : List (Int × Int)} (h : Asc ys) (hp : ∀ z, z ∈ ys ↔ z ∈ zs) : scanL ys = minL zs := by
  have S := scan_all h
  refine sorted_ext _ _ S.asc (sorted_minL zs) fun z => ?_
  rw [mem_minL, least_iff]
  constructor
  · intro hz
    refine ⟨(hp z).1 (S.sub z hz), fun t ht hl => ?_⟩
    obtain ⟨o, ho, h1⟩ := S.cover t ((hp t).2 ht)
    obtain rfl := S.anti o ho z hz (by omega) (by omega)
    exact Prod.ext (by omega) (by omega)
  · rintro ⟨hz, hl⟩
    obtain ⟨o, ho, h1⟩ := S.cover z ((hp z).2 hz)
    obtain rfl := hl o ((hp o).1 (S.sub o ho)) h1
    exact ho

theorem asc_sort (zs : List (Int × Int)) : Asc (zs.mergeSort fun a b => !decide (ltS b a)) := by
  have h := List.pairwise_mergeSort (le := fun a b : Int × Int => !decide (ltS b a)) (fun a b c h1 h2 => by
    simp only [Bool.not_eq_true', decide_eq_false_iff_not] at *
    unfold ltS at *; omega) (fun a b => by
    simp only [Bool.or_eq_true, Bool.not_eq_true', decide_eq_false_iff_not]
    unfold ltS; omega) zs
  refine h.imp fun hab => ?_
  simpa using hab

/-- Each stamp of a list has one of Minimal's below it. -/
theorem min_cover (zs : List (Int × Int)) {p : Int × Int} (hp : p ∈ zs) : ∃ o ∈ minL zs, o.1 ≤ p.1 ∧ o.2 ≤ p.2 := by
  have hm : ∀ z, z ∈ (zs.mergeSort fun a b => !decide (ltS b a)) ↔ z ∈ zs := fun z => List.mem_mergeSort
  rw [← scan_min (asc_sort zs) hm]
  exact (scan_all (asc_sort zs)).cover p ((hm p).2 hp)

theorem minL_congr {zs ys : List (Int × Int)} (h : ∀ z, z ∈ zs ↔ z ∈ ys) : minL zs = minL ys := by
  refine sorted_ext _ _ (sorted_minL _) (sorted_minL _) fun z => ?_
  rw [mem_minL, mem_minL, least_iff, least_iff, h z]
  constructor
  · rintro ⟨h1, h2⟩; exact ⟨h1, fun t ht => h2 t ((h t).2 ht)⟩
  · rintro ⟨h1, h2⟩; exact ⟨h1, fun t ht => h2 t ((h t).1 ht)⟩

theorem minL_comm (a b : List (Int × Int)) : minL (b ++ a) = minL (a ++ b) := minL_congr fun z => by simp only [List.mem_append]; exact Or.comm

/-- A list between Minimal and the whole has the same Minimal. -/
theorem minL_between {zs ys : List (Int × Int)} (h1 : ∀ z ∈ minL zs, z ∈ ys) (h2 : ∀ z ∈ ys, z ∈ zs) : minL ys = minL zs := by
  refine sorted_ext _ _ (sorted_minL _) (sorted_minL _) fun z => ?_
  rw [mem_minL ys, least_iff]
  constructor
  · rintro ⟨hz, hl⟩
    obtain ⟨o, ho, h3⟩ := min_cover zs (h2 z hz)
    obtain rfl := hl o (h1 o ho) h3
    exact ho
  · intro hz
    have := (mem_minL zs z).1 hz
    rw [least_iff] at this
    exact ⟨h1 z hz, fun t ht => this.2 t (h2 t ht)⟩

theorem minL_sub {zs : List (Int × Int)} : ∀ z ∈ minL zs, z ∈ zs := fun z hz => ((mem_minL zs z).1 hz).1
theorem minL_minL (zs : List (Int × Int)) : minL (minL zs) = minL zs := minL_between (fun _ h => h) minL_sub
theorem minL_twice (zs : List (Int × Int)) : minL (minL zs ++ minL zs) = minL zs := minL_between (fun _ h => List.mem_append_left _ h) (fun z h => minL_sub z (by simpa using h))
theorem minL_again (a b : List (Int × Int)) : minL (minL (a ++ b) ++ a) = minL (a ++ b) :=
  minL_between (fun _ h => List.mem_append_left _ h) (fun z h => by
    rcases List.mem_append.1 h with h1 | h1
    · exact minL_sub z h1
    · exact List.mem_append_left _ h1)
theorem minL_pair : minL [(1, 0), (0, 1)] = [(0, 1), (1, 0)] := by decide +kernel
end Go.Proofs.Ythkkleicekhelaa.hexes
