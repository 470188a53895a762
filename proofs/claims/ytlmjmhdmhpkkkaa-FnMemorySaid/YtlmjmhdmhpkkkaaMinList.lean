/-
  Minimal as a function on lists: its answer is the one ascending list of the least stamps.
-/
import Derived.Test.YtlmjmhdmhpkkkaaStamps
namespace Go.Proofs.Ytlmjmhdmhpkkkaa.hexes

/-- Ascending StampOrder. -/
def ltS (a b : Int × Int) : Prop := a.1 < b.1 ∨ (a.1 = b.1 ∧ a.2 < b.2)
instance (a b : Int × Int) : Decidable (ltS a b) := by unfold ltS; infer_instance
theorem ord_lt (a b : Int × Int) : ordSt a.1 a.2 b.1 b.2 < 0 ↔ ltS a b := by
  unfold ordSt ordI ltS
  split <;> split <;> (first | omega | (split <;> omega))
theorem ltS_trans {a b c : Int × Int} (h : ltS a b) (k : ltS b c) : ltS a c := by unfold ltS at *; omega
theorem ltS_irrefl (a : Int × Int) : ¬ltS a a := by unfold ltS; omega
theorem ltS_cases (a b : Int × Int) : ltS a b ∨ a = b ∨ ltS b a := by
  obtain ⟨a1, a2⟩ := a
  obtain ⟨b1, b2⟩ := b
  unfold ltS
  simp only [Prod.mk.injEq]
  omega

/-- z put into an ascending list, once. -/
def insL : List (Int × Int) → Int × Int → List (Int × Int)
  | [], z => [z]
  | t :: out, z => if ltS t z then t :: insL out z else if t = z then t :: out else z :: t :: out

theorem mem_insL (out : List (Int × Int)) (z w : Int × Int) : w ∈ insL out z ↔ w ∈ out ∨ w = z := by
  induction out with
  | nil => simp [insL]
  | cons t out ih =>
    unfold insL
    split
    · simp only [List.mem_cons, ih]
      constructor
      · rintro (h | h | h)
        · exact .inl (.inl h)
        · exact .inl (.inr h)
        · exact .inr h
      · rintro ((h | h) | h)
        · exact .inl h
        · exact .inr (.inl h)
        · exact .inr (.inr h)
    · split
      · rename_i h
        constructor
        · exact .inl
        · rintro (h2 | rfl)
          · exact h2
          · rw [← h]; exact List.mem_cons_self
      · simp only [List.mem_cons]
        constructor
        · rintro (h | h | h)
          · exact .inr h
          · exact .inl (.inl h)
          · exact .inl (.inr h)
        · rintro ((h | h) | h)
          · exact .inr (.inl h)
          · exact .inr (.inr h)
          · exact .inl h

theorem sorted_insL (out : List (Int × Int)) (z : Int × Int) (h : out.Pairwise ltS) : (insL out z).Pairwise ltS := by
  induction out with
  | nil => simp [insL]
  | cons t out ih =>
    rw [List.pairwise_cons] at h
    unfold insL
    split
    · rename_i hlt
      rw [List.pairwise_cons]
      refine ⟨fun w hw => ?_, ih h.2⟩
      rcases (mem_insL out z w).1 hw with h1 | rfl
      · exact h.1 w h1
      · exact hlt
    · split
      · exact List.pairwise_cons.2 h
      · rename_i hn hne
        have hzt : ltS z t := by
          rcases ltS_cases z t with h1 | h1 | h1
          · exact h1
          · exact absurd h1.symm hne
          · exact absurd h1 hn
        rw [List.pairwise_cons]
        refine ⟨fun w hw => ?_, List.pairwise_cons.2 h⟩
        rcases List.mem_cons.1 hw with rfl | h1
        · exact hzt
        · exact ltS_trans hzt (h.1 w h1)

/-- Two ascending lists with the same stamps are one list. -/
theorem sorted_ext : ∀ (a b : List (Int × Int)), a.Pairwise ltS → b.Pairwise ltS → (∀ z, z ∈ a ↔ z ∈ b) → a = b
  | [], [], _, _, _ => rfl
  | [], t :: b, _, _, h => absurd ((h t).2 List.mem_cons_self) (by simp)
  | t :: a, [], _, _, h => absurd ((h t).1 List.mem_cons_self) (by simp)
  | s :: a, t :: b, ha, hb, h => by
    rw [List.pairwise_cons] at ha hb
    have hst : s = t := by
      rcases List.mem_cons.1 ((h s).1 List.mem_cons_self) with h1 | h1
      · exact h1
      · rcases List.mem_cons.1 ((h t).2 List.mem_cons_self) with h2 | h2
        · exact h2.symm
        · exact absurd (ltS_trans (hb.1 s h1) (ha.1 t h2)) (ltS_irrefl _)
    subst hst
    have hab : a = b := sorted_ext a b ha.2 hb.2 (fun z => by
      constructor
      · intro hz
        rcases List.mem_cons.1 ((h z).1 (List.mem_cons_of_mem _ hz)) with rfl | h1
        · exact absurd (ha.1 z hz) (ltS_irrefl _)
        · exact h1
      · intro hz
        rcases List.mem_cons.1 ((h z).2 (List.mem_cons_of_mem _ hz)) with rfl | h1
        · exact absurd (hb.1 z hz) (ltS_irrefl _)
        · exact h1)
    rw [hab]

/-- Whether no other stamp of the list is below z. -/
def leastB (zs : List (Int × Int)) (z : Int × Int) : Bool := zs.all fun t => decide (t = z) || !leqSt t.1 t.2 z.1 z.2
/-- One step of Minimal. -/
def minStep (zs out : List (Int × Int)) (z : Int × Int) : List (Int × Int) := if leastB zs z = true then insL out z else out
/-- Minimal. -/
def minL (zs : List (Int × Int)) : List (Int × Int) := zs.foldl (minStep zs) []

theorem fold_min (zs : List (Int × Int)) : ∀ (ys out : List (Int × Int)), out.Pairwise ltS → (ys.foldl (minStep zs) out).Pairwise ltS ∧ ∀ z, z ∈ ys.foldl (minStep zs) out ↔ z ∈ out ∨ (z ∈ ys ∧ leastB zs z = true)
  | [], out, h => ⟨h, fun z => by simp⟩
  | y :: ys, out, h => by
    rw [List.foldl_cons]
    have hs : (minStep zs out y).Pairwise ltS := by
      unfold minStep; split
      · exact sorted_insL _ _ h
      · exact h
    obtain ⟨h1, h2⟩ := fold_min zs ys (minStep zs out y) hs
    refine ⟨h1, fun z => ?_⟩
    rw [h2 z]
    unfold minStep
    split
    · rename_i hl
      rw [mem_insL]
      constructor
      · rintro ((h | rfl) | h)
        · exact .inl h
        · exact .inr ⟨List.mem_cons_self, hl⟩
        · exact .inr ⟨List.mem_cons_of_mem _ h.1, h.2⟩
      · rintro (h | ⟨h, k⟩)
        · exact .inl (.inl h)
        · rcases List.mem_cons.1 h with rfl | h
          · exact .inl (.inr rfl)
          · exact .inr ⟨h, k⟩
    · rename_i hl
      constructor
      · rintro (h | h)
        · exact .inl h
        · exact .inr ⟨List.mem_cons_of_mem _ h.1, h.2⟩
      · rintro (h | ⟨h, k⟩)
        · exact .inl h
        · rcases List.mem_cons.1 h with rfl | h
          · exact absurd k hl
          · exact .inr ⟨h, k⟩

theorem sorted_minL (zs : List (Int × Int)) : (minL zs).Pairwise ltS := (fold_min zs zs [] List.Pairwise.nil).1
theorem mem_minL (zs : List (Int × Int)) (z : Int × Int) : z ∈ minL zs ↔ z ∈ zs ∧ leastB zs z = true := by
  rw [minL, (fold_min zs zs [] List.Pairwise.nil).2 z]
  simp

/-- Where the place of z in an ascending list is found, and what is then put together. -/
theorem insL_at (z : Int × Int) : ∀ (out : List (Int × Int)) (j : Nat), j ≤ out.length → (∀ i, (h : i < out.length) → i < j → ltS out[i] z) → (∀ h : j < out.length, ¬ltS out[j] z) →
    insL out z = if out[j]? = some z then out else out.take j ++ z :: out.drop j
  | [], j, hj, _, _ => by
    obtain rfl : j = 0 := by simpa using hj
    simp [insL]
  | t :: out, 0, _, _, hs => by
    have h0 := hs (by simp)
    simp only [List.getElem_cons_zero] at h0
    unfold insL
    rw [if_neg h0]
    simp
  | t :: out, j + 1, hj, hb, hs => by
    have h0 := hb 0 (by simp) (by omega)
    simp only [List.getElem_cons_zero] at h0
    have ih := insL_at z out j (by simpa using hj) (fun i hi hij => by have := hb (i + 1) (by simpa using hi) (by omega); simpa using this) (fun h => by have := hs (by simpa using h); simpa using this)
    unfold insL
    rw [if_pos h0, ih]
    simp only [List.getElem?_cons_succ, List.take_succ_cons, List.drop_succ_cons, List.cons_append]
    split <;> rfl
theorem insL_length (out : List (Int × Int)) (z : Int × Int) : (insL out z).length ≤ out.length + 1 := by
  induction out with
  | nil => simp [insL]
  | cons t out ih =>
    unfold insL
    split
    · simp only [List.length_cons]; omega
    · split
      · simp
      · simp
theorem fold_length (zs : List (Int × Int)) : ∀ (ys out : List (Int × Int)), (ys.foldl (minStep zs) out).length ≤ out.length + ys.length
  | [], out => by simp
  | y :: ys, out => by
    rw [List.foldl_cons]
    have h1 := fold_length zs ys (minStep zs out y)
    have h2 : (minStep zs out y).length ≤ out.length + 1 := by
      unfold minStep; split
      · exact insL_length _ _
      · omega
    simp only [List.length_cons]
    omega
theorem fold_step {zs ys : List (Int × Int)} {k : Nat} (hk : k < ys.length) : (ys.take (k + 1)).foldl (minStep zs) [] = minStep zs ((ys.take k).foldl (minStep zs) []) ys[k] := by
  rw [List.take_succ_eq_append_getElem hk, List.foldl_append]
  rfl
end Go.Proofs.Ytlmjmhdmhpkkkaa.hexes
