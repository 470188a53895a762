/-
  Cells as lists: the order of cells, lists in order, a cell put in, the least value of a key, what Recall answers, the cells of one operator and epoch.
-/
import Derived.Test.YtbbagpnjjjohpaaJ0

namespace Go.Proofs.Ytbbagpnjjjohpaa.hexes
open Go.RowKit

/-- A cell: operator, epoch, key, value. -/
abbrev Ce := Int × Int × Int × Int

/-- a comes ahead of b. -/
def ltE (a b : Ce) : Prop := a.2.1 < b.2.1 ∨ (a.2.1 = b.2.1 ∧ (a.1 < b.1 ∨ (a.1 = b.1 ∧ (a.2.2.1 < b.2.2.1 ∨ (a.2.2.1 = b.2.2.1 ∧ a.2.2.2 < b.2.2.2)))))
instance (a b : Ce) : Decidable (ltE a b) := by unfold ltE; infer_instance

/-- In order, each once. -/
def AscE (zs : List Ce) : Prop := zs.Pairwise ltE
instance (zs : List Ce) : Decidable (AscE zs) := by unfold AscE; infer_instance

/-- What HasCell answers. -/
def hasC (zs : List Ce) (x : Ce) : Bool := decide (x ∈ zs)

/-- What PutCell answers. -/
def putC (zs : List Ce) (x : Ce) : List Ce := if hasC zs x = true then zs else zs.takeWhile (fun z => decide (ltE z x)) ++ x :: zs.dropWhile (fun z => decide (ltE z x))
theorem put_mem (zs : List Ce) (x y : Ce) : y ∈ putC zs x ↔ y = x ∨ y ∈ zs := by
  unfold putC
  split
  · rename_i h
    have h' : x ∈ zs := of_decide_eq_true h
    exact ⟨.inr, fun o => o.elim (fun e => e ▸ h') id⟩
  · have e := List.takeWhile_append_dropWhile (p := fun z => decide (ltE z x)) (l := zs)
    have : y ∈ zs ↔ y ∈ zs.takeWhile (fun z => decide (ltE z x)) ∨ y ∈ zs.dropWhile (fun z => decide (ltE z x)) := by rw [← List.mem_append, e]
    rw [this]
    simp only [List.mem_append, List.mem_cons]
    constructor
    · rintro (h | h | h)
      · exact .inr (.inl h)
      · exact .inl h
      · exact .inr (.inr h)
    · rintro (h | h | h)
      · exact .inr (.inl h)
      · exact .inl h
      · exact .inr (.inr h)
theorem put_len (zs : List Ce) (x : Ce) : (putC zs x).length ≤ zs.length + 1 := by
  unfold putC
  split
  · omega
  · have e := congrArg List.length (List.takeWhile_append_dropWhile (p := fun z => decide (ltE z x)) (l := zs))
    simp only [List.length_append, List.length_cons] at e ⊢
    omega

/-- Whether a cell is of that operator, epoch and key. -/
def keyC (o e k : Int) (z : Ce) : Bool := decide (z.1 = o ∧ z.2.1 = e ∧ z.2.2.1 = k)
/-- One more cell looked at. -/
def leastStep (o e k : Int) (m : Int × Bool) (z : Ce) : Int × Bool := if keyC o e k z = true ∧ (m.2 = false ∨ z.2.2.2 < m.1) then (z.2.2.2, true) else m
/-- What LeastOf answers. -/
def leastC (zs : List Ce) (o e k : Int) : Int × Bool := zs.foldl (leastStep o e k) (0, false)
/-- The least of the cells met. -/
def LeastIs (zs : List Ce) (o e k : Int) (m : Int × Bool) : Prop :=
  (m.2 = false → ∀ z ∈ zs, keyC o e k z = false) ∧ (m.2 = true → (∃ z ∈ zs, keyC o e k z = true ∧ z.2.2.2 = m.1) ∧ ∀ z ∈ zs, keyC o e k z = true → m.1 ≤ z.2.2.2)
theorem least_is (zs : List Ce) (o e k : Int) : LeastIs zs o e k (leastC zs o e k) := by
  have key : ∀ (ys xs : List Ce) (m : Int × Bool), LeastIs xs o e k m → LeastIs (xs ++ ys) o e k (ys.foldl (leastStep o e k) m) := by
    intro ys
    induction ys with
    | nil => intro xs m h; simpa using h
    | cons y ys ih =>
      intro xs m h
      have := ih (xs ++ [y]) (leastStep o e k m y) (by
        unfold leastStep
        split
        · rename_i hc
          refine ⟨(fun h' => by cases h'), fun _ => ⟨⟨y, by simp, hc.1, rfl⟩, fun z hz hk => ?_⟩⟩
          rcases List.mem_append.1 hz with hz' | hz'
          · rcases hc.2 with h0 | h0
            · exact absurd hk (by rw [h.1 h0 z hz']; decide)
            · cases hm : m.2 with
              | false => exact absurd hk (by rw [h.1 hm z hz']; decide)
              | true => have := (h.2 hm).2 z hz' hk; simp only; omega
          · obtain rfl : z = y := by simpa using hz'
            exact Int.le_refl _
        · rename_i hc
          refine ⟨fun h' z hz => ?_, fun h' => ⟨?_, fun z hz hk => ?_⟩⟩
          · rcases List.mem_append.1 hz with hz' | hz'
            · exact h.1 h' z hz'
            · obtain rfl : z = y := by simpa using hz'
              cases hk : keyC o e k z with
              | false => rfl
              | true => exact absurd ⟨hk, .inl h'⟩ hc
          · obtain ⟨z, hz, h1, h2⟩ := (h.2 h').1
            exact ⟨z, by simp [hz], h1, h2⟩
          · rcases List.mem_append.1 hz with hz' | hz'
            · exact (h.2 h').2 z hz' hk
            · obtain rfl : z = y := by simpa using hz'
              rcases Int.lt_or_le z.2.2.2 m.1 with h1 | h1
              · exact absurd ⟨hk, .inr h1⟩ hc
              · exact h1)
      simpa using this
  exact key zs [] (0, false) ⟨fun _ z hz => by simp at hz, fun h => by cases h⟩

/-- The cells of another operator, epoch or key. -/
def delC (zs : List Ce) (x : Ce) : List Ce := zs.filter fun z => !keyC x.1 x.2.1 x.2.2.1 z
theorem del_len (zs : List Ce) (x : Ce) : (delC zs x).length ≤ zs.length := List.length_filter_le _ _

/-- What Recall answers where the least is kept. -/
def recL (zs : List Ce) (x : Ce) : List Ce × Bool :=
  if (leastC zs x.1 x.2.1 x.2.2.1).2 = true ∧ (leastC zs x.1 x.2.1 x.2.2.1).1 ≤ x.2.2.2 then (zs, false) else (putC (delC zs x) x, true)
/-- What Recall answers. -/
def recC (kind : Int) (zs : List Ce) (x : Ce) : List Ce × Bool :=
  if kind = 6 then (if hasC zs x = true then (zs, false) else (putC zs x, true))
  else if kind = 5 ∨ kind = 8 then recL zs x
  else (zs, true)
theorem recC_len (kind : Int) (zs : List Ce) (x : Ce) : (recC kind zs x).1.length ≤ zs.length + 1 := by
  unfold recC recL
  have h1 := put_len zs x
  have h2 := put_len (delC zs x) x
  have h3 := del_len zs x
  split
  · split
    · simp
    · exact h1
  · split
    · split
      · simp
      · simp only; omega
    · simp
end Go.Proofs.Ytbbagpnjjjohpaa.hexes

