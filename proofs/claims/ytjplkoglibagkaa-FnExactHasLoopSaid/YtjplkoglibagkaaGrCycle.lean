/-
  Cycles of a valid graph: each holds a feedback edge, and that leads to a stateful operator.
-/
import Derived.Test.YtjplkoglibagkaaGrReach
namespace Go.Proofs.Ytjplkoglibagkaa.hexes

/-- Edges rise, but those of OpBack, which lead to OpMin or OpNew. -/
def Rises (gs : List Nd) : Prop := ∀ a t, t ∈ outsAt gs a → (kindAt gs a = 7 ∧ (kindAt gs t = 5 ∨ kindAt gs t = 6)) ∨ (kindAt gs a ≠ 7 ∧ a < t)

theorem outsAt_mem {gs : List Nd} {a t : Int} (h : t ∈ outsAt gs a) : ∃ j, ∃ hj : j < gs.length, a = (j : Int) ∧ t ∈ gs[j].2.2.2 := by
  unfold outsAt at h
  split at h
  · rename_i h0
    rcases hq : gs[a.toNat]? with _ | x
    · rw [hq] at h; simp at h
    · rw [hq] at h
      obtain ⟨hj, hx⟩ := List.getElem?_eq_some_iff.1 hq
      exact ⟨a.toNat, hj, by omega, by rw [hx]; exact h⟩
  · simp at h

theorem okGr_node {gs : List Nd} {d : Int → Int} {wk cp : Int} (h : okGr gs d wk cp = true) (j : Nat) (hj : j < gs.length) : nodeB gs d j gs[j] = true := by
  unfold okGr at h
  simp only [Bool.and_eq_true] at h
  have ha := h.2
  unfold allB at ha
  rw [List.all_eq_true] at ha
  have := ha j (by simpa using hj)
  rw [List.getElem?_eq_getElem hj] at this
  exact this

theorem rises_of {gs : List Nd} {d : Int → Int} {wk cp : Int} (h : okGr gs d wk cp = true) : Rises gs := by
  intro a t ht
  obtain ⟨j, hj, rfl, hm⟩ := outsAt_mem ht
  have hn := okGr_node h j hj
  unfold nodeB at hn
  simp only [Bool.and_eq_true] at hn
  have he := List.all_eq_true.1 hn.2 t hm
  rw [kindAt_of rfl hj]
  unfold edgeB at he
  simp only [Bool.and_eq_true] at he
  have he2 := he.2
  split at he2
  · rename_i hk
    simp only [Bool.and_eq_true, Bool.or_eq_true, beq_iff_eq] at he2
    exact .inl ⟨hk, he2.2⟩
  · rename_i hk
    exact .inr ⟨hk, of_decide_eq_true he2⟩

theorem path_trans {gs : List Nd} {a m t : Int} (h1 : Path gs a m) (h2 : Path gs m t) : Path gs a t := by
  induction h2 with
  | edge h => exact .step h1 h
  | step _ h ih => exact .step ih h

/-- A path rises, or it goes along a feedback edge. -/
theorem path_back {gs : List Nd} (hr : Rises gs) {a t : Int} (h : Path gs a t) :
    a < t ∨ ∃ m x, (m = a ∨ Path gs a m) ∧ kindAt gs m = 7 ∧ x ∈ outsAt gs m ∧ (kindAt gs x = 5 ∨ kindAt gs x = 6) ∧ (x = t ∨ Path gs x t) := by
  induction h with
  | edge h =>
    rcases hr _ _ h with ⟨hk, hg⟩ | ⟨_, hlt⟩
    · exact .inr ⟨_, _, .inl rfl, hk, h, hg, .inl rfl⟩
    · exact .inl hlt
  | step hp h ih =>
    rcases ih with hlt | ⟨m, x, hm, hk, hx, hg, hxt⟩
    · rcases hr _ _ h with ⟨hk, hg⟩ | ⟨_, hlt2⟩
      · exact .inr ⟨_, _, .inr hp, hk, h, hg, .inl rfl⟩
      · exact .inl (by omega)
    · refine .inr ⟨m, x, hm, hk, hx, hg, .inr ?_⟩
      rcases hxt with rfl | hxt
      · exact .edge h
      · exact .step hxt h

/-- A cycle holds a feedback edge whose end is stateful and lies on the cycle. -/
theorem cycle_gate {gs : List Nd} (hr : Rises gs) {k : Int} (h : Path gs k k) :
    ∃ m x, kindAt gs m = 7 ∧ x ∈ outsAt gs m ∧ (kindAt gs x = 5 ∨ kindAt gs x = 6) ∧ (x = k ∨ (Path gs k x ∧ Path gs x k)) := by
  rcases path_back hr h with hlt | ⟨m, x, hm, hk, hx, hg, hxt⟩
  · omega
  · refine ⟨m, x, hk, hx, hg, ?_⟩
    rcases hxt with rfl | hxt
    · exact .inl rfl
    · refine .inr ⟨?_, hxt⟩
      rcases hm with rfl | hm
      · exact .edge hx
      · exact .step hm hx

noncomputable def reachB (gs : List Nd) (a t : Int) : Bool := @decide (Path gs a t) (Classical.propDecidable _)
theorem reachB_iff {gs : List Nd} {a t : Int} : reachB gs a t = true ↔ Path gs a t := by
  unfold reachB
  rw [@decide_eq_true_iff _ (Classical.propDecidable _)]
theorem reachB_is {gs : List Nd} {a t : Int} {b : Bool} (h : b = true ↔ Path gs a t) : reachB gs a t = b := by
  rw [Bool.eq_iff_iff, reachB_iff, h]

end Go.Proofs.Ytjplkoglibagkaa.hexes
