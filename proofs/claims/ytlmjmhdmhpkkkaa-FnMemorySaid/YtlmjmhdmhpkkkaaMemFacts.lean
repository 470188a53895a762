/-
  What FnMemory's last lines go by: the least of a key is kept, what was met goes on once, order is kept; the contracts of chapter 9 in the drawn law's words.
-/
import Derived.Test.YtlmjmhdmhpkkkaaDrawCe2
import Derived.Test.YtlmjmhdmhpkkkaaSpecRec
import Derived.Test.YtlmjmhdmhpkkkaaImplRec
namespace Go.Proofs.Ytlmjmhdmhpkkkaa.hexes
open Go.RowKit

def remB (k : Int) : Bool := decide (k = 5 ∨ k = 6 ∨ k = 8)
set_option maxRecDepth 100000 in
theorem specRem_any (k : Int) (w : World) :
    Calls Try.prog 31 #[.int .i64 k] w fun e w' => e = .returned (.bool (remB k)) ∧ Below w.heap.size w w' := by
  by_cases h5 : k = 5
  · subst h5
    go_enter Try.func31, Try.ntmps31
    go_wp2
    go_ret
    exact ⟨rfl, Below.refl _ _⟩
  by_cases h6 : k = 6
  · subst h6
    go_enter Try.func31, Try.ntmps31
    go_wp2
    go_ret
    exact ⟨rfl, Below.refl _ _⟩
  by_cases h8 : k = 8
  · subst h8
    go_enter Try.func31, Try.ntmps31
    go_wp2
    go_ret
    exact ⟨rfl, Below.refl _ _⟩
  have hr : remB k = false := by simp [remB, h5, h6, h8]
  have d5 : (k == 5) = false := by simpa using h5
  have d6 : (k == 6) = false := by simpa using h6
  have d8 : (k == 8) = false := by simpa using h8
  rw [hr]
  clear hr h5 h6 h8
  go_enter Try.func31, Try.ntmps31
  go_wp2
  go_ret
  exact ⟨rfl, Below.refl _ _⟩
theorem specRem_is {k : Int} {b : Bool} (h : remB k = b) (w : World) : Calls Try.prog 31 #[.int .i64 k] w fun e w' => e = .returned (.bool b) ∧ Below w.heap.size w w' := by
  subst h; exact specRem_any k w

theorem keyC_self (x : Ce) : keyC x.1 x.2.1 x.2.2.1 x = true := by simp [keyC]
/-- A list that holds x has a least value for x's key, and it is not above x's. -/
theorem least_mem {zs : List Ce} {x : Ce} (h : x ∈ zs) : (leastC zs x.1 x.2.1 x.2.2.1).2 = true ∧ (leastC zs x.1 x.2.1 x.2.2.1).1 ≤ x.2.2.2 := by
  obtain ⟨h1, h2⟩ := least_is zs x.1 x.2.1 x.2.2.1
  cases hs : (leastC zs x.1 x.2.1 x.2.2.1).2 with
  | false => exact absurd (h1 hs x h) (by rw [keyC_self]; decide)
  | true => exact ⟨rfl, (h2 hs).2 x h (keyC_self x)⟩
theorem rec_least {kd : Int} (zs : List Ce) (x : Ce) (hk : remB kd = true) : (leastC (recC kd zs x).1 x.1 x.2.1 x.2.2.1).2 = true ∧ (leastC (recC kd zs x).1 x.1 x.2.1 x.2.2.1).1 ≤ x.2.2.2 := by
  have hk' : kd = 5 ∨ kd = 6 ∨ kd = 8 := of_decide_eq_true hk
  have hl : (leastC (recL zs x).1 x.1 x.2.1 x.2.2.1).2 = true ∧ (leastC (recL zs x).1 x.1 x.2.1 x.2.2.1).1 ≤ x.2.2.2 := by
    unfold recL
    split
    · rename_i h; exact h
    · exact least_mem ((put_mem _ _ _).2 (.inl rfl))
  rcases hk' with rfl | rfl | rfl
  · simpa [recC] using hl
  · unfold recC
    rw [if_pos rfl]
    split
    · rename_i h; exact least_mem (of_decide_eq_true h)
    · exact least_mem ((put_mem _ _ _).2 (.inl rfl))
  · simpa [recC] using hl
theorem rec_again {kd : Int} (zs : List Ce) (x : Ce) (hk : remB kd = true) : recC kd (recC kd zs x).1 x = ((recC kd zs x).1, false) := by
  have hl := rec_least zs x hk
  have hk' : kd = 5 ∨ kd = 6 ∨ kd = 8 := of_decide_eq_true hk
  obtain ⟨us, hus⟩ : ∃ us, (recC kd zs x).1 = us := ⟨_, rfl⟩
  rw [hus] at hl ⊢
  rcases hk' with rfl | rfl | rfl
  · simp [recC, recL, hl]
  · have hm : hasC us x = true := by
      rw [← hus]
      unfold recC
      rw [if_pos rfl]
      split
      · rename_i h; exact h
      · exact hasC_put zs x
    simp [recC, hm]
  · simp [recC, recL, hl]
theorem rec_ok {kd : Int} {zs : List Ce} (x : Ce) (h : okCes zs = true) : okCes (recC kd zs x).1 = true := by
  have ha : AscE zs := of_decide_eq_true h
  have hd : AscE (delC zs x) := List.Pairwise.filter _ ha
  have hl : AscE (recL zs x).1 := by
    unfold recL
    split
    · exact ha
    · exact put_asc x hd
  refine decide_eq_true ?_
  unfold recC
  split
  · split
    · exact ha
    · exact put_asc x ha
  · split
    · exact hl
    · exact ha

/-! The contracts in the drawn law's words. -/

/-- How a function ends that answers a list and a bool. -/
def EsEnd2 (w : World) (us : List Ce) (m : Nat) (b : Bool) (e : Ending) (w' : World) : Prop := ∃ A c, e = .returned (.tuple #[.slice A m c, .bool b]) ∧ ETab w' A m c us ∧ Below w.heap.size w w'
/-- How a function ends that answers a list. -/
def EsEnd (w : World) (us : List Ce) (m : Nat) (e : Ending) (w' : World) : Prop := ∃ A c, e = .returned (.slice A m c) ∧ ETab w' A m c us ∧ Below w.heap.size w w'

variable {w : World} {A A' : Option Addr} {n c n' c' m : Nat} {zs us : List Ce} {x0 x1 x2 x3 : Int}

theorem recI_tab {kd : Int} {b : Bool} (h : ETab w A n c zs) (hr : recC kd zs (x0, x1, x2, x3) = (us, b)) (hm : us.length = m) (hf : m ≤ 64) : Calls Try.prog 13 #[.int .i64 kd, .slice A n c, .agg #[.int .i64 x0, .int .i64 x1, .int .i64 x2, .int .i64 x3]] w (EsEnd2 w us m b) := by
  subst hm
  refine (implRec_any kd n zs h.len A c h.nil h.cap x0 x1 x2 x3 w h.ces (by have := h.few; omega)).mono ?_
  rintro e w' ⟨v, he, ho, hb⟩
  rw [hr] at he ho
  obtain ⟨A', c', rfl, _, _⟩ := Ces.of_own ho
  exact ⟨A', c', he, ETab.of_own ho hf, hb⟩
theorem recS_tab {kd : Int} {b : Bool} (h : ETab w A n c zs) (hr : recC kd zs (x0, x1, x2, x3) = (us, b)) (hm : us.length = m) (hf : m ≤ 64) : Calls Try.prog 14 #[.int .i64 kd, .slice A n c, .agg #[.int .i64 x0, .int .i64 x1, .int .i64 x2, .int .i64 x3]] w (EsEnd2 w us m b) := by
  subst hm
  refine (specRec_any kd n zs h.len A c h.nil h.cap x0 x1 x2 x3 w h.ces (by have := h.few; omega)).mono ?_
  rintro e w' ⟨v, he, ho, hb⟩
  rw [hr] at he ho
  obtain ⟨A', c', rfl, _, _⟩ := Ces.of_own ho
  exact ⟨A', c', he, ETab.of_own ho hf, hb⟩
theorem putI_tab (h : ETab w A n c zs) (hr : putC zs (x0, x1, x2, x3) = us) (hm : us.length = m) (hf : m ≤ 64) : Calls Try.prog 19 #[.slice A n c, .agg #[.int .i64 x0, .int .i64 x1, .int .i64 x2, .int .i64 x3]] w (EsEnd w us m) := by
  subst hm
  refine (implPut_any n zs h.len A c h.nil h.cap x0 x1 x2 x3 w h.ces (by have := h.few; omega)).mono ?_
  rintro e w' ⟨v, he, ho, hb⟩
  rw [hr] at ho
  obtain ⟨A', c', rfl, _, _⟩ := Ces.of_own ho
  exact ⟨A', c', he, ETab.of_own ho hf, hb⟩
theorem putS_tab (h : ETab w A n c zs) (hr : putC zs (x0, x1, x2, x3) = us) (hm : us.length = m) (hf : m ≤ 64) : Calls Try.prog 25 #[.slice A n c, .agg #[.int .i64 x0, .int .i64 x1, .int .i64 x2, .int .i64 x3]] w (EsEnd w us m) := by
  subst hm
  refine (specPut_any n zs h.len A c h.nil h.cap x0 x1 x2 x3 w h.ces (by have := h.few; omega)).mono ?_
  rintro e w' ⟨v, he, ho, hb⟩
  rw [hr] at ho
  obtain ⟨A', c', rfl, _, _⟩ := Ces.of_own ho
  exact ⟨A', c', he, ETab.of_own ho hf, hb⟩
theorem ofI_tab {o ep : Int} (h : ETab w A n c zs) (hr : ofC zs o ep = us) (hm : us.length = m) (hf : m ≤ 64) : Calls Try.prog 27 #[.slice A n c, .int .i64 o, .int .i64 ep] w (EsEnd w us m) := by
  subst hm
  refine (implOf_any n zs h.len A c o ep w h.ces (by have := h.few; omega)).mono ?_
  rintro e w' ⟨v, he, ho, hb⟩
  rw [hr] at ho
  obtain ⟨A', c', rfl, _, _⟩ := Ces.of_own ho
  exact ⟨A', c', he, ETab.of_own ho hf, hb⟩
theorem ofS_tab {o ep : Int} (h : ETab w A n c zs) (hr : ofC zs o ep = us) (hm : us.length = m) (hf : m ≤ 64) : Calls Try.prog 28 #[.slice A n c, .int .i64 o, .int .i64 ep] w (EsEnd w us m) := by
  subst hm
  refine (specOf_any n zs h.len A c o ep w h.ces (by have := h.few; omega)).mono ?_
  rintro e w' ⟨v, he, ho, hb⟩
  rw [hr] at ho
  obtain ⟨A', c', rfl, _, _⟩ := Ces.of_own ho
  exact ⟨A', c', he, ETab.of_own ho hf, hb⟩
theorem same_tab (h : ETab w A n c zs) (h' : ETab w A' n c' zs) : Calls Try.prog 15 #[.slice A n c, .slice A' n c'] w fun e w' => e = .returned (.bool true) ∧ Below w.heap.size w w' := by
  have := ceSame_any n n zs zs h.len h'.len A A' c c' w h.ces h'.ces (by have := h.few; omega)
  rwa [decide_eq_true (rfl : zs = zs)] at this
theorem okI_tab {b : Bool} (h : ETab w A n c zs) (hr : okCes zs = b) : Calls Try.prog 16 #[.slice A n c] w fun e w' => e = .returned (.bool b) ∧ Below w.heap.size w w' := by
  subst hr; exact implCesOk_any n zs h.len A c w h.ces (by have := h.few; omega)
theorem okS_tab {b : Bool} (h : ETab w A n c zs) (hr : okCes zs = b) : Calls Try.prog 17 #[.slice A n c] w fun e w' => e = .returned (.bool b) ∧ Below w.heap.size w w' := by
  subst hr; exact specCesOk_any n zs h.len A c w h.ces (by have := h.few; omega)
theorem hasI_tab {b : Bool} (h : ETab w A n c zs) (hr : hasC zs (x0, x1, x2, x3) = b) : Calls Try.prog 26 #[.slice A n c, .agg #[.int .i64 x0, .int .i64 x1, .int .i64 x2, .int .i64 x3]] w fun e w' => e = .returned (.bool b) ∧ Below w.heap.size w w' := by
  subst hr; exact implHas_any n zs h.len A c x0 x1 x2 x3 w h.ces (by have := h.few; omega)
theorem leastI_tab {o ep ky l : Int} {b : Bool} (h : ETab w A n c zs) (hr : leastC zs o ep ky = (l, b)) : Calls Try.prog 21 #[.slice A n c, .int .i64 o, .int .i64 ep, .int .i64 ky] w fun e w' => e = .returned (.tuple #[.int .i64 l, .bool b]) ∧ Below w.heap.size w w' := by
  have := implLeast_any n zs h.len A c o ep ky w h.ces (by have := h.few; omega)
  rwa [hr] at this
theorem leastS_tab {o ep ky l : Int} {b : Bool} (h : ETab w A n c zs) (hr : leastC zs o ep ky = (l, b)) : Calls Try.prog 22 #[.slice A n c, .int .i64 o, .int .i64 ep, .int .i64 ky] w fun e w' => e = .returned (.tuple #[.int .i64 l, .bool b]) ∧ Below w.heap.size w w' := by
  have := specLeast_any n zs h.len A c o ep ky w h.ces (by have := h.few; omega)
  rwa [hr] at this
theorem nil_tab (w : World) : ETab w none 0 0 [] := ⟨by omega, rfl, (fun _ => rfl), Nat.le_refl _, fun h => absurd h (by simp)⟩
theorem put_nil : putC [] (0, 0, 0, 0) = [(0, 0, 0, 0)] := by decide
end Go.Proofs.Ytlmjmhdmhpkkkaa.hexes
