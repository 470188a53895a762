/-
  What can be reached in a graph.
-/
import Derived.Test.YtjplkoglibagkaaGrList
namespace Go.Proofs.Ytjplkoglibagkaa.hexes

/-- The successors of the node of a number. -/
def outsAt (gs : List Nd) (t : Int) : List Int := if 0 ≤ t then (match gs[t.toNat]? with | some x => x.2.2.2 | none => []) else []

theorem outsAt_of {gs : List Nd} {t : Int} {j : Nat} (ht : t = (j : Int)) (hj : j < gs.length) : outsAt gs t = gs[j].2.2.2 := by
  subst ht
  unfold outsAt
  rw [if_pos (by omega), Int.toNat_natCast, List.getElem?_eq_getElem hj]

/-- There is a path of at least one edge. -/
inductive Path (gs : List Nd) : Int → Int → Prop
  | edge {a t : Int} : t ∈ outsAt gs a → Path gs a t
  | step {a m t : Int} : Path gs a m → t ∈ outsAt gs m → Path gs a t

/-- A set that holds the successors of a, and those of each that it holds, holds all that a reaches. -/
theorem path_in {gs : List Nd} {a t : Int} {S : List Int} (h0 : ∀ x ∈ outsAt gs a, x ∈ S) (h1 : ∀ m ∈ S, ∀ x ∈ outsAt gs m, x ∈ S) (h : Path gs a t) : t ∈ S := by
  induction h with
  | edge h => exact h0 _ h
  | step _ h ih => exact h1 _ ih _ h

/-- What a worklist keeps: only reached nodes, the first successors, and those of each node that was taken. -/
structure Reached (gs : List Nd) (a : Int) (i : Nat) (S : List Int) : Prop where
  only : ∀ x ∈ S, Path gs a x
  first : ∀ x ∈ outsAt gs a, x ∈ S
  taken : ∀ j (hj : j < S.length), j < i → ∀ x ∈ outsAt gs S[j], x ∈ S

theorem reached_start (gs : List Nd) (a : Int) : Reached gs a 0 (outsAt gs a) :=
  ⟨fun _ h => .edge h, fun _ h => h, fun _ _ h => absurd h (Nat.not_lt_zero _)⟩

theorem reached_end {gs : List Nd} {a : Int} {i : Nat} {S : List Int} (h : Reached gs a i S) (hi : S.length ≤ i) (t : Int) : t ∈ S ↔ Path gs a t := by
  refine ⟨h.only t, fun hp => path_in h.first (fun m hm x hx => ?_) hp⟩
  obtain ⟨j, hj, rfl⟩ := List.getElem_of_mem hm
  exact h.taken j hj (by omega) x hx

/-- One more node put behind. -/
theorem reached_put {gs : List Nd} {a : Int} {i : Nat} {S : List Int} {x : Int} (h : Reached gs a i S) (hi : i ≤ S.length) (hx : Path gs a x) : Reached gs a i (S ++ [x]) := by
  refine ⟨fun y hy => ?_, fun y hy => List.mem_append_left _ (h.first y hy), fun j hj hji y hy => ?_⟩
  · rcases List.mem_append.1 hy with hy | hy
    · exact h.only y hy
    · obtain rfl : y = x := by simpa using hy
      exact hx
  · have hl : j < S.length := by omega
    rw [List.getElem_append_left hl] at hy
    exact List.mem_append_left _ (h.taken j hl hji y hy)

/-- The i-th node is taken. -/
theorem reached_take {gs : List Nd} {a : Int} {i : Nat} {S : List Int} (h : Reached gs a i S) (hi : i < S.length) (hs : ∀ x ∈ outsAt gs S[i], x ∈ S) : Reached gs a (i + 1) S := by
  refine ⟨h.only, h.first, fun j hj hji y hy => ?_⟩
  by_cases e : j = i
  · subst e
    exact hs y hy
  · exact h.taken j hj (by omega) y hy

theorem nodup_bound (n : Nat) : ∀ (S : List Int), S.Nodup → (∀ x ∈ S, 0 ≤ x ∧ x < (n : Int)) → S.length ≤ n := by
  induction n with
  | zero =>
    intro S _ h
    cases S with
    | nil => simp
    | cons x S => have := h x (by simp); omega
  | succ n ih =>
    intro S hS h
    by_cases hm : (n : Int) ∈ S
    · have h1 := ih (S.erase (n : Int)) (hS.erase _) (fun x hx => by
        have hx2 := (List.Nodup.mem_erase_iff hS).1 hx
        have := h x hx2.2
        have := hx2.1
        omega)
      rw [List.length_erase_of_mem hm] at h1
      omega
    · have h1 := ih S hS (fun x hx => by
        have := h x hx
        have : x ≠ (n : Int) := fun e => hm (e ▸ hx)
        omega)
      omega

end Go.Proofs.Ytjplkoglibagkaa.hexes
