/-
  Chapter 3's functions on lists of stamps, in the words that the drawn laws go by.
-/
import Derived.Test.YtjnmpcfclkahlaaImplMerge
import Derived.Test.YtjnmpcfclkahlaaDrawFront
import Derived.Test.YtjnmpcfclkahlaaCame
namespace Go.Proofs.Ytjnmpcfclkahlaa.hexes
open Go.RowKit

/-- A list of stamps, not long. -/
structure Lst (w : World) (A : Option Addr) (n c : Nat) (zs : List (Int × Int)) : Prop where
  few : n ≤ 1000
  len : zs.length = n
  nil : A = none → c = 0
  sts : Sts w A zs

theorem Lst.below {w w' : World} {A : Option Addr} {n c : Nat} {zs : List (Int × Int)} (h : Lst w A n c zs) (hb : Below w.heap.size w w') : Lst w' A n c zs := ⟨h.few, h.len, h.nil, h.sts.below hb⟩
theorem lst_drew {w : World} {A : Option Addr} {n c : Nat} {zs : List (Int × Int)} (h : Lst w A n c zs) : Lst w.drew A n c zs := ⟨h.few, h.len, h.nil, h.sts⟩
theorem Drawn.lst {w : World} {A : Option Addr} {n c : Nat} {zs : List (Int × Int)} (h : Drawn w A n c zs) : Lst w A n c zs := ⟨by have := h.few; omega, h.len, h.nil, h.sts⟩
theorem Lst.of_own {w : World} {B n : Nat} {v : Value} {zs : List (Int × Int)} (h : w.ownsRow B 32 2 v n (stCells zs)) (hn : n ≤ 1000) : ∃ A n' c, v = .slice A n' c ∧ Lst w A n' c zs := by
  obtain ⟨A, c, rfl, hl, hs⟩ := Sts.of_own h
  exact ⟨A, n, c, rfl, hn, hl, own_nil h, hs⟩

/-- How a function ends whose answer is the list us. -/
def LstEnd (w : World) (us : List (Int × Int)) (e : Ending) (w' : World) : Prop := ∃ A n c, e = .returned (.slice A n c) ∧ Lst w' A n c us ∧ Below w.heap.size w w'

theorem implMin_lst {w : World} {A : Option Addr} {n c : Nat} {zs us : List (Int × Int)} (h : Lst w A n c zs) (hu : minL zs = us) : Calls Try.prog 15 #[.slice A n c] w (LstEnd w us) := by
  subst hu
  refine (implMin_any n zs h.len A c h.nil w h.sts (by have := h.few; omega)).mono ?_
  rintro e w' ⟨v, rfl, ho, hb⟩
  obtain ⟨A', n', c', rfl, hl⟩ := Lst.of_own ho (by have := minL_length zs; have := h.len; have := h.few; omega)
  exact ⟨A', n', c', rfl, hl, hb⟩

theorem specMin_lst {w : World} {A : Option Addr} {n c : Nat} {zs us : List (Int × Int)} (h : Lst w A n c zs) (hu : minL zs = us) : Calls Try.prog 18 #[.slice A n c] w (LstEnd w us) := by
  subst hu
  refine (specMin_any n zs h.len A c w h.sts (by have := h.few; omega)).mono ?_
  rintro e w' ⟨v, rfl, ho, hb⟩
  obtain ⟨A', n', c', rfl, hl⟩ := Lst.of_own ho (by have := minL_length zs; have := h.len; have := h.few; omega)
  exact ⟨A', n', c', rfl, hl, hb⟩

theorem implMerge_lst {w : World} {A A' : Option Addr} {n c n' c' : Nat} {zs ys us : List (Int × Int)} (h : Lst w A n c zs) (h' : Lst w A' n' c' ys) (hu : minL (zs ++ ys) = us) (hf : n + n' ≤ 1000) : Calls Try.prog 14 #[.slice A n c, .slice A' n' c'] w (LstEnd w us) := by
  subst hu
  refine (implMerge_any n n' zs ys h.len h'.len A A' c c' h.nil h'.nil w h.sts h'.sts (by omega)).mono ?_
  rintro e w' ⟨v, rfl, ho, hb⟩
  obtain ⟨A', n', c', rfl, hl⟩ := Lst.of_own ho (by have := minL_length (zs ++ ys); rw [List.length_append] at this; have := h.len; have := h'.len; omega)
  exact ⟨A', n', c', rfl, hl, hb⟩

theorem specMerge_lst {w : World} {A A' : Option Addr} {n c n' c' : Nat} {zs ys us : List (Int × Int)} (h : Lst w A n c zs) (h' : Lst w A' n' c' ys) (hu : minL (zs ++ ys) = us) (hf : n + n' ≤ 1000) : Calls Try.prog 17 #[.slice A n c, .slice A' n' c'] w (LstEnd w us) := by
  subst hu
  refine (specMerge_any n n' zs ys h.len h'.len A A' c c' h.nil h'.nil w h.sts h'.sts (by omega)).mono ?_
  rintro e w' ⟨v, rfl, ho, hb⟩
  obtain ⟨A', n', c', rfl, hl⟩ := Lst.of_own ho (by have := minL_length (zs ++ ys); rw [List.length_append] at this; have := h.len; have := h'.len; omega)
  exact ⟨A', n', c', rfl, hl, hb⟩

/-- How a function ends whose answer is b. -/
def BoolEnd (w : World) (b : Bool) (e : Ending) (w' : World) : Prop := e = .returned (.bool b) ∧ Below w.heap.size w w'

theorem same_lst {w : World} {A A' : Option Addr} {n c n' c' : Nat} {zs ys : List (Int × Int)} {b : Bool} (h : Lst w A n c zs) (h' : Lst w A' n' c' ys) (hb : decide (zs = ys) = b) : Calls Try.prog 16 #[.slice A n c, .slice A' n' c'] w (BoolEnd w b) := by
  subst hb
  exact sameStamps_any n n' zs ys h.len h'.len A A' c c' w h.sts h'.sts (by have := h.few; omega)

theorem implSame_lst {w : World} {A A' : Option Addr} {n c n' c' : Nat} {zs ys : List (Int × Int)} {b : Bool} (h : Lst w A n c zs) (h' : Lst w A' n' c' ys) (hb : decide (zs = ys) = b) : Calls Try.prog 30 #[.slice A n c, .slice A' n' c'] w (BoolEnd w b) := by
  subst hb
  exact implSame_any n n' zs ys h.len h'.len A A' c c' w h.sts h'.sts (by have := h.few; omega)

theorem implLeq_lst {w : World} {A A' : Option Addr} {n c n' c' : Nat} {zs ys : List (Int × Int)} {b : Bool} (h : Lst w A n c zs) (h' : Lst w A' n' c' ys) (hb : frontLeqL zs ys = b) : Calls Try.prog 21 #[.slice A n c, .slice A' n' c'] w (BoolEnd w b) := by
  subst hb
  exact implLeqS_any n n' zs ys h.len h'.len A A' c c' w h.sts h'.sts (by have := h.few; omega) (by have := h'.few; omega)

theorem specLeq_lst {w : World} {A A' : Option Addr} {n c n' c' : Nat} {zs ys : List (Int × Int)} {b : Bool} (h : Lst w A n c zs) (h' : Lst w A' n' c' ys) (hb : frontLeqL zs ys = b) : Calls Try.prog 22 #[.slice A n c, .slice A' n' c'] w (BoolEnd w b) := by
  subst hb
  exact specLeqS_any n n' zs ys h.len h'.len A A' c c' w h.sts h'.sts (by have := h.few; omega) (by have := h'.few; omega)

theorem implFOk_lst {w : World} {A : Option Addr} {n c : Nat} {zs : List (Int × Int)} {b : Bool} (h : Lst w A n c zs) (hb : okFrontL zs = b) : Calls Try.prog 19 #[.slice A n c] w (BoolEnd w b) := by
  subst hb
  exact implFOk_any n zs h.len A c h.nil w h.sts (by have := h.few; omega)

theorem specFOk_lst {w : World} {A : Option Addr} {n c : Nat} {zs : List (Int × Int)} {b : Bool} (h : Lst w A n c zs) (hb : okFrontL zs = b) : Calls Try.prog 20 #[.slice A n c] w (BoolEnd w b) := by
  subst hb
  exact specFOk_any n zs h.len A c w h.sts (by have := h.few; omega)

theorem implOver_lst {w : World} {A : Option Addr} {n c : Nat} {zs : List (Int × Int)} {x : Int} {b : Bool} (h : Lst w A n c zs) (hb : overL zs x = b) : Calls Try.prog 28 #[.slice A n c, .int .i64 x] w (BoolEnd w b) := by
  subst hb
  exact implOver_any n zs h.len A c x w h.sts (by have := h.few; omega)

theorem specOver_lst {w : World} {A : Option Addr} {n c : Nat} {zs : List (Int × Int)} {x : Int} {b : Bool} (h : Lst w A n c zs) (hb : overL zs x = b) : Calls Try.prog 29 #[.slice A n c, .int .i64 x] w (BoolEnd w b) := by
  subst hb
  exact specOver_any n zs h.len A c x w h.sts (by have := h.few; omega)

theorem implAhead_lst {w : World} {A : Option Addr} {n c : Nat} {zs : List (Int × Int)} {x y : Int} {b : Bool} (h : Lst w A n c zs) (hb : aheadL zs x y = b) : Calls Try.prog 24 #[.slice A n c, .agg #[.int .i64 x, .int .i64 y]] w (BoolEnd w b) := by
  subst hb
  exact implAhead_any n zs h.len A c x y w h.sts (by have := h.few; omega)

theorem specAhead_lst {w : World} {A : Option Addr} {n c : Nat} {zs : List (Int × Int)} {x y : Int} {b : Bool} (h : Lst w A n c zs) (hb : aheadL zs x y = b) : Calls Try.prog 25 #[.slice A n c, .agg #[.int .i64 x, .int .i64 y]] w (BoolEnd w b) := by
  subst hb
  exact specAhead_any n zs h.len A c x y w h.sts (by have := h.few; omega)

/-- A new block of stamps. -/
theorem lst_new1 (w : World) (x y : Int) : Lst (w.alloc (.cells #[.int .i64 x, .int .i64 y] 32)) (some ⟨w.heap.size, 0, none⟩) 1 1 [(x, y)] := ⟨by omega, rfl, (fun h => by cases h), sts_new w x y⟩
theorem lst_new1_at (w : World) (g : Nat) (hg : g = w.heap.size) (x y : Int) : Lst (w.alloc (.cells #[.int .i64 x, .int .i64 y] 32)) (some ⟨g, 0, none⟩) 1 1 [(x, y)] := by subst hg; exact lst_new1 w x y
theorem lst_new2 (w : World) (x y u v : Int) : Lst (w.alloc (.cells #[.int .i64 x, .int .i64 y, .int .i64 u, .int .i64 v] 32)) (some ⟨w.heap.size, 0, none⟩) 2 2 [(x, y), (u, v)] := ⟨by omega, rfl, (fun h => by cases h), fun _ =>
  ⟨w.heap.size, 0, rfl, by simp, fun j hj => by
    rcases j with _ | _ | j
    · exact ⟨alloc_cells rfl rfl, alloc_cells rfl rfl⟩
    · exact ⟨alloc_cells rfl rfl, alloc_cells rfl rfl⟩
    · exact absurd hj (by simp)⟩⟩
theorem lst_nil (w : World) : Lst w none 0 0 [] := ⟨by omega, rfl, fun _ => rfl, fun h => absurd h (by simp)⟩

theorem ahead_min (zs : List (Int × Int)) (x y : Int) : aheadL (minL zs) x y = aheadL zs x y := by
  unfold aheadL
  rw [Bool.eq_iff_iff, List.any_eq_true, List.any_eq_true]
  constructor
  · rintro ⟨z, hz, h⟩; exact ⟨z, minL_sub z hz, h⟩
  · rintro ⟨z, hz, h⟩
    obtain ⟨o, ho, h1⟩ := min_cover zs hz
    refine ⟨o, ho, ?_⟩
    simp only [leqSt, decide_eq_true_eq] at h ⊢
    omega
theorem leq_min {zs ys : List (Int × Int)} (h : ∀ z ∈ ys, z ∈ zs) : frontLeqL (minL zs) ys = true := by
  unfold frontLeqL
  rw [List.all_eq_true]
  intro z hz
  rw [ahead_min]
  unfold aheadL
  exact List.any_eq_true.2 ⟨z, h z hz, by simp [leqSt]⟩
end Go.Proofs.Ytjnmpcfclkahlaa.hexes
