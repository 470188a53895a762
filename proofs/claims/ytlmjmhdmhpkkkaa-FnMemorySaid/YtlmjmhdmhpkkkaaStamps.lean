/-
  Stamps: the contracts of the laws' toStamp and eqStamp, and of chapter 2's functions on both sides.
-/
import Derived.Test.YtlmjmhdmhpkkkaaProg
import Derived.WalkKit
import Derived.WalkMore
import Derived.Below
import Derived.Lib.Hide
import Derived.WalkSpells
import Derived.Deep.RegionHeld3
namespace Go.Proofs.Ytlmjmhdmhpkkkaa.hexes
open Go.RowKit

theorem alloc_keep {w : World} {o : Obj} {a : Addr} {v : Value} (h : w.cell? a = some v) : (w.alloc o).cell? a = some v :=
  (((Below.refl w.heap.size w).alloc (Nat.le_refl _) o).cell (World.block_lt_of_cell? w _ h)).trans h
theorem drew_keep {w : World} {a : Addr} {v : Value} (h : w.cell? a = some v) : w.drew.cell? a = some v := h

theorem below_keep {w w' : World} {a : Addr} {v : Value} (hb : Below w.heap.size w w') (h : w.cell? a = some v) : w'.cell? a = some v :=
  (hb.cell (World.block_lt_of_cell? w _ h)).trans h

theorem alloc_cells {w : World} {cs : Array Value} {t : TypeId} {g j : Nat} {v : Value} (hg : g = w.heap.size) (hv : cs[j]? = some v) : (w.alloc (.cells cs t)).cell? ⟨g, j, none⟩ = some v := by
  subst hg
  rw [cell_of_row _ _ j cs t (0, 0) (heap_alloc_new w _)]
  exact hv

theorem below_step {B : Nat} {a w w' : World} (h : Below B a w) (hB : B ≤ w.heap.size) (hb : Below w.heap.size w w') : Below B a w' := h.trans (hb.mono hB)

theorem below_chain {a w w' : World} (h : Below a.heap.size a w) (hb : Below w.heap.size w w') : Below a.heap.size a w' := h.trans (hb.mono h.size)

/-- What StampOk answers. -/
def okSt (x y : Int) : Bool := decide (0 ≤ x ∧ x ≤ 3 ∧ 0 ≤ y ∧ y ≤ 6)
/-- What StampLeq answers. -/
def leqSt (x y u v : Int) : Bool := decide (x ≤ u ∧ y ≤ v)
/-- What l02Order answers. -/
def ordI (x u : Int) : Int := if x < u then -1 else if u < x then 1 else 0
/-- What StampOrder answers. -/
def ordSt (x y u v : Int) : Int := if ordI x u = 0 then ordI y v else ordI x u
/-- Whether a stamp has a next turn. -/
def hasNext (x y : Int) : Bool := decide (0 ≤ x ∧ x ≤ 3 ∧ 0 ≤ y ∧ y < 6)

theorem ordI_lt {x u : Int} (h : x < u) : ordI x u = -1 := by unfold ordI; rw [if_pos h]
theorem ordI_gt {x u : Int} (h : u < x) : ordI x u = 1 := by unfold ordI; rw [if_neg (by omega), if_pos h]
theorem ordI_eq (x : Int) : ordI x x = 0 := by unfold ordI; rw [if_neg (by omega), if_neg (by omega)]
theorem ordI_neg (x u : Int) : ordI x u = - ordI u x := by unfold ordI; split <;> split <;> (first | omega | (split <;> omega))
theorem ordI_bd (x u : Int) : -1 ≤ ordI x u ∧ ordI x u ≤ 1 := by unfold ordI; split <;> (first | omega | (split <;> omega))
theorem ordI_zero {x u : Int} (h : ordI x u = 0) : x = u := by unfold ordI at h; split at h <;> (first | omega | (split at h <;> omega))
theorem ordSt_neg (x y u v : Int) : ordSt x y u v = - ordSt u v x y := by
  unfold ordSt
  rw [ordI_neg x u, ordI_neg y v]
  by_cases h : ordI u x = 0
  · simp [h]
  · rw [if_neg (by omega), if_neg h]
theorem ordSt_bd (x y u v : Int) : -1 ≤ ordSt x y u v ∧ ordSt x y u v ≤ 1 := by
  unfold ordSt
  split
  · exact ordI_bd _ _
  · exact ordI_bd _ _
theorem ordSt_zero {x y u v : Int} (h : ordSt x y u v = 0) : x = u ∧ y = v := by
  unfold ordSt at h
  split at h
  · rename_i hx
    exact ⟨ordI_zero hx, ordI_zero h⟩
  · rename_i hx
    exact absurd h hx
theorem ordSt_self (x y : Int) : ordSt x y x y = 0 := by simp [ordSt, ordI_eq]

theorem specOrd_any (x u : Int) (w : World) :
    Calls Try.prog 53 #[.int .i64 x, .int .i64 u] w fun e w' => e = .returned (.int .i64 (ordI x u)) ∧ w = w' := by
  go_enter Try.func53, Try.ntmps53
  go_wp2
  all_goals (go_ret; refine ⟨?_, rfl⟩; simp [ordI]; try omega)

/-- The turn that NextTurn answers. -/
def nextY (x y : Int) : Int := if hasNext x y then y + 1 else y
theorem nextY_yes {x y : Int} (h : hasNext x y = true) : nextY x y = y + 1 := by simp [nextY, h]
theorem nextY_no {x y : Int} (h : hasNext x y = false) : nextY x y = y := by simp [nextY, h]
theorem next_cases (x y : Int) : (hasNext x y = true ∧ okSt x y = true ∧ (y == 6) = false ∧ decide (6 ≤ y) = false ∧ IntKind.i64.wrap (y + 1) = y + 1) ∨ (hasNext x y = false ∧ okSt x y = false) ∨ (hasNext x y = false ∧ okSt x y = true ∧ (y == 6) = true ∧ decide (6 ≤ y) = true) := by
  by_cases h : hasNext x y = true
  · left
    have h' := h
    simp only [hasNext, decide_eq_true_eq] at h'
    refine ⟨h, ?_, ?_, ?_, IntWalk.i64_in _ (by omega)⟩
    · simp [okSt]; omega
    · simp; omega
    · simp; omega
  · right
    simp only [Bool.not_eq_true] at h
    have h' := h
    simp only [hasNext, decide_eq_false_iff_not] at h'
    by_cases k : okSt x y = true
    · right
      refine ⟨h, k, ?_, ?_⟩
      · simp only [okSt, decide_eq_true_eq] at k
        simp; omega
      · simp only [okSt, decide_eq_true_eq] at k
        simp; omega
    · left
      exact ⟨h, by simpa using k⟩

end Go.Proofs.Ytlmjmhdmhpkkkaa.hexes
