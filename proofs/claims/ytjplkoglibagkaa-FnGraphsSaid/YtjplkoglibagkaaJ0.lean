/-
  Nodes as plain data: when one is right, what it makes of a record.
  Stamps: the contracts of the laws' toStamp and eqStamp, and of chapter 2's functions on both sides.
-/
import Derived.Lib.Hide
import Derived.Test.YtjplkoglibagkaaProg
import Derived.WalkKit
import Derived.WalkMore
import Derived.Below
import Derived.WalkSpells
import Derived.Deep.RegionHeld3

namespace Go.Proofs.Ytjplkoglibagkaa.hexes

def kB (k : Int) : Bool := decide (1 ≤ k ∧ k ≤ 8)
def aB (k a : Int) : Bool := if k = 2 then decide (0 ≤ a ∧ a ≤ 999) else if k = 3 then decide (1 ≤ a ∧ a ≤ 10) else if k = 4 then decide (0 ≤ a ∧ a ≤ 99) else a == 0
/-- d: what A less 1 comes to. -/
def bB (k b d : Int) : Bool := if k = 3 then decide (0 ≤ b ∧ b ≤ d) else b == 0
def setB (k a b d : Int) : Bool := kB k && aB k a && bB k b d
def outsB (k : Int) (zs : List Int) : Bool := decide (zs.length ≤ 2 ∧ (k = 8 → zs = []) ∧ (∀ z ∈ zs, 0 ≤ z ∧ z ≤ 7) ∧ zs.Nodup)
def okNd (k a b d : Int) (zs : List Int) : Bool := setB k a b d && outsB k zs

theorem aB_2 (a : Int) : decide (0 ≤ a ∧ a ≤ 999) = aB 2 a := by simp [aB]
theorem aB_3 (a : Int) : decide (1 ≤ a ∧ a ≤ 10) = aB 3 a := by simp [aB]
theorem aB_4 (a : Int) : decide (0 ≤ a ∧ a ≤ 99) = aB 4 a := by simp [aB]
theorem aB_o {k : Int} (a : Int) (h2 : k ≠ 2) (h3 : k ≠ 3) (h4 : k ≠ 4) : (a == 0) = aB k a := by simp [aB, h2, h3, h4]
theorem bB_3 (b d : Int) : decide (0 ≤ b ∧ b ≤ d) = bB 3 b d := by simp [bB]
theorem bB_o {k : Int} (b d : Int) (h3 : k ≠ 3) : (b == 0) = bB k b d := by simp [bB, h3]

/-- The first j successors are right. -/
def Scan (zs : List Int) (j : Nat) : Prop := (∀ z ∈ zs.take j, 0 ≤ z ∧ z ≤ 7) ∧ (zs.take j).Nodup

theorem scan_zero (zs : List Int) : Scan zs 0 := ⟨fun z hz => by simp at hz, by simp⟩
theorem nodup_snoc {l : List Int} {p : Int} (h : l.Nodup) (hp : p ∉ l) : (l ++ [p]).Nodup := by
  rw [List.nodup_append]
  refine ⟨h, by simp, fun a ha b hb => ?_⟩
  obtain rfl : b = p := by simpa using hb
  rintro rfl
  exact hp ha
theorem scan_succ {zs : List Int} {j : Nat} {p : Int} (hj : j < zs.length) (hp : zs[j] = p) (h : Scan zs j) (h7 : 0 ≤ p ∧ p ≤ 7) (hn : p ∉ zs.take j) : Scan zs (j + 1) := by
  have e := List.take_succ_eq_append_getElem hj
  rw [hp] at e
  unfold Scan
  rw [e]
  refine ⟨fun z hz => ?_, nodup_snoc h.2 hn⟩
  rcases List.mem_append.1 hz with hz | hz
  · exact h.1 z hz
  · obtain rfl : z = p := by simpa using hz
    exact h7
theorem outs_yes {k : Int} {zs : List Int} (hl : zs.length ≤ 2) (hk : k = 8 → zs = []) (h : Scan zs zs.length) : outsB k zs = true := by
  unfold Scan at h
  rw [List.take_length] at h
  exact decide_eq_true ⟨hl, hk, h.1, h.2⟩
theorem outs_bad {k : Int} {zs : List Int} {j : Nat} {p : Int} (hj : j < zs.length) (hp : zs[j] = p) (h7 : ¬(0 ≤ p ∧ p ≤ 7)) : outsB k zs = false :=
  decide_eq_false fun h => h7 (h.2.2.1 p (hp ▸ List.getElem_mem hj))
theorem outs_twice {k : Int} {zs : List Int} {j : Nat} {p : Int} (hj : j < zs.length) (hp : zs[j] = p) (hm : p ∈ zs.take j) : outsB k zs = false :=
  decide_eq_false fun h => by
    have hn := h.2.2.2
    rw [← List.take_append_drop j zs, List.drop_eq_getElem_cons hj, hp, List.nodup_append] at hn
    exact hn.2.2 p hm p (by simp) rfl
theorem outs_long {k : Int} {zs : List Int} (h : 2 < zs.length) : outsB k zs = false := decide_eq_false fun x => by have := x.1; omega
theorem outs_out {zs : List Int} (h : 0 < zs.length) : outsB 8 zs = false := decide_eq_false fun x => by have := x.2.1 rfl; subst this; simp at h
theorem outs_nil (k : Int) : outsB k [] = true := outs_yes (by simp) (fun _ => rfl) (scan_zero [])

end Go.Proofs.Ytjplkoglibagkaa.hexes

namespace Go.Proofs.Ytjplkoglibagkaa.hexes
open Go.RowKit

theorem alloc_keep {w : World} {o : Obj} {a : Addr} {v : Value} (h : w.cell? a = some v) : (w.alloc o).cell? a = some v :=
  (((Below.refl w.heap.size w).alloc (Nat.le_refl _) o).cell (World.block_lt_of_cell? w _ h)).trans h
theorem drew_keep {w : World} {a : Addr} {v : Value} (h : w.cell? a = some v) : w.drew.cell? a = some v := h

theorem below_keep {w w' : World} {a : Addr} {v : Value} (hb : Below w.heap.size w w') (h : w.cell? a = some v) : w'.cell? a = some v :=
  (hb.cell (World.block_lt_of_cell? w _ h)).trans h

theorem alloc_cells {w : World} {cs : Array Value} {t : TypeId} {g j : Nat} {v : Value} (hg : g = w.heap.size) (hv : cs[j]? = some v) : (w.alloc (.cells cs t)).cell? ⟨g, j, none⟩ = some v := by
  subst hg
  rw [cell_of_row _ _ j cs t (0, 0) (heap_alloc_new w _)]
  exact hv

theorem below_step {B : Nat} {a w w' : World} (h : Below B a w) (hB : B ≤ w.heap.size) (hb : Below w.heap.size w w') : Below B a w' := h.trans (hb.mono hB)

theorem below_chain {a w w' : World} (h : Below a.heap.size a w) (hb : Below w.heap.size w w') : Below a.heap.size a w' := h.trans (hb.mono h.size)

/-- What StampOk answers. -/
def okSt (x y : Int) : Bool := decide (0 ≤ x ∧ x ≤ 3 ∧ 0 ≤ y ∧ y ≤ 6)
/-- What StampLeq answers. -/
def leqSt (x y u v : Int) : Bool := decide (x ≤ u ∧ y ≤ v)
/-- What l02Order answers. -/
def ordI (x u : Int) : Int := if x < u then -1 else if u < x then 1 else 0
/-- What StampOrder answers. -/
def ordSt (x y u v : Int) : Int := if ordI x u = 0 then ordI y v else ordI x u
/-- Whether a stamp has a next turn. -/
def hasNext (x y : Int) : Bool := decide (0 ≤ x ∧ x ≤ 3 ∧ 0 ≤ y ∧ y < 6)

theorem ordI_lt {x u : Int} (h : x < u) : ordI x u = -1 := by unfold ordI; rw [if_pos h]
theorem ordI_gt {x u : Int} (h : u < x) : ordI x u = 1 := by unfold ordI; rw [if_neg (by omega), if_pos h]
theorem ordI_eq (x : Int) : ordI x x = 0 := by unfold ordI; rw [if_neg (by omega), if_neg (by omega)]
theorem ordI_neg (x u : Int) : ordI x u = - ordI u x := by unfold ordI; split <;> split <;> (first | omega | (split <;> omega))
theorem ordI_bd (x u : Int) : -1 ≤ ordI x u ∧ ordI x u ≤ 1 := by unfold ordI; split <;> (first | omega | (split <;> omega))
theorem ordI_zero {x u : Int} (h : ordI x u = 0) : x = u := by unfold ordI at h; split at h <;> (first | omega | (split at h <;> omega))
theorem ordSt_neg (x y u v : Int) : ordSt x y u v = - ordSt u v x y := by
  unfold ordSt
  rw [ordI_neg x u, ordI_neg y v]
  by_cases h : ordI u x = 0
  · simp [h]
  · rw [if_neg (by omega), if_neg h]
theorem ordSt_bd (x y u v : Int) : -1 ≤ ordSt x y u v ∧ ordSt x y u v ≤ 1 := by
  unfold ordSt
  split
  · exact ordI_bd _ _
  · exact ordI_bd _ _
theorem ordSt_zero {x y u v : Int} (h : ordSt x y u v = 0) : x = u ∧ y = v := by
  unfold ordSt at h
  split at h
  · rename_i hx
    exact ⟨ordI_zero hx, ordI_zero h⟩
  · rename_i hx
    exact absurd h hx
theorem ordSt_self (x y : Int) : ordSt x y x y = 0 := by simp [ordSt, ordI_eq]

theorem specIn_any (n a b : Int) (w : World) :
    Calls Try.prog 45 #[.int .i64 n, .int .i64 a, .int .i64 b] w fun e w' => e = .returned (.bool (decide (a ≤ n ∧ n ≤ b))) ∧ w = w' := by
  go_enter Try.func45, Try.ntmps45
  go_wp2
  all_goals (go_ret; refine ⟨?_, rfl⟩; simp; omega)

/-- The turn that NextTurn answers. -/
def nextY (x y : Int) : Int := if hasNext x y then y + 1 else y
theorem nextY_yes {x y : Int} (h : hasNext x y = true) : nextY x y = y + 1 := by simp [nextY, h]
theorem nextY_no {x y : Int} (h : hasNext x y = false) : nextY x y = y := by simp [nextY, h]
theorem next_cases (x y : Int) : (hasNext x y = true ∧ okSt x y = true ∧ (y == 6) = false ∧ decide (6 ≤ y) = false ∧ IntKind.i64.wrap (y + 1) = y + 1) ∨ (hasNext x y = false ∧ okSt x y = false) ∨ (hasNext x y = false ∧ okSt x y = true ∧ (y == 6) = true ∧ decide (6 ≤ y) = true) := by
  by_cases h : hasNext x y = true
  · left
    have h' := h
    simp only [hasNext, decide_eq_true_eq] at h'
    refine ⟨h, ?_, ?_, ?_, IntWalk.i64_in _ (by omega)⟩
    · simp [okSt]; omega
    · simp; omega
    · simp; omega
  · right
    simp only [Bool.not_eq_true] at h
    have h' := h
    simp only [hasNext, decide_eq_false_iff_not] at h'
    by_cases k : okSt x y = true
    · right
      refine ⟨h, k, ?_, ?_⟩
      · simp only [okSt, decide_eq_true_eq] at k
        simp; omega
      · simp only [okSt, decide_eq_true_eq] at k
        simp; omega
    · left
      exact ⟨h, by simpa using k⟩

end Go.Proofs.Ytjplkoglibagkaa.hexes

