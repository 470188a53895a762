/-
  Nodes as plain data: when one is right, what it makes of a record.
  Stamps: the contracts of the laws' toStamp and eqStamp, and of chapter 2's functions on both sides.
-/
import Derived.Lib.Hide
import Derived.Test.YtlanmkimaambgaaProg
import Derived.WalkKit
import Derived.WalkMore
import Derived.Below
import Derived.WalkSpells
import Derived.Deep.RegionHeld3

namespace Go.Proofs.Ytlanmkimaambgaa.hexes

def kB (k : Int) : Bool := decide (1 ≤ k ∧ k ≤ 8)
def aB (k a : Int) : Bool := if k = 2 then decide (0 ≤ a ∧ a ≤ 999) else if k = 3 then decide (1 ≤ a ∧ a ≤ 10) else if k = 4 then decide (0 ≤ a ∧ a ≤ 99) else a == 0
/-- d: what A less 1 comes to. -/
def bB (k b d : Int) : Bool := if k = 3 then decide (0 ≤ b ∧ b ≤ d) else b == 0
def setB (k a b d : Int) : Bool := kB k && aB k a && bB k b d
def outsB (k : Int) (zs : List Int) : Bool := decide (zs.length ≤ 2 ∧ (k = 8 → zs = []) ∧ (∀ z ∈ zs, 0 ≤ z ∧ z ≤ 7) ∧ zs.Nodup)
def okNd (k a b d : Int) (zs : List Int) : Bool := setB k a b d && outsB k zs

theorem aB_2 (a : Int) : decide (0 ≤ a ∧ a ≤ 999) = aB 2 a := by simp [aB]
theorem aB_3 (a : Int) : decide (1 ≤ a ∧ a ≤ 10) = aB 3 a := by simp [aB]
theorem aB_4 (a : Int) : decide (0 ≤ a ∧ a ≤ 99) = aB 4 a := by simp [aB]
theorem aB_o {k : Int} (a : Int) (h2 : k ≠ 2) (h3 : k ≠ 3) (h4 : k ≠ 4) : (a == 0) = aB k a := by simp [aB, h2, h3, h4]
theorem bB_3 (b d : Int) : decide (0 ≤ b ∧ b ≤ d) = bB 3 b d := by simp [bB]
theorem bB_o {k : Int} (b d : Int) (h3 : k ≠ 3) : (b == 0) = bB k b d := by simp [bB, h3]

/-- The first j successors are right. -/
def ScanO (zs : List Int) (j : Nat) : Prop := (∀ z ∈ zs.take j, 0 ≤ z ∧ z ≤ 7) ∧ (zs.take j).Nodup

theorem scan_zero (zs : List Int) : ScanO zs 0 := ⟨fun z hz => by simp at hz, by simp⟩
theorem nodup_snoc {l : List Int} {p : Int} (h : l.Nodup) (hp : p ∉ l) : (l ++ [p]).Nodup := by
  rw [List.nodup_append]
  refine ⟨h, by simp, fun a ha b hb => ?_⟩
  obtain rfl : b = p := by simpa using hb
  rintro rfl
  exact hp ha
theorem scan_succ {zs : List Int} {j : Nat} {p : Int} (hj : j < zs.length) (hp : zs[j] = p) (h : ScanO zs j) (h7 : 0 ≤ p ∧ p ≤ 7) (hn : p ∉ zs.take j) : ScanO zs (j + 1) := by
  have e := List.take_succ_eq_append_getElem hj
  rw [hp] at e
  unfold ScanO
  rw [e]
  refine ⟨fun z hz => ?_, nodup_snoc h.2 hn⟩
  rcases List.mem_append.1 hz with hz | hz
  · exact h.1 z hz
  · obtain rfl : z = p := by simpa using hz
    exact h7
theorem outs_yes {k : Int} {zs : List Int} (hl : zs.length ≤ 2) (hk : k = 8 → zs = []) (h : ScanO zs zs.length) : outsB k zs = true := by
  unfold ScanO at h
  rw [List.take_length] at h
  exact decide_eq_true ⟨hl, hk, h.1, h.2⟩
theorem outs_bad {k : Int} {zs : List Int} {j : Nat} {p : Int} (hj : j < zs.length) (hp : zs[j] = p) (h7 : ¬(0 ≤ p ∧ p ≤ 7)) : outsB k zs = false :=
  decide_eq_false fun h => h7 (h.2.2.1 p (hp ▸ List.getElem_mem hj))
theorem outs_twice {k : Int} {zs : List Int} {j : Nat} {p : Int} (hj : j < zs.length) (hp : zs[j] = p) (hm : p ∈ zs.take j) : outsB k zs = false :=
  decide_eq_false fun h => by
    have hn := h.2.2.2
    rw [← List.take_append_drop j zs, List.drop_eq_getElem_cons hj, hp, List.nodup_append] at hn
    exact hn.2.2 p hm p (by simp) rfl
theorem outs_long {k : Int} {zs : List Int} (h : 2 < zs.length) : outsB k zs = false := decide_eq_false fun x => by have := x.1; omega
theorem outs_out {zs : List Int} (h : 0 < zs.length) : outsB 8 zs = false := decide_eq_false fun x => by have := x.2.1 rfl; subst this; simp at h
theorem outs_nil (k : Int) : outsB k [] = true := outs_yes (by simp) (fun _ => rfl) (scan_zero [])

end Go.Proofs.Ytlanmkimaambgaa.hexes

namespace Go.Proofs.Ytlanmkimaambgaa.hexes
open Go.RowKit

theorem alloc_keep {w : World} {o : Obj} {a : Addr} {v : Value} (h : w.cell? a = some v) : (w.alloc o).cell? a = some v :=
  (((Below.refl w.heap.size w).alloc (Nat.le_refl _) o).cell (World.block_lt_of_cell? w _ h)).trans h
theorem drew_keep {w : World} {a : Addr} {v : Value} (h : w.cell? a = some v) : w.drew.cell? a = some v := h

theorem below_keep {w w' : World} {a : Addr} {v : Value} (hb : Below w.heap.size w w') (h : w.cell? a = some v) : w'.cell? a = some v :=
  (hb.cell (World.block_lt_of_cell? w _ h)).trans h

theorem alloc_cells {w : World} {cs : Array Value} {t : TypeId} {g j : Nat} {v : Value} (hg : g = w.heap.size) (hv : cs[j]? = some v) : (w.alloc (.cells cs t)).cell? ⟨g, j, none⟩ = some v := by
  subst hg
  rw [cell_of_row _ _ j cs t (0, 0) (heap_alloc_new w _)]
  exact hv

theorem below_chain {a w w' : World} (h : Below a.heap.size a w) (hb : Below w.heap.size w w') : Below a.heap.size a w' := h.trans (hb.mono h.size)

/-- What StampOk answers. -/
def okSt (x y : Int) : Bool := decide (0 ≤ x ∧ x ≤ 3 ∧ 0 ≤ y ∧ y ≤ 6)
/-- What StampLeq answers. -/
def leqSt (x y u v : Int) : Bool := decide (x ≤ u ∧ y ≤ v)
/-- What l02Order answers. -/
def ordI (x u : Int) : Int := if x < u then -1 else if u < x then 1 else 0
/-- Whether a stamp has a next turn. -/
def hasNext (x y : Int) : Bool := decide (0 ≤ x ∧ x ≤ 3 ∧ 0 ≤ y ∧ y < 6)

theorem toStamp_at (x y : Int) (w : World) :
    Calls Try.prog 59 #[.agg #[.int .i64 x, .int .i64 y]] w fun e w' => e = .returned (.agg #[.int .i64 x, .int .i64 y]) ∧ ((w.alloc (.cells #[.int .i64 x, .int .i64 y] 52)).alloc (.cells #[.int .i64 x, .int .i64 y] 29)).alloc (.cells #[.int .i64 x, .int .i64 y] 29) = w' := by
  go_enter Try.func59, Try.ntmps59
  go_wp2
  exact bodyPost_ret (v := .agg #[.int .i64 x, .int .i64 y]) (by simp [results, Try.results59, go_sem]) rfl ⟨rfl, rfl⟩

theorem toStamp_any (x y : Int) (w : World) : Calls Try.prog 59 #[.agg #[.int .i64 x, .int .i64 y]] w fun e w' => e = .returned (.agg #[.int .i64 x, .int .i64 y]) ∧ Below w.heap.size w w' :=
  (toStamp_at x y w).mono fun _ _ ⟨he, hw⟩ => ⟨he, hw ▸ (((Below.refl _ _).alloc (by simp) _).alloc (by simp) _).alloc (by simp; omega) _⟩

theorem eqStamp_at (x y u v : Int) (w : World) :
    Calls Try.prog 84 #[.agg #[.int .i64 x, .int .i64 y], .agg #[.int .i64 u, .int .i64 v]] w fun e w' => e = .returned (.bool (decide (x = u ∧ y = v))) ∧ (w.alloc (.cells #[.int .i64 x, .int .i64 y] 29)).alloc (.cells #[.int .i64 u, .int .i64 v] 29) = w' := by
  go_enter Try.func84, Try.ntmps84
  go_wp2
  all_goals (go_ret; refine ⟨?_, rfl⟩; simp_all)

theorem eqStamp_any (x y u v : Int) (w : World) : Calls Try.prog 84 #[.agg #[.int .i64 x, .int .i64 y], .agg #[.int .i64 u, .int .i64 v]] w fun e w' => e = .returned (.bool (decide (x = u ∧ y = v))) ∧ Below w.heap.size w w' :=
  (eqStamp_at x y u v w).mono fun _ _ ⟨he, hw⟩ => ⟨he, hw ▸ ((Below.refl _ _).alloc (by simp) _).alloc (by simp) _⟩

theorem implOk_at (x y : Int) (w : World) :
    Calls Try.prog 80 #[.agg #[.int .i64 x, .int .i64 y]] w fun e w' => e = .returned (.bool (okSt x y)) ∧ w.alloc (.cells #[.int .i64 x, .int .i64 y] 29) = w' := by
  go_enter Try.func80, Try.ntmps80
  go_wp2
  all_goals (go_ret; refine ⟨?_, rfl⟩; simp_all [okSt]; try omega)

theorem specIn_any (n a b : Int) (w : World) :
    Calls Try.prog 49 #[.int .i64 n, .int .i64 a, .int .i64 b] w fun e w' => e = .returned (.bool (decide (a ≤ n ∧ n ≤ b))) ∧ w = w' := by
  go_enter Try.func49, Try.ntmps49
  go_wp2
  all_goals (go_ret; refine ⟨?_, rfl⟩; simp; omega)

theorem specOk_at (x y : Int) (w : World) :
    Calls Try.prog 50 #[.agg #[.int .i64 x, .int .i64 y]] w fun e w' => e = .returned (.bool (okSt x y)) ∧ w.alloc (.cells #[.int .i64 x, .int .i64 y] 29) = w' := by
  go_enter Try.func50, Try.ntmps50
  go_wp2_with (go_at_call 49; refine (specIn_any _ _ _ _).mono ?_; rintro e w1 ⟨rfl, rfl⟩)
  all_goals (go_ret; refine ⟨?_, rfl⟩; simp_all [okSt]; try omega)

theorem specOk_any (x y : Int) (w : World) : Calls Try.prog 50 #[.agg #[.int .i64 x, .int .i64 y]] w fun e w' => e = .returned (.bool (okSt x y)) ∧ Below w.heap.size w w' :=
  (specOk_at x y w).mono fun _ _ ⟨he, hw⟩ => ⟨he, hw ▸ (Below.refl _ _).alloc (by simp) _⟩

theorem implOk_any (x y : Int) (w : World) : Calls Try.prog 80 #[.agg #[.int .i64 x, .int .i64 y]] w fun e w' => e = .returned (.bool (okSt x y)) ∧ Below w.heap.size w w' :=
  (implOk_at x y w).mono fun _ _ ⟨he, hw⟩ => ⟨he, hw ▸ (Below.refl _ _).alloc (by simp) _⟩

theorem specOrd_any (x u : Int) (w : World) :
    Calls Try.prog 111 #[.int .i64 x, .int .i64 u] w fun e w' => e = .returned (.int .i64 (ordI x u)) ∧ w = w' := by
  go_enter Try.func111, Try.ntmps111
  go_wp2
  all_goals (go_ret; refine ⟨?_, rfl⟩; simp [ordI]; try omega)

/-- The turn that NextTurn answers. -/
def nextY (x y : Int) : Int := if hasNext x y then y + 1 else y
theorem nextY_yes {x y : Int} (h : hasNext x y = true) : nextY x y = y + 1 := by simp [nextY, h]
theorem nextY_no {x y : Int} (h : hasNext x y = false) : nextY x y = y := by simp [nextY, h]
theorem next_cases (x y : Int) : (hasNext x y = true ∧ okSt x y = true ∧ (y == 6) = false ∧ decide (6 ≤ y) = false ∧ IntKind.i64.wrap (y + 1) = y + 1) ∨ (hasNext x y = false ∧ okSt x y = false) ∨ (hasNext x y = false ∧ okSt x y = true ∧ (y == 6) = true ∧ decide (6 ≤ y) = true) := by
  by_cases h : hasNext x y = true
  · left
    have h' := h
    simp only [hasNext, decide_eq_true_eq] at h'
    refine ⟨h, ?_, ?_, ?_, IntWalk.i64_in _ (by omega)⟩
    · simp [okSt]; omega
    · simp; omega
    · simp; omega
  · right
    simp only [Bool.not_eq_true] at h
    have h' := h
    simp only [hasNext, decide_eq_false_iff_not] at h'
    by_cases k : okSt x y = true
    · right
      refine ⟨h, k, ?_, ?_⟩
      · simp only [okSt, decide_eq_true_eq] at k
        simp; omega
      · simp only [okSt, decide_eq_true_eq] at k
        simp; omega
    · left
      exact ⟨h, by simpa using k⟩

theorem implNext_any (x y : Int) (w : World) :
    Calls Try.prog 48 #[.agg #[.int .i64 x, .int .i64 y]] w fun e w' => e = .returned (.tuple #[.agg #[.int .i64 x, .int .i64 (nextY x y)], .bool (hasNext x y)]) ∧ Below w.heap.size w w' := by
  rcases next_cases x y with ⟨hn, hok, h6, h7, hm⟩ | ⟨hn, hok⟩ | ⟨hn, hok, h6, h7⟩
  · have hy := nextY_yes hn
    rw [hn, hy]
    clear hn hy
    go_enter Try.func48, Try.ntmps48
    go_wp2_with (go_at_call 80; refine (implOk_at _ _ _).mono ?_; rintro e w1 ⟨rfl, rfl⟩)
    exact bodyPost_ret (v := .tuple #[.agg #[.int .i64 x, .int .i64 (y + 1)], .bool true]) (by simp [results, Try.results48, go_sem]) rfl ⟨rfl, (((Below.refl _ _).alloc (by simp) _).alloc (by simp) _).alloc (by simp; omega) _⟩
  all_goals (
    have hy := nextY_no hn
    rw [hn, hy]
    clear hn hy
    go_enter Try.func48, Try.ntmps48
    go_wp2_with (go_at_call 80; refine (implOk_at _ _ _).mono ?_; rintro e w1 ⟨rfl, rfl⟩)
    exact bodyPost_ret (v := .tuple #[.agg #[.int .i64 x, .int .i64 y], .bool false]) (by simp [results, Try.results48, go_sem]) rfl ⟨rfl, (((Below.refl _ _).alloc (by simp) _).alloc (by simp) _).alloc (by simp; omega) _⟩)

theorem specNext_any (x y : Int) (w : World) :
    Calls Try.prog 46 #[.agg #[.int .i64 x, .int .i64 y]] w fun e w' => e = .returned (.tuple #[.agg #[.int .i64 x, .int .i64 (nextY x y)], .bool (hasNext x y)]) ∧ Below w.heap.size w w' := by
  rcases next_cases x y with ⟨hn, hok, h6, h7, hm⟩ | ⟨hn, hok⟩ | ⟨hn, hok, h6, h7⟩
  · have hy := nextY_yes hn
    rw [hn, hy]
    clear hn hy
    go_enter Try.func46, Try.ntmps46
    go_wp2_with (go_at_call 50; refine (specOk_at _ _ _).mono ?_; rintro e w1 ⟨rfl, rfl⟩)
    exact bodyPost_ret (v := .tuple #[.agg #[.int .i64 x, .int .i64 (y + 1)], .bool true]) (by simp [results, Try.results46, go_sem]) rfl ⟨rfl, (((Below.refl _ _).alloc (by simp) _).alloc (by simp) _).alloc (by simp; omega) _⟩
  all_goals (
    have hy := nextY_no hn
    rw [hn, hy]
    clear hn hy
    go_enter Try.func46, Try.ntmps46
    go_wp2_with (go_at_call 50; refine (specOk_at _ _ _).mono ?_; rintro e w1 ⟨rfl, rfl⟩)
    exact bodyPost_ret (v := .tuple #[.agg #[.int .i64 x, .int .i64 y], .bool false]) (by simp [results, Try.results46, go_sem]) rfl ⟨rfl, (((Below.refl _ _).alloc (by simp) _).alloc (by simp) _).alloc (by simp; omega) _⟩)

end Go.Proofs.Ytlanmkimaambgaa.hexes

