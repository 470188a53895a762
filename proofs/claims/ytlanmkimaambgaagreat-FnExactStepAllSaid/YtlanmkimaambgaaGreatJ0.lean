/-
  Nodes as plain data: when one is right, what it makes of a record.
  Stamps: the contracts of the laws' toStamp and eqStamp, and of chapter 2's functions on both sides.
  Bytes and their hexadecimal figures as plain functions; a row of bytes that the call itself owns, turned into a string.
  Rows that the call itself owns: their shape, that they stand behind a call that turns nothing old, and a world in which one of them alone was written.
  Lists of stamps in memory: how they lie there, and the contracts of the laws' own functions on them.
-/
import Derived.Lib.Hide
import Derived.Test.YtlanmkimaambgaaGreatProg
import Derived.WalkKit
import Derived.WalkMore
import Derived.Below
import Derived.WalkSpells
import Derived.Deep.RegionHeld3
import Derived.Test.YtlanmkimaambgaaGreatRows
import Derived.Laws.IdiomStrings
import Derived.Deep.AppendLies
import Derived.Outline
import Derived.Deep.Draws
import Derived.Deep.QuietTactic
import Derived.BigQuiet

namespace Go.Proofs.YtlanmkimaambgaaGreat.hexes

def kB (k : Int) : Bool := decide (1 ≤ k ∧ k ≤ 8)
def aB (k a : Int) : Bool := if k = 2 then decide (0 ≤ a ∧ a ≤ 999) else if k = 3 then decide (1 ≤ a ∧ a ≤ 10) else if k = 4 then decide (0 ≤ a ∧ a ≤ 99) else a == 0
/-- d: what A less 1 comes to. -/
def bB (k b d : Int) : Bool := if k = 3 then decide (0 ≤ b ∧ b ≤ d) else b == 0
def setB (k a b d : Int) : Bool := kB k && aB k a && bB k b d
def outsB (k : Int) (zs : List Int) : Bool := decide (zs.length ≤ 2 ∧ (k = 8 → zs = []) ∧ (∀ z ∈ zs, 0 ≤ z ∧ z ≤ 7) ∧ zs.Nodup)
def okNd (k a b d : Int) (zs : List Int) : Bool := setB k a b d && outsB k zs

theorem aB_2 (a : Int) : decide (0 ≤ a ∧ a ≤ 999) = aB 2 a := by simp [aB]
theorem aB_3 (a : Int) : decide (1 ≤ a ∧ a ≤ 10) = aB 3 a := by simp [aB]
theorem aB_4 (a : Int) : decide (0 ≤ a ∧ a ≤ 99) = aB 4 a := by simp [aB]
theorem aB_o {k : Int} (a : Int) (h2 : k ≠ 2) (h3 : k ≠ 3) (h4 : k ≠ 4) : (a == 0) = aB k a := by simp [aB, h2, h3, h4]
theorem bB_3 (b d : Int) : decide (0 ≤ b ∧ b ≤ d) = bB 3 b d := by simp [bB]
theorem bB_o {k : Int} (b d : Int) (h3 : k ≠ 3) : (b == 0) = bB k b d := by simp [bB, h3]

/-- The first j successors are right. -/
def ScanO (zs : List Int) (j : Nat) : Prop := (∀ z ∈ zs.take j, 0 ≤ z ∧ z ≤ 7) ∧ (zs.take j).Nodup

theorem scan_zero (zs : List Int) : ScanO zs 0 := ⟨fun z hz => by simp at hz, by simp⟩
theorem nodup_snoc {l : List Int} {p : Int} (h : l.Nodup) (hp : p ∉ l) : (l ++ [p]).Nodup := by
  rw [List.nodup_append]
  refine ⟨h, by simp, fun a ha b hb => ?_⟩
  obtain rfl : b = p := by simpa using hb
  rintro rfl
  exact hp ha
theorem scan_succ {zs : List Int} {j : Nat} {p : Int} (hj : j < zs.length) (hp : zs[j] = p) (h : ScanO zs j) (h7 : 0 ≤ p ∧ p ≤ 7) (hn : p ∉ zs.take j) : ScanO zs (j + 1) := by
  have e := List.take_succ_eq_append_getElem hj
  rw [hp] at e
  unfold ScanO
  rw [e]
  refine ⟨fun z hz => ?_, nodup_snoc h.2 hn⟩
  rcases List.mem_append.1 hz with hz | hz
  · exact h.1 z hz
  · obtain rfl : z = p := by simpa using hz
    exact h7
theorem outs_yes {k : Int} {zs : List Int} (hl : zs.length ≤ 2) (hk : k = 8 → zs = []) (h : ScanO zs zs.length) : outsB k zs = true := by
  unfold ScanO at h
  rw [List.take_length] at h
  exact decide_eq_true ⟨hl, hk, h.1, h.2⟩
theorem outs_bad {k : Int} {zs : List Int} {j : Nat} {p : Int} (hj : j < zs.length) (hp : zs[j] = p) (h7 : ¬(0 ≤ p ∧ p ≤ 7)) : outsB k zs = false :=
  decide_eq_false fun h => h7 (h.2.2.1 p (hp ▸ List.getElem_mem hj))
theorem outs_twice {k : Int} {zs : List Int} {j : Nat} {p : Int} (hj : j < zs.length) (hp : zs[j] = p) (hm : p ∈ zs.take j) : outsB k zs = false :=
  decide_eq_false fun h => by
    have hn := h.2.2.2
    rw [← List.take_append_drop j zs, List.drop_eq_getElem_cons hj, hp, List.nodup_append] at hn
    exact hn.2.2 p hm p (by simp) rfl
theorem outs_long {k : Int} {zs : List Int} (h : 2 < zs.length) : outsB k zs = false := decide_eq_false fun x => by have := x.1; omega
theorem outs_out {zs : List Int} (h : 0 < zs.length) : outsB 8 zs = false := decide_eq_false fun x => by have := x.2.1 rfl; subst this; simp at h
theorem outs_nil (k : Int) : outsB k [] = true := outs_yes (by simp) (fun _ => rfl) (scan_zero [])

end Go.Proofs.YtlanmkimaambgaaGreat.hexes

namespace Go.Proofs.YtlanmkimaambgaaGreat.hexes
open Go.RowKit

theorem alloc_keep {w : World} {o : Obj} {a : Addr} {v : Value} (h : w.cell? a = some v) : (w.alloc o).cell? a = some v :=
  (((Below.refl w.heap.size w).alloc (Nat.le_refl _) o).cell (World.block_lt_of_cell? w _ h)).trans h
theorem drew_keep {w : World} {a : Addr} {v : Value} (h : w.cell? a = some v) : w.drew.cell? a = some v := h

theorem below_keep {w w' : World} {a : Addr} {v : Value} (hb : Below w.heap.size w w') (h : w.cell? a = some v) : w'.cell? a = some v :=
  (hb.cell (World.block_lt_of_cell? w _ h)).trans h

theorem alloc_cells {w : World} {cs : Array Value} {t : TypeId} {g j : Nat} {v : Value} (hg : g = w.heap.size) (hv : cs[j]? = some v) : (w.alloc (.cells cs t)).cell? ⟨g, j, none⟩ = some v := by
  subst hg
  rw [cell_of_row _ _ j cs t (0, 0) (heap_alloc_new w _)]
  exact hv

theorem below_step {B : Nat} {a w w' : World} (h : Below B a w) (hB : B ≤ w.heap.size) (hb : Below w.heap.size w w') : Below B a w' := h.trans (hb.mono hB)

theorem below_chain {a w w' : World} (h : Below a.heap.size a w) (hb : Below w.heap.size w w') : Below a.heap.size a w' := h.trans (hb.mono h.size)

/-- What StampOk answers. -/
def okSt (x y : Int) : Bool := decide (0 ≤ x ∧ x ≤ 3 ∧ 0 ≤ y ∧ y ≤ 6)
/-- What StampLeq answers. -/
def leqSt (x y u v : Int) : Bool := decide (x ≤ u ∧ y ≤ v)
/-- What l02Order answers. -/
def ordI (x u : Int) : Int := if x < u then -1 else if u < x then 1 else 0
/-- What StampOrder answers. -/
def ordSt (x y u v : Int) : Int := if ordI x u = 0 then ordI y v else ordI x u
/-- Whether a stamp has a next turn. -/
def hasNext (x y : Int) : Bool := decide (0 ≤ x ∧ x ≤ 3 ∧ 0 ≤ y ∧ y < 6)

theorem ordI_lt {x u : Int} (h : x < u) : ordI x u = -1 := by unfold ordI; rw [if_pos h]
theorem ordI_gt {x u : Int} (h : u < x) : ordI x u = 1 := by unfold ordI; rw [if_neg (by omega), if_pos h]
theorem ordI_eq (x : Int) : ordI x x = 0 := by unfold ordI; rw [if_neg (by omega), if_neg (by omega)]
theorem ordI_neg (x u : Int) : ordI x u = - ordI u x := by unfold ordI; split <;> split <;> (first | omega | (split <;> omega))
theorem ordI_bd (x u : Int) : -1 ≤ ordI x u ∧ ordI x u ≤ 1 := by unfold ordI; split <;> (first | omega | (split <;> omega))
theorem ordI_zero {x u : Int} (h : ordI x u = 0) : x = u := by unfold ordI at h; split at h <;> (first | omega | (split at h <;> omega))
theorem ordSt_neg (x y u v : Int) : ordSt x y u v = - ordSt u v x y := by
  unfold ordSt
  rw [ordI_neg x u, ordI_neg y v]
  by_cases h : ordI u x = 0
  · simp [h]
  · rw [if_neg (by omega), if_neg h]
theorem ordSt_bd (x y u v : Int) : -1 ≤ ordSt x y u v ∧ ordSt x y u v ≤ 1 := by
  unfold ordSt
  split
  · exact ordI_bd _ _
  · exact ordI_bd _ _
theorem ordSt_zero {x y u v : Int} (h : ordSt x y u v = 0) : x = u ∧ y = v := by
  unfold ordSt at h
  split at h
  · rename_i hx
    exact ⟨ordI_zero hx, ordI_zero h⟩
  · rename_i hx
    exact absurd h hx
theorem ordSt_self (x y : Int) : ordSt x y x y = 0 := by simp [ordSt, ordI_eq]

theorem toStamp_at (x y : Int) (w : World) :
    Calls Tryz.prog 43 #[.agg #[.int .i64 x, .int .i64 y]] w fun e w' => e = .returned (.agg #[.int .i64 x, .int .i64 y]) ∧ ((w.alloc (.cells #[.int .i64 x, .int .i64 y] 61)).alloc (.cells #[.int .i64 x, .int .i64 y] 52)).alloc (.cells #[.int .i64 x, .int .i64 y] 52) = w' := by
  go_enter Tryz.func43, Tryz.ntmps43
  go_wp2
  exact bodyPost_ret (v := .agg #[.int .i64 x, .int .i64 y]) (by simp [results, Tryz.results43, go_sem]) rfl ⟨rfl, rfl⟩

theorem toStamp_any (x y : Int) (w : World) : Calls Tryz.prog 43 #[.agg #[.int .i64 x, .int .i64 y]] w fun e w' => e = .returned (.agg #[.int .i64 x, .int .i64 y]) ∧ Below w.heap.size w w' :=
  (toStamp_at x y w).mono fun _ _ ⟨he, hw⟩ => ⟨he, hw ▸ (((Below.refl _ _).alloc (by simp) _).alloc (by simp) _).alloc (by simp; omega) _⟩

theorem eqStamp_at (x y u v : Int) (w : World) :
    Calls Tryz.prog 46 #[.agg #[.int .i64 x, .int .i64 y], .agg #[.int .i64 u, .int .i64 v]] w fun e w' => e = .returned (.bool (decide (x = u ∧ y = v))) ∧ (w.alloc (.cells #[.int .i64 x, .int .i64 y] 52)).alloc (.cells #[.int .i64 u, .int .i64 v] 52) = w' := by
  go_enter Tryz.func46, Tryz.ntmps46
  go_wp2
  all_goals (go_ret; refine ⟨?_, rfl⟩; simp_all)

theorem eqStamp_any (x y u v : Int) (w : World) : Calls Tryz.prog 46 #[.agg #[.int .i64 x, .int .i64 y], .agg #[.int .i64 u, .int .i64 v]] w fun e w' => e = .returned (.bool (decide (x = u ∧ y = v))) ∧ Below w.heap.size w w' :=
  (eqStamp_at x y u v w).mono fun _ _ ⟨he, hw⟩ => ⟨he, hw ▸ ((Below.refl _ _).alloc (by simp) _).alloc (by simp) _⟩

theorem implOk_at (x y : Int) (w : World) :
    Calls Tryz.prog 73 #[.agg #[.int .i64 x, .int .i64 y]] w fun e w' => e = .returned (.bool (okSt x y)) ∧ w.alloc (.cells #[.int .i64 x, .int .i64 y] 52) = w' := by
  go_enter Tryz.func73, Tryz.ntmps73
  go_wp2
  all_goals (go_ret; refine ⟨?_, rfl⟩; simp_all [okSt]; try omega)

theorem specIn_any (n a b : Int) (w : World) :
    Calls Tryz.prog 50 #[.int .i64 n, .int .i64 a, .int .i64 b] w fun e w' => e = .returned (.bool (decide (a ≤ n ∧ n ≤ b))) ∧ w = w' := by
  go_enter Tryz.func50, Tryz.ntmps50
  go_wp2
  all_goals (go_ret; refine ⟨?_, rfl⟩; simp; omega)

theorem specOk_at (x y : Int) (w : World) :
    Calls Tryz.prog 52 #[.agg #[.int .i64 x, .int .i64 y]] w fun e w' => e = .returned (.bool (okSt x y)) ∧ w.alloc (.cells #[.int .i64 x, .int .i64 y] 52) = w' := by
  go_enter Tryz.func52, Tryz.ntmps52
  go_wp2_with (go_at_call 50; refine (specIn_any _ _ _ _).mono ?_; rintro e w1 ⟨rfl, rfl⟩)
  all_goals (go_ret; refine ⟨?_, rfl⟩; simp_all [okSt]; try omega)

theorem specOk_any (x y : Int) (w : World) : Calls Tryz.prog 52 #[.agg #[.int .i64 x, .int .i64 y]] w fun e w' => e = .returned (.bool (okSt x y)) ∧ Below w.heap.size w w' :=
  (specOk_at x y w).mono fun _ _ ⟨he, hw⟩ => ⟨he, hw ▸ (Below.refl _ _).alloc (by simp) _⟩

theorem implOk_any (x y : Int) (w : World) : Calls Tryz.prog 73 #[.agg #[.int .i64 x, .int .i64 y]] w fun e w' => e = .returned (.bool (okSt x y)) ∧ Below w.heap.size w w' :=
  (implOk_at x y w).mono fun _ _ ⟨he, hw⟩ => ⟨he, hw ▸ (Below.refl _ _).alloc (by simp) _⟩

theorem specLess_any (a b : Int) (w : World) :
    Calls Tryz.prog 53 #[.int .i64 a, .int .i64 b] w fun e w' => e = .returned (.int .i64 (min a b)) ∧ w = w' := by
  go_enter Tryz.func53, Tryz.ntmps53
  go_wp2
  all_goals (go_ret; refine ⟨?_, rfl⟩; simp; omega)

theorem specOrd_any (x u : Int) (w : World) :
    Calls Tryz.prog 80 #[.int .i64 x, .int .i64 u] w fun e w' => e = .returned (.int .i64 (ordI x u)) ∧ w = w' := by
  go_enter Tryz.func80, Tryz.ntmps80
  go_wp2
  all_goals (go_ret; refine ⟨?_, rfl⟩; simp [ordI]; try omega)

/-- The turn that NextTurn answers. -/
def nextY (x y : Int) : Int := if hasNext x y then y + 1 else y
theorem nextY_yes {x y : Int} (h : hasNext x y = true) : nextY x y = y + 1 := by simp [nextY, h]
theorem nextY_no {x y : Int} (h : hasNext x y = false) : nextY x y = y := by simp [nextY, h]
theorem next_cases (x y : Int) : (hasNext x y = true ∧ okSt x y = true ∧ (y == 6) = false ∧ decide (6 ≤ y) = false ∧ IntKind.i64.wrap (y + 1) = y + 1) ∨ (hasNext x y = false ∧ okSt x y = false) ∨ (hasNext x y = false ∧ okSt x y = true ∧ (y == 6) = true ∧ decide (6 ≤ y) = true) := by
  by_cases h : hasNext x y = true
  · left
    have h' := h
    simp only [hasNext, decide_eq_true_eq] at h'
    refine ⟨h, ?_, ?_, ?_, IntWalk.i64_in _ (by omega)⟩
    · simp [okSt]; omega
    · simp; omega
    · simp; omega
  · right
    simp only [Bool.not_eq_true] at h
    have h' := h
    simp only [hasNext, decide_eq_false_iff_not] at h'
    by_cases k : okSt x y = true
    · right
      refine ⟨h, k, ?_, ?_⟩
      · simp only [okSt, decide_eq_true_eq] at k
        simp; omega
      · simp only [okSt, decide_eq_true_eq] at k
        simp; omega
    · left
      exact ⟨h, by simpa using k⟩

theorem implNext_any (x y : Int) (w : World) :
    Calls Tryz.prog 65 #[.agg #[.int .i64 x, .int .i64 y]] w fun e w' => e = .returned (.tuple #[.agg #[.int .i64 x, .int .i64 (nextY x y)], .bool (hasNext x y)]) ∧ Below w.heap.size w w' := by
  rcases next_cases x y with ⟨hn, hok, h6, h7, hm⟩ | ⟨hn, hok⟩ | ⟨hn, hok, h6, h7⟩
  · have hy := nextY_yes hn
    rw [hn, hy]
    clear hn hy
    go_enter Tryz.func65, Tryz.ntmps65
    go_wp2_with (go_at_call 73; refine (implOk_at _ _ _).mono ?_; rintro e w1 ⟨rfl, rfl⟩)
    exact bodyPost_ret (v := .tuple #[.agg #[.int .i64 x, .int .i64 (y + 1)], .bool true]) (by simp [results, Tryz.results65, go_sem]) rfl ⟨rfl, (((Below.refl _ _).alloc (by simp) _).alloc (by simp) _).alloc (by simp; omega) _⟩
  all_goals (
    have hy := nextY_no hn
    rw [hn, hy]
    clear hn hy
    go_enter Tryz.func65, Tryz.ntmps65
    go_wp2_with (go_at_call 73; refine (implOk_at _ _ _).mono ?_; rintro e w1 ⟨rfl, rfl⟩)
    exact bodyPost_ret (v := .tuple #[.agg #[.int .i64 x, .int .i64 y], .bool false]) (by simp [results, Tryz.results65, go_sem]) rfl ⟨rfl, (((Below.refl _ _).alloc (by simp) _).alloc (by simp) _).alloc (by simp; omega) _⟩)

theorem specNext_any (x y : Int) (w : World) :
    Calls Tryz.prog 41 #[.agg #[.int .i64 x, .int .i64 y]] w fun e w' => e = .returned (.tuple #[.agg #[.int .i64 x, .int .i64 (nextY x y)], .bool (hasNext x y)]) ∧ Below w.heap.size w w' := by
  rcases next_cases x y with ⟨hn, hok, h6, h7, hm⟩ | ⟨hn, hok⟩ | ⟨hn, hok, h6, h7⟩
  · have hy := nextY_yes hn
    rw [hn, hy]
    clear hn hy
    go_enter Tryz.func41, Tryz.ntmps41
    go_wp2_with (go_at_call 52; refine (specOk_at _ _ _).mono ?_; rintro e w1 ⟨rfl, rfl⟩)
    exact bodyPost_ret (v := .tuple #[.agg #[.int .i64 x, .int .i64 (y + 1)], .bool true]) (by simp [results, Tryz.results41, go_sem]) rfl ⟨rfl, (((Below.refl _ _).alloc (by simp) _).alloc (by simp) _).alloc (by simp; omega) _⟩
  all_goals (
    have hy := nextY_no hn
    rw [hn, hy]
    clear hn hy
    go_enter Tryz.func41, Tryz.ntmps41
    go_wp2_with (go_at_call 52; refine (specOk_at _ _ _).mono ?_; rintro e w1 ⟨rfl, rfl⟩)
    exact bodyPost_ret (v := .tuple #[.agg #[.int .i64 x, .int .i64 y], .bool false]) (by simp [results, Tryz.results41, go_sem]) rfl ⟨rfl, (((Below.refl _ _).alloc (by simp) _).alloc (by simp) _).alloc (by simp; omega) _⟩)

end Go.Proofs.YtlanmkimaambgaaGreat.hexes

namespace Go.Proofs.YtlanmkimaambgaaGreat.hexes
open Go.RowKit

def fig (x : Nat) : UInt8 := if x < 10 then UInt8.ofNat (48 + x) else UInt8.ofNat (87 + x)
def hexOf (l : List UInt8) : List UInt8 := l.flatMap fun b => [fig (b.toNat / 16), fig (b.toNat % 16)]
def figI (x : Int) : Int := ((fig x.toNat).toNat : Int)
def byteVal (b : UInt8) : Value := .int .u8 (b.toNat : Int)

theorem fig_val (x : Nat) (h : x < 16) : ((fig x).toNat : Int) = if (x : Int) < 10 then 48 + (x : Int) else 97 + (x : Int) - 10 := by
  have : ∀ x, x < 16 → ((fig x).toNat : Int) = if (x : Int) < 10 then 48 + (x : Int) else 97 + (x : Int) - 10 := by decide
  exact this x h

theorem hexOf_snoc (l : List UInt8) (b : UInt8) : hexOf (l ++ [b]) = hexOf l ++ [fig (b.toNat / 16), fig (b.toNat % 16)] := by
  simp [hexOf]

theorem hexOf_length (l : List UInt8) : (hexOf l).length = 2 * l.length := by
  induction l with
  | nil => rfl
  | cons b l ih => simp only [hexOf, List.flatMap_cons, List.length_append, List.length_cons, List.length_nil] at *; omega

theorem take_snoc (s : ByteArray) (k : Nat) (h : k < s.size) : s.data.toList.take (k + 1) = s.data.toList.take k ++ [s[k]] := by
  rw [List.take_succ_eq_append_getElem (by simpa using h)]; rfl

theorem u8info : (Tryz.prog.info? 5).map (fun i => (i.zero, i.size, i.bytes)) = some (some (.int .u8 0), 1, 1) := by kernel_rfl

theorem byte_wraps (n : Nat) (h : n < 256) : IntKind.i64.wrap (n : Int) = n ∧ (n : Int).tdiv 16 = (n : Int) / 16 ∧ IntKind.i64.wrap ((n : Int) / 16) = (n : Int) / 16 ∧ (n : Int).tmod 16 = (n : Int) % 16 :=
  ⟨IntWalk.i64_in _ (by omega), Int.tdiv_eq_ediv_of_nonneg (by omega), IntWalk.i64_in _ (by omega), Int.tmod_eq_emod_of_nonneg (by omega)⟩

theorem own_ge {w : World} {base e size n : Nat} {v : Value} {xs : List Value} (h : w.ownsRow base e size v n xs) : ∀ k, v.ownBlock = some k → base ≤ k := by
  intro k hk
  rcases h.2 with ⟨rfl, _⟩ | ⟨g, cap, cur, rfl, hb, _⟩
  · simp [Value.ownBlock] at hk
  · simp [Value.ownBlock] at hk
    omega

theorem hex_step {w : World} {base k : Nat} {v : Value} {s : ByteArray} (hlt : k < s.size)
    (h : w.ownsRow base 5 1 v (2 * k + 2) ((hexOf (s.data.toList.take k)).map byteVal ++ [.int .u8 (figI ((s[k].toNat : Int) / 16)), .int .u8 (figI ((s[k].toNat : Int) % 16))])) :
    w.ownsRow base 5 1 v (2 * (k + 1)) ((hexOf (s.data.toList.take (k + 1))).map byteVal) := by
  rw [take_snoc s k hlt, hexOf_snoc, List.map_append]
  have e1 : figI ((s[k].toNat : Int) / 16) = ((fig (s[k].toNat / 16)).toNat : Int) := rfl
  have e2 : figI ((s[k].toNat : Int) % 16) = ((fig (s[k].toNat % 16)).toNat : Int) := rfl
  rw [e1, e2] at h
  exact h

abbrev hexD : ByteArray := ⟨#[48, 49, 50, 51, 52, 53, 54, 55, 56, 57, 97, 98, 99, 100, 101, 102]⟩

end Go.Proofs.YtlanmkimaambgaaGreat.hexes

namespace Go.Proofs.YtlanmkimaambgaaGreat.hexes
open Go.RowKit

theorem own_below {W W' : World} {B e size n : Nat} {v : Value} {xs : List Value} (h : W.ownsRow B e size v n xs) (hb : Below W.heap.size W W') : W'.ownsRow B e size v n xs := by
  refine h.kept (row := none) ⟨hb.os, hb.tape, hb.output, hb.size, fun k hk _ => hb.block k hk⟩ ?_
  cases hv : v.ownBlock with
  | none => exact .inl rfl
  | some g => exact .inr (by simp)

theorem own_drewN {W : World} {B e size n : Nat} {v : Value} {xs : List Value} (h : W.ownsRow B e size v n xs) (k : Nat) : (W.drewN k).ownsRow B e size v n xs := h

theorem belowN {B : Nat} {a w : World} (h : Below B a w) (n : Nat) : Below B a (w.drewN n) := ⟨h.os, h.tape, h.output, h.size, h.block⟩

/-- The value of an owned row of n elements: a slice of length n; where there is an element it begins at a block's head. -/
theorem own_form {w : World} {B e size n : Nat} {v : Value} {xs : List Value} (h : w.ownsRow B e size v n xs) :
    ∃ A c, v = .slice A n c ∧ (0 < n → ∃ g, A = some ⟨g, 0, none⟩) := by
  rcases h.2 with ⟨rfl, rfl⟩ | ⟨g, cap, cur, rfl, _⟩
  · exact ⟨none, 0, rfl, fun h => absurd h (by omega)⟩
  · exact ⟨some ⟨g, 0, none⟩, cap, rfl, fun _ => ⟨g, rfl⟩⟩

theorem own_lt {w : World} {B e size n g cap : Nat} {xs : List Value} (h : w.ownsRow B e size (.slice (some ⟨g, 0, none⟩) n cap) n xs) : g < w.heap.size := by
  rcases h.2 with ⟨h', _⟩ | ⟨g', cap', cur, h', _, hg, _⟩
  · simp at h'
  · simp only [Value.slice.injEq, Option.some.injEq, Addr.mk.injEq, and_true, true_and] at h'
    obtain ⟨rfl, rfl⟩ := h'
    rcases Nat.lt_or_ge g w.heap.size with hlt | hge
    · exact hlt
    · rw [Array.getElem?_eq_none hge] at hg; cases hg

theorem own_base {w : World} {B C e size n : Nat} {v : Value} {xs : List Value} (h : w.ownsRow B e size v n xs) (hC : C ≤ B) : w.ownsRow C e size v n xs := by
  refine ⟨h.1, ?_⟩
  rcases h.2 with hh | ⟨g, cap, cur, hv, hb, hr⟩
  · exact .inl hh
  · exact .inr ⟨g, cap, cur, hv, Nat.le_trans hC hb, hr⟩

/-- Two owned rows of which one lies below the other's base share no block. -/
theorem own_apart {w w0 : World} {B e e' size size' n m : Nat} {v u : Value} {xs ys : List Value} (h : w0.ownsRow B e size v n xs) (k : w.ownsRow w0.heap.size e' size' u m ys) : v.ownBlock = none ∨ v.ownBlock ≠ u.ownBlock := by
  rcases h.2 with ⟨rfl, _⟩ | ⟨g, cap, cur, rfl, _, hg, _⟩
  · exact .inl rfl
  · refine .inr ?_
    rcases k.2 with ⟨rfl, _⟩ | ⟨g', cap', cur', rfl, hb', _⟩
    · simp [Value.ownBlock]
    · simp only [Value.ownBlock, ne_eq, Option.some.injEq]
      rintro rfl
      rw [Array.getElem?_eq_none hb'] at hg
      cases hg

theorem grown_below {a w w' : World} {row : Option Nat} (h : a.grownBy w row) (hb : Below w.heap.size w w') : a.grownBy w' row :=
  ⟨hb.os.trans h.os, hb.tape.trans h.tape, hb.output.trans h.output, Nat.le_trans h.size hb.size, fun k hk hn => (hb.block k (Nat.lt_of_lt_of_le hk h.size)).trans (h.block k hk hn)⟩
theorem grown_trans {a b c : World} {row : Option Nat} (h : a.grownBy b row) (k : b.grownBy c row) : a.grownBy c row :=
  ⟨k.os.trans h.os, k.tape.trans h.tape, k.output.trans h.output, Nat.le_trans h.size k.size, fun i hi hn => (k.block i (Nat.lt_of_lt_of_le hi h.size) hn).trans (h.block i hi hn)⟩
theorem grown_refl (a : World) (row : Option Nat) : a.grownBy a row := ⟨rfl, rfl, rfl, Nat.le_refl _, fun _ _ _ => rfl⟩
end Go.Proofs.YtlanmkimaambgaaGreat.hexes

namespace Go.Proofs.YtlanmkimaambgaaGreat.hexes
open Go.RowKit

/-- A list of stamps as a row of cells. -/
def stCells (zs : List (Int × Int)) : List Value := zs.flatMap fun z => [.int .i64 z.1, .int .i64 z.2]

theorem stCells_nil : stCells [] = [] := rfl
theorem stCells_cons (z : Int × Int) (zs : List (Int × Int)) : stCells (z :: zs) = .int .i64 z.1 :: .int .i64 z.2 :: stCells zs := rfl
theorem stCells_append (a b : List (Int × Int)) : stCells (a ++ b) = stCells a ++ stCells b := by simp [stCells]
theorem stCells_length (zs : List (Int × Int)) : (stCells zs).length = zs.length * 2 := by
  induction zs with
  | nil => rfl
  | cons z zs ih => rw [stCells_cons]; simp only [List.length_cons, ih]; omega
theorem stCells_at (zs : List (Int × Int)) (j : Nat) (h : j < zs.length) : (stCells zs)[j * 2]? = some (.int .i64 zs[j].1) ∧ (stCells zs)[j * 2 + 1]? = some (.int .i64 zs[j].2) := by
  induction zs generalizing j with
  | nil => simp at h
  | cons z zs ih =>
    rw [stCells_cons]
    cases j with
    | zero => exact ⟨rfl, rfl⟩
    | succ j =>
      have := ih j (by simpa using h)
      rw [show (j + 1) * 2 = j * 2 + 1 + 1 by omega, show j * 2 + 1 + 1 + 1 = (j * 2 + 1) + 1 + 1 by omega]
      simpa using this

/-- A list of stamps that can be read at A. -/
def Sts (w : World) (A : Option Addr) (zs : List (Int × Int)) : Prop :=
  0 < zs.length → ∃ b off, A = some ⟨b, off, none⟩ ∧ b < w.heap.size ∧ ∀ j, (h : j < zs.length) → w.cell? ⟨b, off + j * 2, none⟩ = some (.int .i64 zs[j].1) ∧ w.cell? ⟨b, off + j * 2 + 1, none⟩ = some (.int .i64 zs[j].2)

theorem Sts.below {w w' : World} {A : Option Addr} {zs : List (Int × Int)} (h : Sts w A zs) (hb : Below w.heap.size w w') : Sts w' A zs := fun hl => by
  obtain ⟨b, off, hA, hlt, hz⟩ := h hl
  exact ⟨b, off, hA, Nat.lt_of_lt_of_le hlt hb.size, fun j hj => ⟨below_keep hb (hz j hj).1, below_keep hb (hz j hj).2⟩⟩

theorem Sts.of_own {w : World} {B e n : Nat} {v : Value} {zs : List (Int × Int)} (h : w.ownsRow B e 2 v n (stCells zs)) : ∃ A cap, v = .slice A n cap ∧ zs.length = n ∧ Sts w A zs := by
  have hl : zs.length = n := by have := h.1; rw [stCells_length] at this; omega
  rcases h.2 with ⟨rfl, rfl⟩ | ⟨g, cap, cur, rfl, _, hg, hnc, _, hcs, htk⟩
  · exact ⟨none, 0, rfl, hl, fun h => absurd h (by omega)⟩
  · refine ⟨some ⟨g, 0, none⟩, cap, rfl, hl, fun hp => ⟨g, 0, rfl, ?_, fun j hj => ?_⟩⟩
    · rcases Nat.lt_or_ge g w.heap.size with hlt | hge
      · exact hlt
      · rw [Array.getElem?_eq_none hge] at hg; cases hg
    · have key : ∀ i u, (stCells zs)[i]? = some u → w.cell? ⟨g, i, none⟩ = some u := fun i u hu => by
        rw [cell_of_row w g i cur e (0, 0) hg]
        rw [← htk, List.getElem?_take] at hu
        split at hu
        · simpa using hu
        · cases hu
      rw [Nat.zero_add]
      exact ⟨key _ _ (stCells_at zs j hj).1, key _ _ (stCells_at zs j hj).2⟩

theorem take_step {zs ys : List (Int × Int)} {k : Nat} (h1 : k < zs.length) (h2 : k < ys.length) (ht : zs.take k = ys.take k) (he : zs[k] = ys[k]) : zs.take (k + 1) = ys.take (k + 1) := by
  rw [List.take_succ_eq_append_getElem h1, List.take_succ_eq_append_getElem h2, ht, he]

theorem eqSt_is {x y u v : Int} {b : Bool} (h : decide (x = u ∧ y = v) = b) (W : World) : Calls Tryz.prog 46 #[.agg #[.int .i64 x, .int .i64 y], .agg #[.int .i64 u, .int .i64 v]] W fun e w' => e = .returned (.bool b) ∧ Below W.heap.size W w' := by
  subst h; exact eqStamp_any _ _ _ _ W

/-- The k-th stamp of a list that can be read, cell by cell. -/
theorem Sts.at {w : World} {A : Option Addr} {zs : List (Int × Int)} (h : Sts w A zs) {k : Nat} (hk : k < zs.length) : ∃ b off p q, A = some ⟨b, off, none⟩ ∧ zs[k] = (p, q) ∧ w.cell? ⟨b, off + k * 2, none⟩ = some (.int .i64 p) ∧ w.cell? ⟨b, off + k * 2 + 1, none⟩ = some (.int .i64 q) := by
  obtain ⟨b, off, hA, _, hz⟩ := h (by omega)
  exact ⟨b, off, zs[k].1, zs[k].2, hA, rfl, (hz k hk).1, (hz k hk).2⟩

theorem stinfo : (Tryz.prog.info? 52).map (fun i => (i.zero, i.size, i.bytes)) = some (some (.agg #[.int .i64 0, .int .i64 0]), 2, 16) := by kernel_rfl

theorem stCells_made (n : Nat) : (madeCells #[.int .i64 0, .int .i64 0] (n * 2)).toList = stCells (List.replicate n (0, 0)) := by
  apply List.ext_getElem?
  intro i
  have hl : (stCells (List.replicate n ((0 : Int), (0 : Int)))).length = n * 2 := by rw [stCells_length]; simp
  by_cases hi : i < n * 2
  · have hL : (madeCells #[.int .i64 0, .int .i64 0] (n * 2)).toList[i]? = some (.int .i64 0) := by
      simp only [madeCells, Array.toList_map, Array.toList_range, List.getElem?_map, List.getElem?_range hi, Option.map_some]
      rcases Nat.mod_two_eq_zero_or_one i with h | h
      · simp [h]
      · simp [h]
    rw [hL]
    have hj : i / 2 < (List.replicate n ((0 : Int), (0 : Int))).length := by simp; omega
    have := stCells_at (List.replicate n (0, 0)) (i / 2) hj
    rcases Nat.mod_two_eq_zero_or_one i with h | h
    · rw [show i / 2 * 2 = i by omega] at this
      rw [this.1]; simp
    · rw [show i / 2 * 2 + 1 = i by omega] at this
      rw [this.2]; simp
  · rw [List.getElem?_eq_none (by simp [size_madeCells]; omega), List.getElem?_eq_none (by omega)]

theorem stCells_set (zs : List (Int × Int)) (k : Nat) (x y : Int) : ((stCells zs).set (k * 2) (.int .i64 x)).set (k * 2 + 1) (.int .i64 y) = stCells (zs.set k (x, y)) := by
  induction zs generalizing k with
  | nil => simp [stCells]
  | cons z zs ih =>
    cases k with
    | zero => rfl
    | succ k =>
      rw [stCells_cons, List.set_cons_succ, stCells_cons, ← ih k, show (k + 1) * 2 = k * 2 + 2 by omega, show k * 2 + 2 + 1 = (k * 2 + 1) + 2 by omega]
      rfl

theorem fill_step {zs : List (Int × Int)} {k n : Nat} (hk : k < zs.length) (hn : zs.length = n) : (zs.take k ++ List.replicate (n - k) ((0 : Int), (0 : Int))).set k zs[k] = zs.take (k + 1) ++ List.replicate (n - (k + 1)) (0, 0) := by
  have hl : (zs.take k).length = k := by simp; omega
  rw [List.set_append_right _ _ (by omega), hl, Nat.sub_self, show n - k = (n - (k + 1)) + 1 by omega, List.replicate_succ, List.set_cons_zero, List.take_succ_eq_append_getElem hk]
  simp only [List.append_assoc, List.singleton_append]

/-- A store of a stamp into an owned row. -/
theorem own_stored2 {w : World} {base e g n cap : Nat} {ys : List (Int × Int)} (h : w.ownsRow base e 2 (.slice (some ⟨g, 0, none⟩) n cap) n (stCells ys)) (k : Nat) (x y : Int) :
    ((w.setCell ⟨g, k * 2, none⟩ (.int .i64 x)).setCell ⟨g, k * 2 + 1, none⟩ (.int .i64 y)).ownsRow base e 2 (.slice (some ⟨g, 0, none⟩) n cap) n (stCells (ys.set k (x, y))) ∧ w.grownBy ((w.setCell ⟨g, k * 2, none⟩ (.int .i64 x)).setCell ⟨g, k * 2 + 1, none⟩ (.int .i64 y)) (some g) := by
  have h1 := h.stored (k * 2) (.int .i64 x)
  have h2 := h1.1.stored (k * 2 + 1) (.int .i64 y)
  rw [stCells_set] at h2
  exact ⟨h2.1, grown_trans h1.2 h2.2⟩

/-- The marks that the laws lay into a list of stamps. -/
def stMarks (k n : Nat) : List (Int × Int) := (List.range n).map fun i => (((k + 2 * i : Nat) : Int), ((k + 2 * i + 1 : Nat) : Int))

theorem stMarks_length (k n : Nat) : (stMarks k n).length = n := by simp [stMarks]
theorem stMarks_succ (k n : Nat) : stMarks k (n + 1) = stMarks k n ++ [(((k + 2 * n : Nat) : Int), ((k + 2 * n + 1 : Nat) : Int))] := by
  unfold stMarks; rw [List.range_succ, List.map_append]; rfl
theorem stMarks_at (k n j : Nat) (h : j < (stMarks k n).length) : (stMarks k n)[j] = (((k + 2 * j : Nat) : Int), ((k + 2 * j + 1 : Nat) : Int)) := by simp [stMarks]
theorem stMarks_set {zs : List (Int × Int)} {k i n : Nat} (hi : i < n) (hl : zs.length = n) : (stMarks k i ++ zs.drop i).set i (((k + 2 * i : Nat) : Int), ((k + 2 * i + 1 : Nat) : Int)) = stMarks k (i + 1) ++ zs.drop (i + 1) := by
  have l1 := stMarks_length k i
  rw [List.set_append_right _ _ (by omega), l1, Nat.sub_self, List.drop_eq_getElem_cons (by omega), List.set_cons_zero, stMarks_succ]
  simp only [List.append_assoc, List.singleton_append]

end Go.Proofs.YtlanmkimaambgaaGreat.hexes

