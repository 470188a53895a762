/-
  Nodes as plain data: when one is right, what it makes of a record.
  Stamps: the contracts of the laws' toStamp and eqStamp, and of chapter 2's functions on both sides.
  Bytes and their hexadecimal figures as plain functions; a row of bytes that the call itself owns, turned into a string.
  Rows that the call itself owns: their shape, that they stand behind a call that turns nothing old, and a world in which one of them alone was written.
  Lists of stamps in memory: how they lie there, and the contracts of the laws' own functions on them.
-/
import Derived.Lib.Hide
import Derived.Test.YtbbagpnjjjohpaaProg
import Derived.WalkKit
import Derived.WalkMore
import Derived.Below
import Derived.WalkSpells
import Derived.Deep.RegionHeld3
import Derived.Test.YtbbagpnjjjohpaaRows
import Derived.Laws.IdiomStrings
import Derived.Deep.AppendLies
import Derived.Outline
import Derived.Deep.Draws
import Derived.Deep.QuietTactic
import Derived.BigQuiet

namespace Go.Proofs.Ytbbagpnjjjohpaa.hexes

def kB (k : Int) : Bool := decide (1 ≤ k ∧ k ≤ 8)
def aB (k a : Int) : Bool := if k = 2 then decide (0 ≤ a ∧ a ≤ 999) else if k = 3 then decide (1 ≤ a ∧ a ≤ 10) else if k = 4 then decide (0 ≤ a ∧ a ≤ 99) else a == 0
/-- d: what A less 1 comes to. -/
def bB (k b d : Int) : Bool := if k = 3 then decide (0 ≤ b ∧ b ≤ d) else b == 0
def setB (k a b d : Int) : Bool := kB k && aB k a && bB k b d
def outsB (k : Int) (zs : List Int) : Bool := decide (zs.length ≤ 2 ∧ (k = 8 → zs = []) ∧ (∀ z ∈ zs, 0 ≤ z ∧ z ≤ 7) ∧ zs.Nodup)
def okNd (k a b d : Int) (zs : List Int) : Bool := setB k a b d && outsB k zs

theorem aB_2 (a : Int) : decide (0 ≤ a ∧ a ≤ 999) = aB 2 a := by simp [aB]
theorem aB_3 (a : Int) : decide (1 ≤ a ∧ a ≤ 10) = aB 3 a := by simp [aB]
theorem aB_4 (a : Int) : decide (0 ≤ a ∧ a ≤ 99) = aB 4 a := by simp [aB]
theorem aB_o {k : Int} (a : Int) (h2 : k ≠ 2) (h3 : k ≠ 3) (h4 : k ≠ 4) : (a == 0) = aB k a := by simp [aB, h2, h3, h4]
theorem bB_3 (b d : Int) : decide (0 ≤ b ∧ b ≤ d) = bB 3 b d := by simp [bB]
theorem bB_o {k : Int} (b d : Int) (h3 : k ≠ 3) : (b == 0) = bB k b d := by simp [bB, h3]

/-- The first j successors are right. -/
def ScanO (zs : List Int) (j : Nat) : Prop := (∀ z ∈ zs.take j, 0 ≤ z ∧ z ≤ 7) ∧ (zs.take j).Nodup

theorem scan_zero (zs : List Int) : ScanO zs 0 := ⟨fun z hz => by simp at hz, by simp⟩
theorem nodup_snoc {l : List Int} {p : Int} (h : l.Nodup) (hp : p ∉ l) : (l ++ [p]).Nodup := by
  rw [List.nodup_append]
  refine ⟨h, by simp, fun a ha b hb => ?_⟩
  obtain rfl : b = p := by simpa using hb
  rintro rfl
  exact hp ha
theorem scan_succ {zs : List Int} {j : Nat} {p : Int} (hj : j < zs.length) (hp : zs[j] = p) (h : ScanO zs j) (h7 : 0 ≤ p ∧ p ≤ 7) (hn : p ∉ zs.take j) : ScanO zs (j + 1) := by
  have e := List.take_succ_eq_append_getElem hj
  rw [hp] at e
  unfold ScanO
  rw [e]
  refine ⟨fun z hz => ?_, nodup_snoc h.2 hn⟩
  rcases List.mem_append.1 hz with hz | hz
  · exact h.1 z hz
  · obtain rfl : z = p := by simpa using hz
    exact h7
theorem outs_yes {k : Int} {zs : List Int} (hl : zs.length ≤ 2) (hk : k = 8 → zs = []) (h : ScanO zs zs.length) : outsB k zs = true := by
  unfold ScanO at h
  rw [List.take_length] at h
  exact decide_eq_true ⟨hl, hk, h.1, h.2⟩
theorem outs_bad {k : Int} {zs : List Int} {j : Nat} {p : Int} (hj : j < zs.length) (hp : zs[j] = p) (h7 : ¬(0 ≤ p ∧ p ≤ 7)) : outsB k zs = false :=
  decide_eq_false fun h => h7 (h.2.2.1 p (hp ▸ List.getElem_mem hj))
theorem outs_twice {k : Int} {zs : List Int} {j : Nat} {p : Int} (hj : j < zs.length) (hp : zs[j] = p) (hm : p ∈ zs.take j) : outsB k zs = false :=
  decide_eq_false fun h => by
    have hn := h.2.2.2
    rw [← List.take_append_drop j zs, List.drop_eq_getElem_cons hj, hp, List.nodup_append] at hn
    exact hn.2.2 p hm p (by simp) rfl
theorem outs_long {k : Int} {zs : List Int} (h : 2 < zs.length) : outsB k zs = false := decide_eq_false fun x => by have := x.1; omega
theorem outs_out {zs : List Int} (h : 0 < zs.length) : outsB 8 zs = false := decide_eq_false fun x => by have := x.2.1 rfl; subst this; simp at h
theorem outs_nil (k : Int) : outsB k [] = true := outs_yes (by simp) (fun _ => rfl) (scan_zero [])

end Go.Proofs.Ytbbagpnjjjohpaa.hexes

namespace Go.Proofs.Ytbbagpnjjjohpaa.hexes
open Go.RowKit

theorem alloc_keep {w : World} {o : Obj} {a : Addr} {v : Value} (h : w.cell? a = some v) : (w.alloc o).cell? a = some v :=
  (((Below.refl w.heap.size w).alloc (Nat.le_refl _) o).cell (World.block_lt_of_cell? w _ h)).trans h
theorem drew_keep {w : World} {a : Addr} {v : Value} (h : w.cell? a = some v) : w.drew.cell? a = some v := h

theorem below_keep {w w' : World} {a : Addr} {v : Value} (hb : Below w.heap.size w w') (h : w.cell? a = some v) : w'.cell? a = some v :=
  (hb.cell (World.block_lt_of_cell? w _ h)).trans h

theorem alloc_cells {w : World} {cs : Array Value} {t : TypeId} {g j : Nat} {v : Value} (hg : g = w.heap.size) (hv : cs[j]? = some v) : (w.alloc (.cells cs t)).cell? ⟨g, j, none⟩ = some v := by
  subst hg
  rw [cell_of_row _ _ j cs t (0, 0) (heap_alloc_new w _)]
  exact hv

theorem below_chain {a w w' : World} (h : Below a.heap.size a w) (hb : Below w.heap.size w w') : Below a.heap.size a w' := h.trans (hb.mono h.size)

/-- What StampOk answers. -/
def okSt (x y : Int) : Bool := decide (0 ≤ x ∧ x ≤ 3 ∧ 0 ≤ y ∧ y ≤ 6)
/-- What StampLeq answers. -/
def leqSt (x y u v : Int) : Bool := decide (x ≤ u ∧ y ≤ v)
/-- What l02Order answers. -/
def ordI (x u : Int) : Int := if x < u then -1 else if u < x then 1 else 0
/-- Whether a stamp has a next turn. -/
def hasNext (x y : Int) : Bool := decide (0 ≤ x ∧ x ≤ 3 ∧ 0 ≤ y ∧ y < 6)

theorem implOk_at (x y : Int) (w : World) :
    Calls Try.prog 104 #[.agg #[.int .i64 x, .int .i64 y]] w fun e w' => e = .returned (.bool (okSt x y)) ∧ w.alloc (.cells #[.int .i64 x, .int .i64 y] 49) = w' := by
  go_enter Try.func104, Try.ntmps104
  go_wp2
  all_goals (go_ret; refine ⟨?_, rfl⟩; simp_all [okSt]; try omega)

theorem specIn_any (n a b : Int) (w : World) :
    Calls Try.prog 57 #[.int .i64 n, .int .i64 a, .int .i64 b] w fun e w' => e = .returned (.bool (decide (a ≤ n ∧ n ≤ b))) ∧ w = w' := by
  go_enter Try.func57, Try.ntmps57
  go_wp2
  all_goals (go_ret; refine ⟨?_, rfl⟩; simp; omega)

theorem implOk_any (x y : Int) (w : World) : Calls Try.prog 104 #[.agg #[.int .i64 x, .int .i64 y]] w fun e w' => e = .returned (.bool (okSt x y)) ∧ Below w.heap.size w w' :=
  (implOk_at x y w).mono fun _ _ ⟨he, hw⟩ => ⟨he, hw ▸ (Below.refl _ _).alloc (by simp) _⟩

theorem specOrd_any (x u : Int) (w : World) :
    Calls Try.prog 120 #[.int .i64 x, .int .i64 u] w fun e w' => e = .returned (.int .i64 (ordI x u)) ∧ w = w' := by
  go_enter Try.func120, Try.ntmps120
  go_wp2
  all_goals (go_ret; refine ⟨?_, rfl⟩; simp [ordI]; try omega)

end Go.Proofs.Ytbbagpnjjjohpaa.hexes

namespace Go.Proofs.Ytbbagpnjjjohpaa.hexes
open Go.RowKit

theorem own_ge {w : World} {base e size n : Nat} {v : Value} {xs : List Value} (h : w.ownsRow base e size v n xs) : ∀ k, v.ownBlock = some k → base ≤ k := by
  intro k hk
  rcases h.2 with ⟨rfl, _⟩ | ⟨g, cap, cur, rfl, hb, _⟩
  · simp [Value.ownBlock] at hk
  · simp [Value.ownBlock] at hk
    omega

end Go.Proofs.Ytbbagpnjjjohpaa.hexes

namespace Go.Proofs.Ytbbagpnjjjohpaa.hexes
open Go.RowKit

theorem own_below {W W' : World} {B e size n : Nat} {v : Value} {xs : List Value} (h : W.ownsRow B e size v n xs) (hb : Below W.heap.size W W') : W'.ownsRow B e size v n xs := by
  refine h.kept (row := none) ⟨hb.os, hb.tape, hb.output, hb.size, fun k hk _ => hb.block k hk⟩ ?_
  cases hv : v.ownBlock with
  | none => exact .inl rfl
  | some g => exact .inr (by simp)

theorem own_drewN {W : World} {B e size n : Nat} {v : Value} {xs : List Value} (h : W.ownsRow B e size v n xs) (k : Nat) : (W.drewN k).ownsRow B e size v n xs := h

theorem belowN {B : Nat} {a w : World} (h : Below B a w) (n : Nat) : Below B a (w.drewN n) := ⟨h.os, h.tape, h.output, h.size, h.block⟩

/-- The value of an owned row of n elements: a slice of length n; where there is an element it begins at a block's head. -/
theorem own_form {w : World} {B e size n : Nat} {v : Value} {xs : List Value} (h : w.ownsRow B e size v n xs) :
    ∃ A c, v = .slice A n c ∧ (0 < n → ∃ g, A = some ⟨g, 0, none⟩) := by
  rcases h.2 with ⟨rfl, rfl⟩ | ⟨g, cap, cur, rfl, _⟩
  · exact ⟨none, 0, rfl, fun h => absurd h (by omega)⟩
  · exact ⟨some ⟨g, 0, none⟩, cap, rfl, fun _ => ⟨g, rfl⟩⟩

theorem own_lt {w : World} {B e size n g cap : Nat} {xs : List Value} (h : w.ownsRow B e size (.slice (some ⟨g, 0, none⟩) n cap) n xs) : g < w.heap.size := by
  rcases h.2 with ⟨h', _⟩ | ⟨g', cap', cur, h', _, hg, _⟩
  · simp at h'
  · simp only [Value.slice.injEq, Option.some.injEq, Addr.mk.injEq, and_true, true_and] at h'
    obtain ⟨rfl, rfl⟩ := h'
    rcases Nat.lt_or_ge g w.heap.size with hlt | hge
    · exact hlt
    · rw [Array.getElem?_eq_none hge] at hg; cases hg

theorem own_base {w : World} {B C e size n : Nat} {v : Value} {xs : List Value} (h : w.ownsRow B e size v n xs) (hC : C ≤ B) : w.ownsRow C e size v n xs := by
  refine ⟨h.1, ?_⟩
  rcases h.2 with hh | ⟨g, cap, cur, hv, hb, hr⟩
  · exact .inl hh
  · exact .inr ⟨g, cap, cur, hv, Nat.le_trans hC hb, hr⟩

theorem grown_below {a w w' : World} {row : Option Nat} (h : a.grownBy w row) (hb : Below w.heap.size w w') : a.grownBy w' row :=
  ⟨hb.os.trans h.os, hb.tape.trans h.tape, hb.output.trans h.output, Nat.le_trans h.size hb.size, fun k hk hn => (hb.block k (Nat.lt_of_lt_of_le hk h.size)).trans (h.block k hk hn)⟩
theorem grown_trans {a b c : World} {row : Option Nat} (h : a.grownBy b row) (k : b.grownBy c row) : a.grownBy c row :=
  ⟨k.os.trans h.os, k.tape.trans h.tape, k.output.trans h.output, Nat.le_trans h.size k.size, fun i hi hn => (k.block i (Nat.lt_of_lt_of_le hi h.size) hn).trans (h.block i hi hn)⟩
theorem grown_refl (a : World) (row : Option Nat) : a.grownBy a row := ⟨rfl, rfl, rfl, Nat.le_refl _, fun _ _ _ => rfl⟩
end Go.Proofs.Ytbbagpnjjjohpaa.hexes

namespace Go.Proofs.Ytbbagpnjjjohpaa.hexes
open Go.RowKit

/-- A list of stamps as a row of cells. -/
def stCells (zs : List (Int × Int)) : List Value := zs.flatMap fun z => [.int .i64 z.1, .int .i64 z.2]

theorem stCells_cons (z : Int × Int) (zs : List (Int × Int)) : stCells (z :: zs) = .int .i64 z.1 :: .int .i64 z.2 :: stCells zs := rfl
theorem stCells_length (zs : List (Int × Int)) : (stCells zs).length = zs.length * 2 := by
  induction zs with
  | nil => rfl
  | cons z zs ih => rw [stCells_cons]; simp only [List.length_cons, ih]; omega
theorem stCells_at (zs : List (Int × Int)) (j : Nat) (h : j < zs.length) : (stCells zs)[j * 2]? = some (.int .i64 zs[j].1) ∧ (stCells zs)[j * 2 + 1]? = some (.int .i64 zs[j].2) := by
  induction zs generalizing j with
  | nil => simp at h
  | cons z zs ih =>
    rw [stCells_cons]
    cases j with
    | zero => exact ⟨rfl, rfl⟩
    | succ j =>
      have := ih j (by simpa using h)
      rw [show (j + 1) * 2 = j * 2 + 1 + 1 by omega, show j * 2 + 1 + 1 + 1 = (j * 2 + 1) + 1 + 1 by omega]
      simpa using this

/-- A list of stamps that can be read at A. -/
def Sts (w : World) (A : Option Addr) (zs : List (Int × Int)) : Prop :=
  0 < zs.length → ∃ b off, A = some ⟨b, off, none⟩ ∧ b < w.heap.size ∧ ∀ j, (h : j < zs.length) → w.cell? ⟨b, off + j * 2, none⟩ = some (.int .i64 zs[j].1) ∧ w.cell? ⟨b, off + j * 2 + 1, none⟩ = some (.int .i64 zs[j].2)

theorem Sts.below {w w' : World} {A : Option Addr} {zs : List (Int × Int)} (h : Sts w A zs) (hb : Below w.heap.size w w') : Sts w' A zs := fun hl => by
  obtain ⟨b, off, hA, hlt, hz⟩ := h hl
  exact ⟨b, off, hA, Nat.lt_of_lt_of_le hlt hb.size, fun j hj => ⟨below_keep hb (hz j hj).1, below_keep hb (hz j hj).2⟩⟩

theorem Sts.of_own {w : World} {B e n : Nat} {v : Value} {zs : List (Int × Int)} (h : w.ownsRow B e 2 v n (stCells zs)) : ∃ A cap, v = .slice A n cap ∧ zs.length = n ∧ Sts w A zs := by
  have hl : zs.length = n := by have := h.1; rw [stCells_length] at this; omega
  rcases h.2 with ⟨rfl, rfl⟩ | ⟨g, cap, cur, rfl, _, hg, hnc, _, hcs, htk⟩
  · exact ⟨none, 0, rfl, hl, fun h => absurd h (by omega)⟩
  · refine ⟨some ⟨g, 0, none⟩, cap, rfl, hl, fun hp => ⟨g, 0, rfl, ?_, fun j hj => ?_⟩⟩
    · rcases Nat.lt_or_ge g w.heap.size with hlt | hge
      · exact hlt
      · rw [Array.getElem?_eq_none hge] at hg; cases hg
    · have key : ∀ i u, (stCells zs)[i]? = some u → w.cell? ⟨g, i, none⟩ = some u := fun i u hu => by
        rw [cell_of_row w g i cur e (0, 0) hg]
        rw [← htk, List.getElem?_take] at hu
        split at hu
        · simpa using hu
        · cases hu
      rw [Nat.zero_add]
      exact ⟨key _ _ (stCells_at zs j hj).1, key _ _ (stCells_at zs j hj).2⟩

/-- The k-th stamp of a list that can be read, cell by cell. -/
theorem Sts.at {w : World} {A : Option Addr} {zs : List (Int × Int)} (h : Sts w A zs) {k : Nat} (hk : k < zs.length) : ∃ b off p q, A = some ⟨b, off, none⟩ ∧ zs[k] = (p, q) ∧ w.cell? ⟨b, off + k * 2, none⟩ = some (.int .i64 p) ∧ w.cell? ⟨b, off + k * 2 + 1, none⟩ = some (.int .i64 q) := by
  obtain ⟨b, off, hA, _, hz⟩ := h (by omega)
  exact ⟨b, off, zs[k].1, zs[k].2, hA, rfl, (hz k hk).1, (hz k hk).2⟩

end Go.Proofs.Ytbbagpnjjjohpaa.hexes

