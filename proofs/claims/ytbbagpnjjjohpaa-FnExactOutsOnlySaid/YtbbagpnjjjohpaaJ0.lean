/-
  Nodes as plain data: when one is right, what it makes of a record.
  Stamps: the contracts of the laws' toStamp and eqStamp, and of chapter 2's functions on both sides.
  Bytes and their hexadecimal figures as plain functions; a row of bytes that the call itself owns, turned into a string.
-/
import Derived.Lib.Hide
import Derived.Test.YtbbagpnjjjohpaaProg
import Derived.WalkKit
import Derived.WalkMore
import Derived.Below
import Derived.WalkSpells
import Derived.Deep.RegionHeld3
import Derived.Test.YtbbagpnjjjohpaaRows
import Derived.Laws.IdiomStrings
import Derived.Deep.AppendLies
import Derived.Outline

namespace Go.Proofs.Ytbbagpnjjjohpaa.hexes

def kB (k : Int) : Bool := decide (1 ≤ k ∧ k ≤ 8)
def aB (k a : Int) : Bool := if k = 2 then decide (0 ≤ a ∧ a ≤ 999) else if k = 3 then decide (1 ≤ a ∧ a ≤ 10) else if k = 4 then decide (0 ≤ a ∧ a ≤ 99) else a == 0
/-- d: what A less 1 comes to. -/
def bB (k b d : Int) : Bool := if k = 3 then decide (0 ≤ b ∧ b ≤ d) else b == 0
def setB (k a b d : Int) : Bool := kB k && aB k a && bB k b d
def outsB (k : Int) (zs : List Int) : Bool := decide (zs.length ≤ 2 ∧ (k = 8 → zs = []) ∧ (∀ z ∈ zs, 0 ≤ z ∧ z ≤ 7) ∧ zs.Nodup)
def okNd (k a b d : Int) (zs : List Int) : Bool := setB k a b d && outsB k zs

end Go.Proofs.Ytbbagpnjjjohpaa.hexes

namespace Go.Proofs.Ytbbagpnjjjohpaa.hexes
open Go.RowKit

theorem drew_keep {w : World} {a : Addr} {v : Value} (h : w.cell? a = some v) : w.drew.cell? a = some v := h

theorem below_keep {w w' : World} {a : Addr} {v : Value} (hb : Below w.heap.size w w') (h : w.cell? a = some v) : w'.cell? a = some v :=
  (hb.cell (World.block_lt_of_cell? w _ h)).trans h

theorem alloc_cells {w : World} {cs : Array Value} {t : TypeId} {g j : Nat} {v : Value} (hg : g = w.heap.size) (hv : cs[j]? = some v) : (w.alloc (.cells cs t)).cell? ⟨g, j, none⟩ = some v := by
  subst hg
  rw [cell_of_row _ _ j cs t (0, 0) (heap_alloc_new w _)]
  exact hv

theorem below_chain {a w w' : World} (h : Below a.heap.size a w) (hb : Below w.heap.size w w') : Below a.heap.size a w' := h.trans (hb.mono h.size)

/-- What StampOk answers. -/
def okSt (x y : Int) : Bool := decide (0 ≤ x ∧ x ≤ 3 ∧ 0 ≤ y ∧ y ≤ 6)
/-- What StampLeq answers. -/
def leqSt (x y u v : Int) : Bool := decide (x ≤ u ∧ y ≤ v)
/-- Whether a stamp has a next turn. -/
def hasNext (x y : Int) : Bool := decide (0 ≤ x ∧ x ≤ 3 ∧ 0 ≤ y ∧ y < 6)

theorem specIn_any (n a b : Int) (w : World) :
    Calls Try.prog 57 #[.int .i64 n, .int .i64 a, .int .i64 b] w fun e w' => e = .returned (.bool (decide (a ≤ n ∧ n ≤ b))) ∧ w = w' := by
  go_enter Try.func57, Try.ntmps57
  go_wp2
  all_goals (go_ret; refine ⟨?_, rfl⟩; simp; omega)

end Go.Proofs.Ytbbagpnjjjohpaa.hexes

namespace Go.Proofs.Ytbbagpnjjjohpaa.hexes
open Go.RowKit

theorem own_ge {w : World} {base e size n : Nat} {v : Value} {xs : List Value} (h : w.ownsRow base e size v n xs) : ∀ k, v.ownBlock = some k → base ≤ k := by
  intro k hk
  rcases h.2 with ⟨rfl, _⟩ | ⟨g, cap, cur, rfl, hb, _⟩
  · simp [Value.ownBlock] at hk
  · simp [Value.ownBlock] at hk
    omega

end Go.Proofs.Ytbbagpnjjjohpaa.hexes

