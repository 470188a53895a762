/-
  A block beside a store elsewhere.
  NodeOk on both sides.
  Changed on both sides.
  Stores beside an owned row.
-/
import Derived.Test.YtbbagpnjjjohpaaJ3
import Derived.Test.YtbbagpnjjjohpaaJ0
import Derived.Test.YtbbagpnjjjohpaaJ6
import Derived.Deep.DeepCutAuto
import Derived.Deep.QuietTactic
import Derived.BigQuiet
import Derived.Deep.CutBlock
import Derived.Deep.RegionHeld3
import Derived.Test.YtbbagpnjjjohpaaJ1

namespace Go.Proofs.Ytbbagpnjjjohpaa.hexes
open Go.RowKit
theorem Blk.other {w : World} {g : Nat} {t : TypeId} {cs : Array Value} (h : Blk w g t cs) {p : Addr} (hne : g ≠ p.block) (u : Value) : Blk (w.setCell p u) g t cs := (Below.heap_setCell w p u g hne).trans h
end Go.Proofs.Ytbbagpnjjjohpaa.hexes

namespace Go.Proofs.Ytbbagpnjjjohpaa.hexes
open Go.RowKit

theorem specInN_is {n a b : Int} {r : Bool} (h : decide (a ≤ n ∧ n ≤ b) = r) (W : World) : Calls Try.prog 57 #[.int .i64 n, .int .i64 a, .int .i64 b] W fun e w' => e = .returned (.bool r) ∧ W = w' := by
  subst h
  exact specIn_any n a b W

theorem implInN_is {n b : Int} {r : Bool} (h : decide (0 ≤ n ∧ n ≤ b) = r) (W : World) : Calls Try.prog 103 #[.int .i64 n, .int .i64 b] W fun e w' => e = .returned (.bool r) ∧ W = w' := by
  subst h
  by_cases h1 : 0 ≤ n
  · by_cases h2 : n ≤ b
    · have q1 : decide (n ≥ 0) = true := decide_eq_true h1
      have q2 : decide (n ≤ b) = true := decide_eq_true h2
      have q3 := Lib.hid (show decide (0 ≤ n ∧ n ≤ b) = true from decide_eq_true ⟨h1, h2⟩)
      rw [q3.out]
      clear h1 h2
      go_enter Try.func103, Try.ntmps103
      go_wp2
      go_ret
      exact ⟨rfl, rfl⟩
    · have q1 : decide (n ≥ 0) = true := decide_eq_true h1
      have q2 : decide (n ≤ b) = false := decide_eq_false h2
      have q3 := Lib.hid (show decide (0 ≤ n ∧ n ≤ b) = false from decide_eq_false (fun h => h2 h.2))
      rw [q3.out]
      clear h1 h2
      go_enter Try.func103, Try.ntmps103
      go_wp2
      go_ret
      exact ⟨rfl, rfl⟩
  · have q1 : decide (n ≥ 0) = false := decide_eq_false h1
    have q3 := Lib.hid (show decide (0 ≤ n ∧ n ≤ b) = false from decide_eq_false (fun h => h1 h.1))
    rw [q3.out]
    clear h1
    go_enter Try.func103, Try.ntmps103
    go_wp2
    go_ret
    exact ⟨rfl, rfl⟩

theorem Ints.take {w : World} {A : Option Addr} {zs : List Int} (h : Ints w A zs) (k : Nat) : Ints w A (zs.take k) := fun hl => by
  have hl' : 0 < zs.length := by simp at hl; omega
  obtain ⟨b, off, hA, hlt, hz⟩ := h hl'
  refine ⟨b, off, hA, hlt, fun j hj => ?_⟩
  have := hz j (by simp at hj; omega)
  simpa using this

end Go.Proofs.Ytbbagpnjjjohpaa.hexes

namespace Go.Proofs.Ytbbagpnjjjohpaa.hexes
open Go.RowKit

/-- The node is right, and so are the key and the value. -/
def okC (k a b d key val : Int) (zs : List Int) : Bool := okNd k a b d zs && decide (0 ≤ key ∧ key ≤ 99) && decide (0 ≤ val ∧ val ≤ 999)

def chgK (c : Bool) (k a key : Int) : Int := if c = true ∧ k = 4 then (key + a) % 100 else key
def chgV (c : Bool) (k a val : Int) : Int := if c = true ∧ k = 2 then (if 999 < val + a then 999 else val + a) else val
def chgO (c : Bool) (k a b key : Int) : Bool := c && (if k = 3 then key % a == b else k != 8)

end Go.Proofs.Ytbbagpnjjjohpaa.hexes

namespace Go.Proofs.Ytbbagpnjjjohpaa.hexes
open Go.RowKit

theorem grown_set (w : World) (p : Addr) (u : Value) : w.grownBy (w.setCell p u) (some p.block) :=
  ⟨rfl, rfl, rfl, by simp [World.setCell], fun i _ hne => Below.heap_setCell w p u i (by rintro rfl; exact hne rfl)⟩
theorem own_set {w : World} {B e size n : Nat} {v : Value} {xs : List Value} (h : w.ownsRow B e size v n xs) {p : Addr} (u : Value) (hp : p.block < B) : (w.setCell p u).ownsRow B e size v n xs := by
  refine h.kept (grown_set w p u) ?_
  cases hv : v.ownBlock with
  | none => exact .inl rfl
  | some g =>
    refine .inr fun e => ?_
    have h1 := own_ge h g hv
    obtain rfl : g = p.block := Option.some.inj e
    omega
end Go.Proofs.Ytbbagpnjjjohpaa.hexes

