/-
  The values of hexadecimal digits, and what a text of digit pairs stands for, as plain functions.
-/
import Derived.Test.YteebkaajalelaaaDoorBytes
namespace Go.Proofs.YteebkaajalelaaaDoor.hexes
open Go.RowKit

def valI (n : Int) : Int := if 48 ≤ n ∧ n ≤ 57 then n - 48 else if 97 ≤ n ∧ n ≤ 102 then n - 97 + 10 else -1

theorem valI_le (n : Int) : -1 ≤ valI n ∧ valI n ≤ 15 := by
  unfold valI
  by_cases h1 : 48 ≤ n ∧ n ≤ 57
  · rw [if_pos h1]; omega
  · rw [if_neg h1]
    by_cases h2 : 97 ≤ n ∧ n ≤ 102
    · rw [if_pos h2]; omega
    · rw [if_neg h2]; omega

/-- The value of the digit at place i. -/
def vat (s : ByteArray) (i : Nat) : Int := valI ((s.data.toList.getD i 0).toNat : Int)
def outB (s : ByteArray) (m : Nat) : List UInt8 := (List.range m).map fun j => UInt8.ofNat (16 * vat s (2 * j) + vat s (2 * j + 1)).toNat
def Good (s : ByteArray) : Prop := ∀ j, j < s.size / 2 → 0 ≤ vat s (2 * j) ∧ 0 ≤ vat s (2 * j + 1)

theorem vat_eq (s : ByteArray) (i : Nat) (h : i < s.size) : vat s i = valI (s[i].toNat : Int) := by
  unfold vat
  have e : s.data.toList.getD i 0 = s[i] := by
    have hi : i < s.data.toList.length := by simpa using h
    rw [List.getD_eq_getElem?_getD, List.getElem?_eq_getElem hi]
    rfl
  rw [e]

theorem outB_step {w : World} {base i : Nat} {v : Value} {s : ByteArray} (he : i % 2 = 0) {x : Int} (h0 : 0 ≤ vat s i) (h1 : 0 ≤ vat s (i + 1)) (hx : x = 16 * vat s i + vat s (i + 1))
    (ho : w.ownsRow base 5 1 v (i / 2 + 1) ((outB s (i / 2)).map byteVal ++ [.int .u8 x])) :
    w.ownsRow base 5 1 v ((i + 2) / 2) ((outB s ((i + 2) / 2)).map byteVal) := by
  have e1 : (i + 2) / 2 = i / 2 + 1 := by omega
  have e2 : 2 * (i / 2) = i := by omega
  rw [e1]
  have e3 : outB s (i / 2 + 1) = outB s (i / 2) ++ [UInt8.ofNat (16 * vat s i + vat s (i + 1)).toNat] := by
    unfold outB
    rw [List.range_succ, List.map_append]
    simp only [List.map_cons, List.map_nil, e2]
  rw [e3, List.map_append]
  have e4 : [UInt8.ofNat (16 * vat s i + vat s (i + 1)).toNat].map byteVal = [.int .u8 x] := by
    have b0 := (valI_le ((s.data.toList.getD i 0).toNat : Int)).2
    have b1 := (valI_le ((s.data.toList.getD (i + 1) 0).toNat : Int)).2
    have c0 : vat s i ≤ 15 := b0
    have c1 : vat s (i + 1) ≤ 15 := b1
    obtain ⟨k, hk⟩ : ∃ k : Nat, 16 * vat s i + vat s (i + 1) = (k : Int) := ⟨(16 * vat s i + vat s (i + 1)).toNat, by omega⟩
    have hk' : k < 256 := by omega
    rw [hx, hk]
    simp only [List.map_cons, List.map_nil, byteVal, Int.toNat_natCast]
    have ek : (UInt8.ofNat k).toNat = k := by rw [UInt8.toNat_ofNat']; exact Nat.mod_eq_of_lt hk'
    rw [ek]
  rw [e4]
  exact ho

def noText : Ending := .returned (.tuple #[.string ⟨#[]⟩, .bool false])
def someText (l : List UInt8) : Ending := .returned (.tuple #[.string ⟨l.toArray⟩, .bool true])

def Unhexed (s : ByteArray) (w : World) (e : Ending) (w' : World) : Prop := ((Good s → e = someText (outB s (s.size / 2))) ∧ (¬ Good s → e = noText)) ∧ Below w.heap.size w w'

theorem unhexed_bad {s : ByteArray} {w w' : World} {k : Nat} (h : k + 1 < s.size) (he : k % 2 = 0) (hb : vat s k < 0 ∨ vat s (k + 1) < 0) (hbel : Below w.heap.size w w') : Unhexed s w noText w' := by
  refine ⟨⟨fun hg => ?_, fun _ => rfl⟩, hbel⟩
  have := hg (k / 2) (by omega)
  rw [show 2 * (k / 2) = k by omega] at this
  omega

theorem unhexed_good {s : ByteArray} {w w' : World} {k : Nat} (hk : s.size ≤ k) (hall : ∀ j, j < k / 2 → 0 ≤ vat s (2 * j) ∧ 0 ≤ vat s (2 * j + 1)) (hbel : Below w.heap.size w w') : Unhexed s w (someText (outB s (s.size / 2))) w' :=
  ⟨⟨fun _ => rfl, fun hn => absurd (fun j hj => hall j (by omega)) hn⟩, hbel⟩

theorem all_step {s : ByteArray} {k : Nat} (he : k % 2 = 0) (hall : ∀ j, j < k / 2 → 0 ≤ vat s (2 * j) ∧ 0 ≤ vat s (2 * j + 1)) (h0 : 0 ≤ vat s k) (h1 : 0 ≤ vat s (k + 1)) :
    ∀ j, j < (k + 2) / 2 → 0 ≤ vat s (2 * j) ∧ 0 ≤ vat s (2 * j + 1) := by
  intro j hj
  by_cases h : j < k / 2
  · exact hall j h
  · have : 2 * j = k := by omega
    rw [this]
    exact ⟨h0, h1⟩

end Go.Proofs.YteebkaajalelaaaDoor.hexes
