/-
  The values of hexadecimal digits, and the two contracts that give them (the model's l01Value, the library's IndexByte at the sixteen digits).
-/
import Derived.Test.YteebkaajalelaaaHexC
import Derived.Test.YteebkaajalelaaaShelf
namespace Go.Proofs.Yteebkaajalelaaa.hexes
open Go.RowKit

def valI (n : Int) : Int := if 48 ≤ n ∧ n ≤ 57 then n - 48 else if 97 ≤ n ∧ n ≤ 102 then n - 97 + 10 else -1

theorem valI_le (n : Int) : -1 ≤ valI n ∧ valI n ≤ 15 := by
  unfold valI
  by_cases h1 : 48 ≤ n ∧ n ≤ 57
  · rw [if_pos h1]; omega
  · rw [if_neg h1]
    by_cases h2 : 97 ≤ n ∧ n ≤ 102
    · rw [if_pos h2]; omega
    · rw [if_neg h2]; omega

theorem idx_val (n : Nat) (h : n < 256) : Lib.indexByte hexD.data.toList (n : Int).toNat.toUInt8 = valI (n : Int) := by
  have : ∀ n : Fin 256, Lib.indexByte hexD.data.toList (n.val : Int).toNat.toUInt8 = valI (n.val : Int) := by decide +kernel
  exact this ⟨n, h⟩

theorem index_any (n : Nat) (h : n < 256) (w : World) :
    Calls Try.prog 14 #[.string hexD, .int .u8 (n : Int)] w fun e w' => e = .returned (.int .i64 (valI (n : Int))) ∧ w = w' :=
  (Try.strings_IndexByte hexD (n : Int) w).mono fun _ _ hh => ⟨by rw [hh.1, idx_val n h], hh.2.symm⟩

theorem ret_val {a : Int} {n : Int} (h : valI n = a) : Ending.returned (.int .i64 a) = .returned (.int .i64 (valI n)) := by rw [h]

theorem value_any (n : Nat) (h : n < 256) (w : World) :
    Calls Try.prog 13 #[.int .u8 (n : Int)] w fun e w' => e = .returned (.int .i64 (valI (n : Int))) ∧ w = w' := by
  by_cases h1 : 48 ≤ (n : Int)
  · by_cases h2 : (n : Int) ≤ 57
    · have E := Lib.hid (show valI (n : Int) = (n : Int) - 48 by unfold valI; rw [if_pos ⟨h1, h2⟩])
      go_enter Try.func13, Try.ntmps13
      go_wp2
      go_ret
      exact ⟨ret_val E.out, rfl⟩
    · by_cases h3 : 97 ≤ (n : Int)
      · by_cases h4 : (n : Int) ≤ 102
        · have E := Lib.hid (show valI (n : Int) = (n : Int) - 97 + 10 by unfold valI; rw [if_neg (by omega), if_pos ⟨h3, h4⟩])
          go_enter Try.func13, Try.ntmps13
          go_wp2
          go_ret
          exact ⟨ret_val E.out, rfl⟩
        · have E := Lib.hid (show valI (n : Int) = -1 by unfold valI; rw [if_neg (by omega), if_neg (by omega)])
          go_enter Try.func13, Try.ntmps13
          go_wp2
          go_ret
          exact ⟨ret_val E.out, rfl⟩
      · have E := Lib.hid (show valI (n : Int) = -1 by unfold valI; rw [if_neg (by omega), if_neg (by omega)])
        go_enter Try.func13, Try.ntmps13
        go_wp2
        go_ret
        exact ⟨ret_val E.out, rfl⟩
  · have E := Lib.hid (show valI (n : Int) = -1 by unfold valI; rw [if_neg (by omega), if_neg (by omega)])
    have h3 : ¬ 97 ≤ (n : Int) := by omega
    go_enter Try.func13, Try.ntmps13
    go_wp2
    go_ret
    exact ⟨ret_val E.out, rfl⟩

/-- The value of the digit at place i. -/
def vat (s : ByteArray) (i : Nat) : Int := valI ((s.data.toList.getD i 0).toNat : Int)
def outB (s : ByteArray) (m : Nat) : List UInt8 := (List.range m).map fun j => UInt8.ofNat (16 * vat s (2 * j) + vat s (2 * j + 1)).toNat
def Good (s : ByteArray) : Prop := ∀ j, j < s.size / 2 → 0 ≤ vat s (2 * j) ∧ 0 ≤ vat s (2 * j + 1)

theorem vat_eq (s : ByteArray) (i : Nat) (h : i < s.size) : vat s i = valI (s[i].toNat : Int) := by
  unfold vat
  have e : s.data.toList.getD i 0 = s[i] := by
    have hi : i < s.data.toList.length := by simpa using h
    rw [List.getD_eq_getElem?_getD, List.getElem?_eq_getElem hi]
    rfl
  rw [e]

theorem outB_step {w : World} {base i : Nat} {v : Value} {s : ByteArray} (he : i % 2 = 0) {x : Int} (h0 : 0 ≤ vat s i) (h1 : 0 ≤ vat s (i + 1)) (hx : x = 16 * vat s i + vat s (i + 1))
    (ho : w.ownsRow base 5 1 v (i / 2 + 1) ((outB s (i / 2)).map byteVal ++ [.int .u8 x])) :
    w.ownsRow base 5 1 v ((i + 2) / 2) ((outB s ((i + 2) / 2)).map byteVal) := by
  have e1 : (i + 2) / 2 = i / 2 + 1 := by omega
  have e2 : 2 * (i / 2) = i := by omega
  rw [e1]
  have e3 : outB s (i / 2 + 1) = outB s (i / 2) ++ [UInt8.ofNat (16 * vat s i + vat s (i + 1)).toNat] := by
    unfold outB
    rw [List.range_succ, List.map_append]
    simp only [List.map_cons, List.map_nil, e2]
  rw [e3, List.map_append]
  have e4 : [UInt8.ofNat (16 * vat s i + vat s (i + 1)).toNat].map byteVal = [.int .u8 x] := by
    have b0 := (valI_le ((s.data.toList.getD i 0).toNat : Int)).2
    have b1 := (valI_le ((s.data.toList.getD (i + 1) 0).toNat : Int)).2
    have c0 : vat s i ≤ 15 := b0
    have c1 : vat s (i + 1) ≤ 15 := b1
    obtain ⟨k, hk⟩ : ∃ k : Nat, 16 * vat s i + vat s (i + 1) = (k : Int) := ⟨(16 * vat s i + vat s (i + 1)).toNat, by omega⟩
    have hk' : k < 256 := by omega
    rw [hx, hk]
    simp only [List.map_cons, List.map_nil, byteVal, Int.toNat_natCast]
    have ek : (UInt8.ofNat k).toNat = k := by rw [UInt8.toNat_ofNat']; exact Nat.mod_eq_of_lt hk'
    rw [ek]
  rw [e4]
  exact ho
end Go.Proofs.Yteebkaajalelaaa.hexes
