/-
  The two ways of writing a text in hexadecimal digits (the program's and the model's) as plain functions on bytes, and the model's figure of a number 0 to 15.
-/
import Derived.Test.YteebkaajalelaaaRows
import Derived.WalkKit
import Derived.Below
namespace Go.Proofs.Yteebkaajalelaaa.hexes
open Go.RowKit

def fig (x : Nat) : UInt8 := if x < 10 then UInt8.ofNat (48 + x) else UInt8.ofNat (87 + x)
def hexOf (l : List UInt8) : List UInt8 := l.flatMap fun b => [fig (b.toNat / 16), fig (b.toNat % 16)]
def figI (x : Int) : Int := ((fig x.toNat).toNat : Int)
def byteVal (b : UInt8) : Value := .int .u8 (b.toNat : Int)

theorem fig_val (x : Nat) (h : x < 16) : ((fig x).toNat : Int) = if (x : Int) < 10 then 48 + (x : Int) else 97 + (x : Int) - 10 := by
  have : ∀ x, x < 16 → ((fig x).toNat : Int) = if (x : Int) < 10 then 48 + (x : Int) else 97 + (x : Int) - 10 := by decide
  exact this x h

theorem hexOf_snoc (l : List UInt8) (b : UInt8) : hexOf (l ++ [b]) = hexOf l ++ [fig (b.toNat / 16), fig (b.toNat % 16)] := by
  simp [hexOf]

theorem hexOf_length (l : List UInt8) : (hexOf l).length = 2 * l.length := by
  induction l with
  | nil => rfl
  | cons b l ih => simp only [hexOf, List.flatMap_cons, List.length_append, List.length_cons, List.length_nil] at *; omega

theorem take_snoc (s : ByteArray) (k : Nat) (h : k < s.size) : s.data.toList.take (k + 1) = s.data.toList.take k ++ [s[k]] := by
  rw [List.take_succ_eq_append_getElem (by simpa using h)]; rfl

theorem ret_byte {x : Nat} {a : Int} (h : ((fig x).toNat : Int) = a) : Ending.returned (.int .u8 a) = .returned (.int .u8 (figI (x : Int))) := by rw [figI, Int.toNat_natCast, h]

theorem figure_any (x : Int) (w : World) (h0 : 0 ≤ x) (h1 : x < 16) :
    Calls Try.prog 12 #[.int .i64 x] w fun e w' => e = .returned (.int .u8 (figI x)) ∧ w = w' := by
  obtain ⟨k, rfl⟩ : ∃ k : Nat, x = (k : Int) := ⟨x.toNat, by omega⟩
  have hk : k < 16 := by omega
  have e := fig_val k hk
  by_cases h : (k : Int) < 10
  · rw [if_pos h] at e
    have E : Hid (((fig k).toNat : Int) = 48 + (k : Int)) := e
    clear e
    go_enter Try.func12, Try.ntmps12
    go_wp2
    go_ret
    exact ⟨ret_byte (x := k) E.out, rfl⟩
  · rw [if_neg h] at e
    have E : Hid (((fig k).toNat : Int) = 97 + (k : Int) - 10) := e
    clear e
    go_enter Try.func12, Try.ntmps12
    go_wp2
    go_ret
    exact ⟨ret_byte (x := k) E.out, rfl⟩
end Go.Proofs.Yteebkaajalelaaa.hexes
