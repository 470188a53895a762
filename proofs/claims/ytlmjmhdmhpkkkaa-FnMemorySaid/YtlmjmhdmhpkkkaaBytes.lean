/-
  Bytes and their hexadecimal figures as plain functions; a row of bytes that the call itself owns, turned into a string.
-/
import Derived.Test.YtlmjmhdmhpkkkaaRows
import Derived.WalkKit
import Derived.Below
import Derived.Laws.IdiomStrings
import Derived.Deep.RegionHeld3
import Derived.Deep.AppendLies
import Derived.Outline
import Derived.Lib.Hide
namespace Go.Proofs.Ytlmjmhdmhpkkkaa.hexes
open Go.RowKit

def fig (x : Nat) : UInt8 := if x < 10 then UInt8.ofNat (48 + x) else UInt8.ofNat (87 + x)
def hexOf (l : List UInt8) : List UInt8 := l.flatMap fun b => [fig (b.toNat / 16), fig (b.toNat % 16)]
def figI (x : Int) : Int := ((fig x.toNat).toNat : Int)
def byteVal (b : UInt8) : Value := .int .u8 (b.toNat : Int)

theorem fig_val (x : Nat) (h : x < 16) : ((fig x).toNat : Int) = if (x : Int) < 10 then 48 + (x : Int) else 97 + (x : Int) - 10 := by
  have : ∀ x, x < 16 → ((fig x).toNat : Int) = if (x : Int) < 10 then 48 + (x : Int) else 97 + (x : Int) - 10 := by decide
  exact this x h

theorem hexOf_snoc (l : List UInt8) (b : UInt8) : hexOf (l ++ [b]) = hexOf l ++ [fig (b.toNat / 16), fig (b.toNat % 16)] := by
  simp [hexOf]

theorem hexOf_length (l : List UInt8) : (hexOf l).length = 2 * l.length := by
  induction l with
  | nil => rfl
  | cons b l ih => simp only [hexOf, List.flatMap_cons, List.length_append, List.length_cons, List.length_nil] at *; omega

theorem take_snoc (s : ByteArray) (k : Nat) (h : k < s.size) : s.data.toList.take (k + 1) = s.data.toList.take k ++ [s[k]] := by
  rw [List.take_succ_eq_append_getElem (by simpa using h)]; rfl

theorem u8info : (Try.prog.info? 5).map (fun i => (i.zero, i.size, i.bytes)) = some (some (.int .u8 0), 1, 1) := by kernel_rfl

theorem conv_own {w : World} {base : Nat} {v : Value} {n : Nat} {bs : List UInt8} (h : w.ownsRow base 5 1 v n (bs.map byteVal)) :
    (convert 22 9 v).run Try.prog w = .ok (.string ⟨bs.toArray⟩) w := by
  have hn : bs.length = n := by simpa using h.1
  rcases h.2 with ⟨rfl, h0⟩ | ⟨g, cap, cur, rfl, _⟩
  · have : bs = [] := List.eq_nil_of_length_eq_zero (by omega)
    subst this
    rw [run_convert_bytes_string w 22 9 5 none 0 0 Try.underlying22 Try.underlying5 Try.underlying9]
    rfl
  · subst hn
    refine run_convert_bytes_back w 22 9 5 _ cap bs Try.underlying22 Try.underlying5 Try.underlying9 fun j hj => ?_
    have := h.cellAt j (by omega)
    have e : (Addr.add ⟨g, 0, none⟩ j) = ⟨g, j, none⟩ := by
      unfold Addr.add
      by_cases hj0 : j = 0 <;> simp [hj0]
    rw [e, this]
    simp [hj, byteVal]

theorem byte_wraps (n : Nat) (h : n < 256) : IntKind.i64.wrap (n : Int) = n ∧ (n : Int).tdiv 16 = (n : Int) / 16 ∧ IntKind.i64.wrap ((n : Int) / 16) = (n : Int) / 16 ∧ (n : Int).tmod 16 = (n : Int) % 16 :=
  ⟨IntWalk.i64_in _ (by omega), Int.tdiv_eq_ediv_of_nonneg (by omega), IntWalk.i64_in _ (by omega), Int.tmod_eq_emod_of_nonneg (by omega)⟩

theorem own_ge {w : World} {base e size n : Nat} {v : Value} {xs : List Value} (h : w.ownsRow base e size v n xs) : ∀ k, v.ownBlock = some k → base ≤ k := by
  intro k hk
  rcases h.2 with ⟨rfl, _⟩ | ⟨g, cap, cur, rfl, hb, _⟩
  · simp [Value.ownBlock] at hk
  · simp [Value.ownBlock] at hk
    omega

theorem hex_step {w : World} {base k : Nat} {v : Value} {s : ByteArray} (hlt : k < s.size)
    (h : w.ownsRow base 5 1 v (2 * k + 2) ((hexOf (s.data.toList.take k)).map byteVal ++ [.int .u8 (figI ((s[k].toNat : Int) / 16)), .int .u8 (figI ((s[k].toNat : Int) % 16))])) :
    w.ownsRow base 5 1 v (2 * (k + 1)) ((hexOf (s.data.toList.take (k + 1))).map byteVal) := by
  rw [take_snoc s k hlt, hexOf_snoc, List.map_append]
  have e1 : figI ((s[k].toNat : Int) / 16) = ((fig (s[k].toNat / 16)).toNat : Int) := rfl
  have e2 : figI ((s[k].toNat : Int) % 16) = ((fig (s[k].toNat % 16)).toNat : Int) := rfl
  rw [e1, e2] at h
  exact h

abbrev hexD : ByteArray := ⟨#[48, 49, 50, 51, 52, 53, 54, 55, 56, 57, 97, 98, 99, 100, 101, 102]⟩

end Go.Proofs.Ytlmjmhdmhpkkkaa.hexes
