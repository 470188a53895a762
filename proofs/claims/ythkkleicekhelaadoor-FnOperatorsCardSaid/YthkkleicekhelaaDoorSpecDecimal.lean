/-
  The model's decimal text of a number: the contract of spec.Decimal, at every int.
-/
import Derived.Test.YthkkleicekhelaaDoorFigure
import Derived.Lib.ItoaLen
import Derived.WalkSpells
import Derived.WalkLawsBesides
namespace Go.Proofs.YthkkleicekhelaaDoor.hexes
open Go.RowKit

theorem conv_one (w : World) (x : Int) (h0 : 0 ≤ x) (h1 : x < 256) :
    (convert 22 9 (.slice (some ⟨w.heap.size, 0, none⟩) 1 1)).run Tryd.prog (w.alloc (.cells #[.int .u8 x] 5)) = .ok (.string ⟨#[UInt8.ofNat x.toNat]⟩) (w.alloc (.cells #[.int .u8 x] 5)) := by
  have e : [UInt8.ofNat x.toNat].map byteVal = [.int .u8 x] := by
    obtain ⟨k, rfl⟩ : ∃ k : Nat, x = (k : Int) := ⟨x.toNat, by omega⟩
    have ek : (UInt8.ofNat k).toNat = k := by rw [UInt8.toNat_ofNat']; exact Nat.mod_eq_of_lt (by omega)
    simp only [List.map_cons, List.map_nil, byteVal, Int.toNat_natCast, ek]
  have ho : (w.alloc (.cells #[.int .u8 x] 5)).ownsRow w.heap.size 5 1 (.slice (some ⟨w.heap.size, 0, none⟩) 1 1) 1 ([UInt8.ofNat x.toNat].map byteVal) := by
    rw [e]
    exact World.ownsRow_lit w #[.int .u8 x] 1 (Nat.le_refl _) (by decide) rfl
  exact conv_own ho

theorem figI_bd (x : Int) (h0 : 0 ≤ x) (h1 : x < 10) : figI x = 48 + x := by
  obtain ⟨k, rfl⟩ : ∃ k : Nat, x = (k : Int) := ⟨x.toNat, by omega⟩
  have := fig_val k (by omega)
  rw [if_pos (by omega)] at this
  exact this

def DecRel (n u : Nat) (l : List UInt8) : Prop := (1 ≤ u ∧ Lib.decDigits u ++ l = Lib.decDigits n) ∨ (u = 0 ∧ l = Lib.decDigits n)

theorem decRel_start (n : Nat) (h : 1 ≤ n) : DecRel n n [] := .inl ⟨h, by simp⟩
theorem decRel_step {n u : Nat} {l : List UInt8} (hu : 1 ≤ u) (h : DecRel n u l) : DecRel n (u / 10) (UInt8.ofNat (48 + u % 10) :: l) := by
  rcases h with ⟨_, h⟩ | ⟨h, _⟩
  · by_cases h10 : u < 10
    · rw [Lib.decDigits_one h10] at h
      exact .inr ⟨by omega, by rw [← h, Nat.mod_eq_of_lt h10]; rfl⟩
    · rw [Lib.decDigits, dif_neg h10] at h
      exact .inl ⟨by omega, by rw [← h]; simp⟩
  · omega
theorem decRel_len {n u : Nat} {l : List UInt8} (h : DecRel n u l) : l.length ≤ (Lib.decDigits n).length := by
  rcases h with ⟨_, h⟩ | ⟨_, h⟩
  · rw [← h]; simp
  · rw [h]; exact Nat.le_refl _
theorem decRel_end {n : Nat} {l : List UInt8} (h : DecRel n 0 l) : l = Lib.decDigits n := by
  rcases h with ⟨h, _⟩ | ⟨_, h⟩
  · omega
  · exact h

theorem cons_bytes (x : UInt8) (l : List UInt8) : (⟨#[x]⟩ : ByteArray) ++ ⟨l.toArray⟩ = ⟨(x :: l).toArray⟩ := by
  apply ByteArray.ext
  simp

theorem dec_digit (u : Nat) (l : List UInt8) : Value.string ((⟨#[UInt8.ofNat (figI ((u : Int) % 10)).toNat]⟩ : ByteArray) ++ ⟨l.toArray⟩) = .string ⟨(UInt8.ofNat (48 + u % 10) :: l).toArray⟩ := by
  rw [cons_bytes, figI_bd _ (by omega) (by omega)]
  congr

set_option maxRecDepth 100000 in
theorem specDec_pos (n : Nat) (h1 : 1 ≤ n) (h2 : n ≤ 9223372036854775807) (w : World) :
    Calls Tryd.prog 32 #[.int .i64 (n : Int)] w fun e w' => e = .returned (.string ⟨(Lib.decDigits n).toArray⟩) ∧ Below w.heap.size w w' := by
  have q0 : ((n : Int) == 0) = false := by simp; omega
  have q1 : decide ((n : Int) < 0) = false := by simp
  have hlen : (Lib.decDigits n).length ≤ 20 := by rw [Lib.decDigits_length]; exact Lib.nDigits_le20 n (by omega)
  go_enter Tryd.func32, Tryd.ntmps32
  go_wp2
  go_loopw [0, 4] (fun m s wr => ∃ (u : Nat) (l : List UInt8), u ≤ n ∧ m = .int .i64 (u : Int) ∧ s = .string ⟨l.toArray⟩ ∧ DecRel n u l ∧ Below w.heap.size w wr) (fun m _ _ => (intOf m).toNat)
  case atStart => exact ⟨n, [], Nat.le_refl _, rfl, rfl, decRel_start n h1, Below.refl _ _⟩
  case round =>
    obtain ⟨u, l, hun, rfl, rfl, hrel', hbel⟩ := hrel
    have hl := decRel_len hrel'
    have HR := Lib.hid hrel'
    clear hrel' q0 q1
    by_cases hu : 1 ≤ u
    · have hsz := hbel.size
      have hq : ((u : Int) != 0) = true := by simp; omega
      have hb0 : (0 : Int) ≤ (u : Int) % 10 := by omega
      have hb1 : (u : Int) % 10 < 10 := by omega
      have hcv := conv_one wr (figI ((u : Int) % 10)) (by rw [figI_bd _ hb0 hb1]; omega) (by rw [figI_bd _ hb0 hb1]; omega)
      go_wp2_with (first | (go_at_call 44; refine (figure_any _ _ (by omega) (by omega)).mono ?_; rintro e w' ⟨rfl, rfl⟩))
      go_roundw
      case rel => exact ⟨u / 10, _, by omega, rfl, dec_digit u l, decRel_step hu HR.out, hbel.alloc hsz _⟩
      case measure => simp [intOf]; omega
    · have hu0 : u = 0 := by omega
      subst hu0
      have e := decRel_end HR.out
      have HE := Lib.hid e
      clear e
      have hq : (((0 : Nat) : Int) != 0) = false := rfl
      go_wp2
      go_ret
      exact ⟨by rw [← HE.out]; rfl, hbel⟩

theorem neg_quo (u : Nat) : (-(u : Int)).tdiv 10 = -((u : Int) / 10) := by rw [Int.neg_tdiv, Int.tdiv_eq_ediv_of_nonneg (by omega)]
theorem neg_rem (u : Nat) : (-(u : Int)).tmod 10 = -((u : Int) % 10) := by rw [Int.neg_tmod, Int.tmod_eq_emod_of_nonneg (by omega)]
theorem minus_bytes (l : List UInt8) : (⟨#[45]⟩ : ByteArray) ++ ⟨l.toArray⟩ = ⟨(45 :: l).toArray⟩ := cons_bytes 45 l

set_option maxRecDepth 100000 in
theorem specDec_neg (n : Nat) (h1 : 1 ≤ n) (h2 : n ≤ 9223372036854775808) (w : World) :
    Calls Tryd.prog 32 #[.int .i64 (-(n : Int))] w fun e w' => e = .returned (.string ⟨(45 :: Lib.decDigits n).toArray⟩) ∧ Below w.heap.size w w' := by
  have q0 : ((-(n : Int)) == 0) = false := by simp; omega
  have q1 : decide (-(n : Int) < 0) = true := by simp; omega
  have q2 : decide (0 < n) = true := by simp; omega
  have hlen : (Lib.decDigits n).length ≤ 20 := by rw [Lib.decDigits_length]; exact Lib.nDigits_le20 n (by omega)
  go_enter Tryd.func32, Tryd.ntmps32
  go_wp2
  go_loopw [0, 4] (fun m s wr => ∃ (u : Nat) (l : List UInt8), u ≤ n ∧ m = .int .i64 (-(u : Int)) ∧ s = .string ⟨l.toArray⟩ ∧ DecRel n u l ∧ Below w.heap.size w wr) (fun m _ _ => (-(intOf m)).toNat)
  case atStart => exact ⟨n, [], Nat.le_refl _, rfl, rfl, decRel_start n h1, Below.refl _ _⟩
  case round =>
    obtain ⟨u, l, hun, rfl, rfl, hrel', hbel⟩ := hrel
    have hl := decRel_len hrel'
    have HR := Lib.hid hrel'
    clear hrel' q0 q1
    by_cases hu : 1 ≤ u
    · have hsz := hbel.size
      have hq : ((-(u : Int)) != 0) = true := by simp; omega
      have hb0 : (0 : Int) ≤ (u : Int) % 10 := by omega
      have hb1 : (u : Int) % 10 < 10 := by omega
      have hcv := conv_one wr (figI ((u : Int) % 10)) (by rw [figI_bd _ hb0 hb1]; omega) (by rw [figI_bd _ hb0 hb1]; omega)
      have hn1 := neg_quo u
      have hn2 := neg_rem u
      by_cases hz : (u : Int) % 10 = 0
      · have E := Lib.hid (dec_digit u l)
        have HZ := Lib.hid hz
        rw [hz] at hcv hn2
        clear hb0 hb1 hz
        go_wp2_with (first | (go_at_call 44; refine (figure_any _ _ (by omega) (by omega)).mono ?_; rintro e w' ⟨rfl, rfl⟩))
        go_roundw
        case rel => exact ⟨u / 10, _, by omega, by go_num, by have := E.out; rw [HZ.out] at this; exact this, decRel_step hu HR.out, hbel.alloc hsz _⟩
        case measure => simp [intOf]; omega
      · go_wp2_with (first | (go_at_call 44; refine (figure_any _ _ (by omega) (by omega)).mono ?_; rintro e w' ⟨rfl, rfl⟩))
        go_roundw
        case rel => exact ⟨u / 10, _, by omega, rfl, dec_digit u l, decRel_step hu HR.out, hbel.alloc hsz _⟩
        case measure => simp [intOf]; omega
    · have hu0 : u = 0 := by omega
      subst hu0
      have e := decRel_end HR.out
      have HE := Lib.hid e
      clear e
      have hq : ((-((0 : Nat) : Int)) != 0) = false := rfl
      have hcat := minus_bytes l
      go_wp2
      go_ret
      exact ⟨by rw [← HE.out]; rfl, hbel⟩
theorem specDec_zero (w : World) :
    Calls Tryd.prog 32 #[.int .i64 0] w fun e w' => e = .returned (.string ⟨#[48]⟩) ∧ Below w.heap.size w w' := by
  go_enter Tryd.func32, Tryd.ntmps32
  go_wp2
  go_ret
  exact ⟨rfl, Below.refl _ _⟩

/-- THE CONTRACT OF spec.Decimal: the decimal text, at every int. -/
theorem specDec_any (n : Int) (h0 : -9223372036854775808 ≤ n) (h1 : n ≤ 9223372036854775807) (w : World) :
    Calls Tryd.prog 32 #[.int .i64 n] w fun e w' => e = .returned (.string ⟨(Lib.itoa n).toArray⟩) ∧ Below w.heap.size w w' := by
  by_cases hp : 1 ≤ n
  · obtain ⟨k, rfl⟩ : ∃ k : Nat, n = (k : Int) := ⟨n.toNat, by omega⟩
    rw [Lib.itoa_nonneg]
    exact specDec_pos k (by omega) (by omega) w
  · by_cases hn : n < 0
    · obtain ⟨k, rfl⟩ : ∃ k : Nat, n = -(k : Int) := ⟨n.natAbs, by omega⟩
      rw [Lib.itoa_neg k (by omega)]
      exact specDec_neg k (by omega) (by omega) w
    · obtain rfl : n = 0 := by omega
      have e : Lib.itoa 0 = [48] := by decide +kernel
      rw [e]
      exact specDec_zero w
end Go.Proofs.YthkkleicekhelaaDoor.hexes
