/-
  The model's ReadDecimal: the contracts of spec.ReadDecimal at a decimal text of a number within the limit, and at any other text.
-/
import Derived.Test.YteebkaajalelaaaDoorSpecDecimal
import Derived.Test.YteebkaajalelaaaDoorDecs
namespace Go.Proofs.YteebkaajalelaaaDoor.hexes
open Go.RowKit

theorem lead_step {s : ByteArray} {k acc : Nat} (hlt : k < s.size) (h : Lib.decFrom 0 (s.data.toList.take k) = some acc) (h0 : 48 ≤ s[k].toNat) (h1 : s[k].toNat ≤ 57) :
    Lib.decFrom 0 (s.data.toList.take (k + 1)) = some (acc * 10 + (s[k].toNat - 48)) := by
  rw [take_snoc s k hlt]
  exact decFrom_snoc _ _ _ _ h (by unfold Lib.digitVal; rw [if_pos ⟨h0, h1⟩])

theorem lead_lt {s : ByteArray} {k acc : Nat} (hk : k ≤ 10) (h : Lib.decFrom 0 (s.data.toList.take k) = some acc) : acc < 10000000000 := by
  have := Lib.decFrom_lt _ _ _ h
  have hl : (s.data.toList.take k).length ≤ 10 := Nat.le_trans (List.length_take_le _ _) hk
  have hp : 10 ^ (s.data.toList.take k).length ≤ 10 ^ 10 := Nat.pow_le_pow_right (by omega) hl
  omega

theorem lead_digit {s : ByteArray} {k n : Nat} (hlt : k < s.size) (h : Lib.decFrom 0 s.data.toList = some n) : 48 ≤ s[k].toNat ∧ s[k].toNat ≤ 57 := by
  have hk : k < s.data.toList.length := by simpa using hlt
  obtain ⟨d, hd⟩ := Lib.digit_of_decFrom _ _ _ h k s[k] (by rw [List.getElem?_eq_getElem hk]; rfl)
  have := Lib.digitVal_eq hd
  omega

theorem specDec_text (s : ByteArray) (n : Nat) (h : Spells s.data.toList n) (w : World) :
    Calls Tryd.prog 14 #[.int .i64 (n : Int)] w fun e w' => e = .returned (.string s) ∧ Below w.heap.size w w' := by
  have hn := h.1
  refine (specDec_any (n : Int) (by omega) (by omega) w).mono fun e w' hh => ⟨?_, hh.2⟩
  rw [hh.1, Lib.itoa_nonneg, h.2]

theorem specRead_yes (s : ByteArray) (n : Nat) (h : Spells s.data.toList n) (w : World) :
    Calls Tryd.prog 15 #[.string s] w fun e w' => e = .returned (.tuple #[.int .i64 (n : Int), .bool true]) ∧ Below w.heap.size w w' := by
  have hs : s.size ≤ 10 := by have := spells_len h; simpa using this
  have hd : decide (10 < (s.size : Int)) = false := by simp; omega
  have HS := Lib.hid h
  have hn : n ≤ 1000000000 := h.1
  clear h
  go_enter Tryd.func15, Tryd.ntmps15
  go_wp2
  go_loop [4, 5] (fun a i => ∃ k acc : Nat, k ≤ s.size ∧ i = .int .i64 k ∧ a = .int .i64 (acc : Int) ∧ Lib.decFrom 0 (s.data.toList.take k) = some acc) (fun _ i => s.size - (intOf i).toNat)
  case atStart => exact ⟨0, 0, Nat.zero_le _, rfl, rfl, by simp [Lib.decFrom]⟩
  case round =>
    obtain ⟨k, acc, hk, rfl, rfl, hacc⟩ := hrel
    have hlim := lead_lt (Nat.le_trans hk hs) hacc
    have HA := Lib.hid hacc
    clear hacc
    by_cases hlt : k < s.size
    · obtain ⟨g0, g1⟩ := lead_digit hlt (spells_from HS.out)
      have i0 : ¬ (s[k].toNat : Int) < 48 := by omega
      have i1 : ¬ (57 : Int) < (s[k].toNat : Int) := by omega
      have hst := lead_step hlt HA.out g0 g1
      have HST := Lib.hid hst
      clear hst
      go_wp2
      go_round
      case rel => exact ⟨k + 1, acc * 10 + (s[k].toNat - 48), by omega, by go_num, congrArg (Value.int .i64) (by omega), HST.out⟩
      case measure => simp [intOf]; omega
    · have hk' : s.data.toList.take k = s.data.toList := List.take_of_length_le (by simp; omega)
      have hE : acc = n := by
        have h1 := HA.out
        rw [hk', spells_from HS.out] at h1
        exact (Option.some.inj h1).symm
      subst hE
      clear hk'
      have hq : decide (1000000000 < (acc : Int)) = false := by simp; omega
      have C := fun W => specDec_text s acc HS.out W
      have HC := Lib.hid C
      clear C
      go_wp2_with (go_at_call 14; refine (HC.out _).mono ?_; rintro e w1 ⟨rfl, hb1⟩)
      go_ret2
      exact ⟨rfl, hb1⟩

theorem specRead_no (s : ByteArray) (hmax : s.size ≤ 1048576) (h : ∀ n, ¬ Spells s.data.toList n) (w : World) :
    Calls Tryd.prog 15 #[.string s] w fun e w' => e = .returned (.tuple #[.int .i64 0, .bool false]) ∧ Below w.heap.size w w' := by
  by_cases hs : 10 < s.size
  · have hd : decide (10 < (s.size : Int)) = true := by simp; omega
    clear h
    go_enter Tryd.func15, Tryd.ntmps15
    go_wp2
    go_ret2
    exact ⟨rfl, Below.refl _ _⟩
  · have hd : decide (10 < (s.size : Int)) = false := by simp; omega
    have HS := Lib.hid h
    clear h
    go_enter Tryd.func15, Tryd.ntmps15
    go_wp2
    go_loop [4, 5] (fun a i => ∃ k acc : Nat, k ≤ s.size ∧ i = .int .i64 k ∧ a = .int .i64 (acc : Int) ∧ Lib.decFrom 0 (s.data.toList.take k) = some acc) (fun _ i => s.size - (intOf i).toNat)
    case atStart => exact ⟨0, 0, Nat.zero_le _, rfl, rfl, by simp [Lib.decFrom]⟩
    case round =>
      obtain ⟨k, acc, hk, rfl, rfl, hacc⟩ := hrel
      have hlim := lead_lt (by omega) hacc
      have HA := Lib.hid hacc
      clear hacc
      by_cases hlt : k < s.size
      · by_cases g0 : (s[k].toNat : Int) < 48
        · go_wp2
          go_ret2
          exact ⟨rfl, Below.refl _ _⟩
        · by_cases g1 : (57 : Int) < (s[k].toNat : Int)
          · go_wp2
            go_ret2
            exact ⟨rfl, Below.refl _ _⟩
          · have hst := lead_step hlt HA.out (by omega) (by omega)
            have HST := Lib.hid hst
            clear hst
            go_wp2
            go_round
            case rel => exact ⟨k + 1, acc * 10 + (s[k].toNat - 48), by omega, by go_num, congrArg (Value.int .i64) (by omega), HST.out⟩
            case measure => simp [intOf]; omega
      · by_cases hq : (1000000000 : Int) < (acc : Int)
        · go_wp2
          go_ret2
          exact ⟨rfl, Below.refl _ _⟩
        · have C := fun W => specDec_any (acc : Int) (by omega) (by omega) W
          rw [Lib.itoa_nonneg] at C
          have HC := Lib.hid C
          have hne : (Lib.decDigits acc == s.toList) = false := by
            rw [beq_eq_false_iff_ne, ByteArray.toList_eq]
            exact fun e => HS.out acc ⟨by omega, e⟩
          clear C
          go_wp2_with (go_at_call 14; refine (HC.out _).mono ?_; rintro e w1 ⟨rfl, hb1⟩)
          go_ret2
          exact ⟨rfl, hb1⟩
end Go.Proofs.YteebkaajalelaaaDoor.hexes
