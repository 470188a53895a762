/-
  The marks that the laws write into what a call returned: the contract of laws.markText.
-/
import Derived.Test.YteebkaajalelaaaDoorSpecDecimal
import Derived.Test.YteebkaajalelaaaDoorOwned
namespace Go.Proofs.YteebkaajalelaaaDoor.hexes
open Go.RowKit

def mark (k : Nat) : ByteArray := ⟨(109 :: Lib.decDigits k).toArray⟩

theorem digit_conv (w : World) (u : Nat) :
    (convert 22 9 (.slice (some ⟨w.heap.size, 0, none⟩) 1 1)).run Tryd.prog (w.alloc (.cells #[.int .u8 (48 + (u : Int) % 10)] 5)) = .ok (.string ⟨#[UInt8.ofNat (48 + (u : Int) % 10).toNat]⟩) (w.alloc (.cells #[.int .u8 (48 + (u : Int) % 10)] 5)) :=
  conv_one w _ (by omega) (by omega)

theorem mark_digit (u : Nat) (l : List UInt8) : Value.string ((⟨#[48 + UInt8.ofNat (u % 10)]⟩ : ByteArray) ++ ⟨l.toArray⟩) = .string ⟨(UInt8.ofNat (48 + u % 10) :: l).toArray⟩ := by
  rw [cons_bytes, UInt8.ofNat_add]
  rfl

set_option maxRecDepth 100000 in
theorem markText_any (n : Nat) (h1 : 1 ≤ n) (h2 : n ≤ 4611686018427387904) (w : World) :
    Calls Tryd.prog 29 #[.int .i64 (n : Int)] w fun e w' => e = .returned (.string (mark n)) ∧ Below w.heap.size w w' := by
  have q0 : decide ((n : Int) ≤ 0) = false := by simp; omega
  have q2 : decide (n ≤ 0) = false := by simp; omega
  have hlen : (Lib.decDigits n).length ≤ 20 := by rw [Lib.decDigits_length]; exact Lib.nDigits_le20 n (by omega)
  go_enter Tryd.func29, Tryd.ntmps29
  go_wp2
  go_loopw [0, 3] (fun m s wr => ∃ (u : Nat) (l : List UInt8), u ≤ n ∧ m = .int .i64 (u : Int) ∧ s = .string ⟨l.toArray⟩ ∧ DecRel n u l ∧ Below w.heap.size w wr) (fun m _ _ => (intOf m).toNat)
  case atStart => exact ⟨n, [], Nat.le_refl _, rfl, rfl, decRel_start n h1, Below.refl _ _⟩
  case round =>
    obtain ⟨u, l, hun, rfl, rfl, hrel', hbel⟩ := hrel
    have hl := decRel_len hrel'
    have HR := Lib.hid hrel'
    clear hrel' q0 q2
    by_cases hu : 1 ≤ u
    · have hsz := hbel.size
      have hq : decide ((0 : Int) < (u : Int)) = true := by simp; omega
      have hq2 : decide (0 < u) = true := by simp; omega
      have hb0 : (0 : Int) ≤ (u : Int) % 10 := by omega
      have hb1 : (u : Int) % 10 < 10 := by omega
      have hcv := digit_conv wr u
      go_wp2
      go_roundw
      case rel => exact ⟨u / 10, _, by omega, rfl, mark_digit u l, decRel_step hu HR.out, hbel.alloc hsz _⟩
      case measure => simp [intOf]; omega
    · have hu0 : u = 0 := by omega
      subst hu0
      have e := decRel_end HR.out
      have HE := Lib.hid e
      clear e
      have hcat := cons_bytes 109 l
      go_wp2
      go_ret
      exact ⟨by rw [mark, ← HE.out]; rfl, hbel⟩
end Go.Proofs.YteebkaajalelaaaDoor.hexes
