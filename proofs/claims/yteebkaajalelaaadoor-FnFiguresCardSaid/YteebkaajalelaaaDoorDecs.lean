/-
  Decimal texts of the numbers 0 to 1000000000, as plain functions on bytes.
-/
import Derived.Test.YteebkaajalelaaaDoorRows
import Derived.Lib.ItoaLen
import Derived.Lib.AtoiTie
namespace Go.Proofs.YteebkaajalelaaaDoor.hexes
open Go

theorem digitVal_of (d : Nat) (h : d < 10) : Lib.digitVal (UInt8.ofNat (48 + d)) = some d := by
  have : ∀ d : Fin 10, Lib.digitVal (UInt8.ofNat (48 + d.val)) = some d.val := by decide
  exact this ⟨d, h⟩

theorem decFrom_snoc (l : List UInt8) (n d : Nat) (b : UInt8) (h : Lib.decFrom 0 l = some n) (hb : Lib.digitVal b = some d) : Lib.decFrom 0 (l ++ [b]) = some (n * 10 + d) := by
  have := Lib.decFrom_take (l ++ [b]) l.length 0 n b d (by rw [List.take_left]; exact h) (by simp) hb
  rwa [List.take_of_length_le (by simp)] at this

theorem decFrom_digits (u : Nat) : Lib.decFrom 0 (Lib.decDigits u) = some u := by
  induction u using Nat.strongRecOn with
  | _ u ih =>
    by_cases h : u < 10
    · rw [Lib.decDigits_one h]
      have := decFrom_snoc [] 0 u _ rfl (digitVal_of u h)
      simpa using this
    · rw [Lib.decDigits, dif_neg h]
      rw [decFrom_snoc _ (u / 10) (u % 10) _ (ih (u / 10) (by omega)) (digitVal_of (u % 10) (by omega))]
      congr 1
      omega

theorem nDigits_le (k : Nat) : ∀ u, u < 10 ^ (k + 1) → Lib.nDigits u ≤ k + 1 := by
  induction k with
  | zero => intro u h; rw [Lib.nDigits, dif_pos (by simpa using h)]; omega
  | succ k ih =>
    intro u h
    by_cases h10 : u < 10
    · rw [Lib.nDigits, dif_pos h10]; omega
    · rw [Lib.nDigits, dif_neg h10]
      have := ih (u / 10) (by rw [Nat.pow_succ] at h; omega)
      omega

theorem decDigits_len10 (u : Nat) (h : u ≤ 1000000000) : (Lib.decDigits u).length ≤ 10 := by
  rw [Lib.decDigits_length]
  exact nDigits_le 9 u (by omega)

theorem decDigits_inj {u v : Nat} (h : Lib.decDigits u = Lib.decDigits v) : u = v := by
  have := decFrom_digits u
  rw [h, decFrom_digits v] at this
  exact (Option.some.inj this).symm

theorem decDigits_ne (u : Nat) : Lib.decDigits u ≠ [] := by
  by_cases h : u < 10
  · rw [Lib.decDigits_one h]; simp
  · rw [Lib.decDigits, dif_neg h]; simp

theorem atoi_digits (u : Nat) : Lib.atoi (Lib.decDigits u) = some (u : Int) := by
  have hd := decFrom_digits u
  have hne := decDigits_ne u
  generalize hl : Lib.decDigits u = l at *
  match l, hne with
  | b :: r, _ =>
    obtain ⟨d, hb⟩ := Lib.digit_of_decFrom (b :: r) 0 u hd 0 b rfl
    have hb' := Lib.digitVal_eq hb
    have h45 : (b == 45) = false := by
      rw [beq_eq_false_iff_ne]
      rintro rfl
      exact absurd hb'.1 (by decide)
    have h43 : (b == 43) = false := by
      rw [beq_eq_false_iff_ne]
      rintro rfl
      exact absurd hb'.1 (by decide)
    simp only [Lib.atoi, h45, h43, Bool.false_eq_true, if_false]
    rw [show Lib.decNat (b :: r) = some u by unfold Lib.decNat; simpa using hd]
    rfl

theorem atoiAll_digits (u : Nat) (h : u ≤ 1000000000) : Lib.atoiAll (Lib.decDigits u) = .ok (u : Int) := by
  rw [Lib.atoiAll_short _ (Nat.le_trans (decDigits_len10 u h) (by omega)), atoi_digits]
  rfl

/-- n is a number 0 to 1000000000 whose decimal text is l. -/
def Spells (l : List UInt8) (n : Nat) : Prop := n ≤ 1000000000 ∧ Lib.decDigits n = l

theorem spells_one {l : List UInt8} {n m : Nat} (h : Spells l n) (k : Spells l m) : n = m := decDigits_inj (h.2.trans k.2.symm)
theorem spells_len {l : List UInt8} {n : Nat} (h : Spells l n) : l.length ≤ 10 := by rw [← h.2]; exact decDigits_len10 n h.1
theorem spells_from {l : List UInt8} {n : Nat} (h : Spells l n) : Lib.decFrom 0 l = some n := by rw [← h.2]; exact decFrom_digits n
theorem spells_all {l : List UInt8} {n : Nat} (h : Spells l n) : Lib.atoiAll l = .ok (n : Int) := by rw [← h.2]; exact atoiAll_digits n h.1
end Go.Proofs.YteebkaajalelaaaDoor.hexes
