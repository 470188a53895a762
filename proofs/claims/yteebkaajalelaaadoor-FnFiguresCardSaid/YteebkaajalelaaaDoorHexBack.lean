/-
  Reading back what Hex wrote, as plain functions on bytes.
-/
import Derived.Test.YteebkaajalelaaaDoorNibbles
namespace Go.Proofs.YteebkaajalelaaaDoor.hexes
open Go.RowKit

theorem val_fig (x : Nat) (h : x < 16) : valI ((fig x).toNat : Int) = (x : Int) := by
  have : ∀ x : Fin 16, valI ((fig x.val).toNat : Int) = (x.val : Int) := by decide +kernel
  exact this ⟨x, h⟩

theorem hexOf_at (l : List UInt8) : ∀ (j : Nat) (h : j < l.length), (hexOf l)[2 * j]? = some (fig (l[j].toNat / 16)) ∧ (hexOf l)[2 * j + 1]? = some (fig (l[j].toNat % 16)) := by
  induction l with
  | nil => intro j h; simp at h
  | cons b l ih =>
    intro j h
    have e : hexOf (b :: l) = fig (b.toNat / 16) :: fig (b.toNat % 16) :: hexOf l := by simp [hexOf]
    rw [e]
    cases j with
    | zero => exact ⟨rfl, rfl⟩
    | succ j =>
      have := ih j (by simpa using h)
      rw [show 2 * (j + 1) = 2 * j + 1 + 1 by omega]
      simpa using this

theorem vat_hex (l : List UInt8) (j : Nat) (h : j < l.length) :
    vat ⟨(hexOf l).toArray⟩ (2 * j) = ((l[j].toNat / 16 : Nat) : Int) ∧ vat ⟨(hexOf l).toArray⟩ (2 * j + 1) = ((l[j].toNat % 16 : Nat) : Int) := by
  have hb : l[j].toNat < 256 := l[j].toNat_lt
  obtain ⟨e1, e2⟩ := hexOf_at l j h
  unfold vat
  simp only [List.getD_eq_getElem?_getD, e1, e2, Option.getD_some]
  exact ⟨val_fig _ (by omega), val_fig _ (by omega)⟩

theorem good_hex (l : List UInt8) : hexes.Good ⟨(hexOf l).toArray⟩ := by
  intro j hj
  have hsz : (ByteArray.mk (hexOf l).toArray).size = 2 * l.length := by rw [← hexOf_length l]; rfl
  rw [hsz] at hj
  have := vat_hex l j (by omega)
  omega

theorem outB_hex (l : List UInt8) : outB ⟨(hexOf l).toArray⟩ l.length = l := by
  apply List.ext_getElem
  · simp [outB]
  · intro j h1 h2
    have hb : l[j].toNat < 256 := l[j].toNat_lt
    have hv := vat_hex l j h2
    simp only [outB, List.getElem_map, List.getElem_range]
    rw [hv.1, hv.2]
    have e : (16 * ((l[j].toNat / 16 : Nat) : Int) + ((l[j].toNat % 16 : Nat) : Int)).toNat = l[j].toNat := by omega
    rw [e]
    simp

theorem hex_size (l : List UInt8) : (ByteArray.mk (hexOf l).toArray).size = 2 * l.length := by rw [← hexOf_length l]; rfl
end Go.Proofs.YteebkaajalelaaaDoor.hexes
