/-
  What FnOperators leans on of Changed.
-/
import Derived.Test.YthkkleicekhelaaDoorNdChg
namespace Go.Proofs.YthkkleicekhelaaDoor.hexes
open Go.RowKit

theorem okC_in {k a b d key val : Int} {zs : List Int} (hk : 0 ≤ key ∧ key ≤ 99) (hv : 0 ≤ val ∧ val ≤ 999) : okC k a b d key val zs = okNd k a b d zs := by
  unfold okC
  rw [decide_eq_true hk, decide_eq_true hv]
  simp

theorem chgV_mono (q : Bool) (k a : Int) {x y : Int} (h : x ≤ y) : chgV q k a x ≤ chgV q k a y := by
  unfold chgV
  split
  · split <;> split <;> omega
  · exact h

theorem chg_range {k a b d key val : Int} {zs : List Int} (h : chgO (okC k a b d key val zs) k a b key = true) :
    (0 ≤ chgK (okC k a b d key val zs) k a key ∧ chgK (okC k a b d key val zs) k a key ≤ 99) ∧ 0 ≤ chgV (okC k a b d key val zs) k a val ∧ chgV (okC k a b d key val zs) k a val ≤ 999 := by
  unfold chgO at h
  simp only [Bool.and_eq_true] at h
  have hq := h.1
  rw [hq]
  unfold okC at hq
  simp only [Bool.and_eq_true] at hq
  have h1 := of_decide_eq_true hq.1.2
  have h2 := of_decide_eq_true hq.2
  have h3 := okNd_a hq.1.1
  refine ⟨?_, ?_⟩
  · unfold chgK
    split
    · omega
    · exact h1
  · unfold chgV
    split
    · rename_i hc
      have h4 := h3.1 hc.2
      split <;> omega
    · exact h2

theorem chgO_no {k a b d key val : Int} {zs : List Int} (h : okNd k a b d zs = false) : chgO (okC k a b d key val zs) k a b key = false := by
  unfold chgO okC
  rw [h]
  rfl

end Go.Proofs.YthkkleicekhelaaDoor.hexes
