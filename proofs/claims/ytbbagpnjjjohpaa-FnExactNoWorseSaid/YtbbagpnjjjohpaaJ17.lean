/-
  The law's marks on a graph's nodes.
-/
import Derived.Test.YtbbagpnjjjohpaaJ16

namespace Go.Proofs.Ytbbagpnjjjohpaa.hexes
open Go.RowKit

/-- One node written over: its own cells, then the row behind its slice. -/
theorem GrHeld.put {w V w2 : World} {lo hi j g n c : Nat} {A : Option Addr} {gs : List Nd} {vs us : List Nv} {f : Nat → Nat} (H : ∀ i, i < n → f i ≤ f (i + 1)) (ht : f n ≤ hi) (hlo : lo ≤ f 0) (hv : vs.length = n) (hgl : gs.length = n) (h : GrHeld w lo A n c gs vs us f) (lu : j < us.length) (lv : j < vs.length) (lg : j < gs.length) (p q r : Int) (hV : w.grownBy V (some g)) (hgl2 : lo ≤ g) (hg : g < f 0)
    (hown : V.ownsRow lo 46 4 (.slice A n c) n (nvCells (us.set j (p, q, r, us[j].2.2.2)))) {zs : List Int}
    (hr : Row w2 (f j) (f (j + 1)) 3 1 vs[j].2.2.2.1 gs[j].2.2.2.length vs[j].2.2.2.2.2 (isCells zs)) (hw : Wrote V w2 (f j) (f (j + 1))) :
    GrHeld w2 lo A n c gs vs (us.set j (p, q, r, us[j].2.2.2)) f ∧ WroteR lo hi w w2 := by
  have m := mono_le H
  have mj := m 0 j (Nat.zero_le _) (by omega)
  have mt := m (j + 1) n (by omega) (Nat.le_refl _)
  have m0 := m 0 n (Nat.zero_le _) (Nat.le_refl _)
  refine ⟨⟨by simpa using h.ul, ?_, fun i h1 h2 => ?_, fun i h1 h2 => ?_⟩, ?_⟩
  · have hn : Row V lo (f 0) 46 4 A n c (nvCells (us.set j (p, q, r, us[j].2.2.2))) := ⟨hown, h.nodes.lt⟩
    exact hn.wrote hw (.inl mj)
  · have l1 : i < us.length := by simpa using h1
    rw [List.getElem_set]
    split
    · rename_i e
      subst e
      exact h.outs j lu h2
    · exact h.outs i l1 h2
  · by_cases e : i = j
    · subst e
      exact ⟨zs, hr⟩
    · obtain ⟨ys, hy⟩ := h.inner i h1 h2
      have mi := m 0 i (Nat.zero_le _) (by omega)
      refine ⟨ys, (row_beside hy hV (.inl (by omega))).wrote hw ?_⟩
      by_cases hij : i < j
      · exact .inl (m (i + 1) j (by omega) (by omega))
      · exact .inr (m (j + 1) i (by omega) (by omega))
  · refine .step (.step (.refl _) ⟨some g, hV, fun x hx => ?_⟩) (hw.widen (Nat.le_trans hlo mj) (by omega))
    cases hx
    omega

theorem WroteR.trans {a b c : World} {lo hi : Nat} (h : WroteR lo hi a b) (h2 : WroteR lo hi b c) : WroteR lo hi a c := by
  induction h2 with
  | refl => exact h
  | step _ hw ih => exact ih.step hw

end Go.Proofs.Ytbbagpnjjjohpaa.hexes

