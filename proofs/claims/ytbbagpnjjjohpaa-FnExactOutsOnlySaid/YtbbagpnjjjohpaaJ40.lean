/-
  CesOut in a walk's words.
-/
import Derived.Test.YtbbagpnjjjohpaaJ35

namespace Go.Proofs.Ytbbagpnjjjohpaa.hexes
open Go.RowKit

theorem CesOut.rows {w w' : World} {e : Ending} {q us : List Ce} {m : Nat} (h : CesOut w q e w') (hq : q = us) (hm : us.length = m) : ∃ A3 c3, e = .returned (.slice A3 m c3) ∧ Wce w' w.heap.size w'.heap.size A3 m c3 us ∧ Below w.heap.size w w' := by
  subst hq hm
  obtain ⟨A3, c3, m3, rfl, he, hw, hb⟩ := h
  exact ⟨A3, c3, he, hw, hb⟩
end Go.Proofs.Ytbbagpnjjjohpaa.hexes

