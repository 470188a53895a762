/-
  NodeOk on both sides.
-/
import Derived.Test.YtbbagpnjjjohpaaJ0
import Derived.Test.YtbbagpnjjjohpaaJ8
import Derived.Test.YtbbagpnjjjohpaaJ5
import Derived.Deep.DeepCutAuto
import Derived.Deep.QuietTactic
import Derived.BigQuiet

namespace Go.Proofs.Ytbbagpnjjjohpaa.hexes
open Go.RowKit

theorem Ints.take {w : World} {A : Option Addr} {zs : List Int} (h : Ints w A zs) (k : Nat) : Ints w A (zs.take k) := fun hl => by
  have hl' : 0 < zs.length := by simp at hl; omega
  obtain ⟨b, off, hA, hlt, hz⟩ := h hl'
  refine ⟨b, off, hA, hlt, fun j hj => ?_⟩
  have := hz j (by simp at hj; omega)
  simpa using this

end Go.Proofs.Ytbbagpnjjjohpaa.hexes

