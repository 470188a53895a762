/-
  GraphOk of the program.
-/
import Derived.Test.YtbbagpnjjjohpaaJ17

namespace Go.Proofs.Ytbbagpnjjjohpaa.hexes
open Go.RowKit

/-- What A less 1 comes to with 64 bits. -/
def dec1 (a : Int) : Int := IntKind.i64.wrap (a - 1)

theorem okN_len {x : Nd} {d : Int} (h : okN x d = true) : x.2.2.2.length ≤ 2 := by
  unfold okN okNd at h
  simp only [Bool.and_eq_true] at h
  have := h.2
  unfold outsB at this
  exact (of_decide_eq_true this).1

end Go.Proofs.Ytbbagpnjjjohpaa.hexes

