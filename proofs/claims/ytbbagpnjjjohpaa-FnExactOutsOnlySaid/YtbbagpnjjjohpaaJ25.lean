/-
  What Fixpoint returns is closed, and no worse than what it began with.
  Chapter 11's loops on lists, round by round.
-/
import Derived.Test.YtbbagpnjjjohpaaJ24
import Derived.Test.YtbbagpnjjjohpaaJ23

namespace Go.Proofs.Ytbbagpnjjjohpaa.hexes

def outC (gs : List Nd) (x : Ce) : Bool := hasB gs x.1 && decide ((nodeAt gs x.1).1 = 8)
def outsC (gs : List Nd) (cells : List Ce) : List Ce := cells.filter (outC gs)

end Go.Proofs.Ytbbagpnjjjohpaa.hexes

namespace Go.Proofs.Ytbbagpnjjjohpaa.hexes

theorem take_last {α : Type} {zs : List α} {j : Nat} (h : j < zs.length) : zs.take (j + 1) = zs.take j ++ [zs[j]] := by rw [List.take_succ_eq_append_getElem h]

theorem outs_step {gs : List Nd} {zs : List Ce} {j : Nat} (h : j < zs.length) : outsC gs (zs.take (j + 1)) = outsC gs (zs.take j) ++ (if outC gs zs[j] = true then [zs[j]] else []) := by
  unfold outsC
  rw [take_last h, List.filter_append]
  congr 1
  cases hb : outC gs zs[j] <;> simp [hb]
theorem outs_len (gs : List Nd) (zs : List Ce) : (outsC gs zs).length ≤ zs.length := List.length_filter_le _ _

end Go.Proofs.Ytbbagpnjjjohpaa.hexes

