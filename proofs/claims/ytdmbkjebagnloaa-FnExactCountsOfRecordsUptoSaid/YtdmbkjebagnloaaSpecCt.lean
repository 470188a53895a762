/-
  Chapter 4's plain functions as the reference has them: the contracts of spec.TotalCount, spec.EpochCount, spec.FrontOf, spec.CountAt and laws.sameCounts.
-/
import Derived.Test.YtdmbkjebagnloaaCtKit
import Derived.Test.YtdmbkjebagnloaaDrawFrontBase
namespace Go.Proofs.Ytdmbkjebagnloaa.hexes
open Go.RowKit

theorem fold_take_step {α β : Type} {f : β → α → β} {b : β} {zs : List α} {k : Nat} (hk : k < zs.length) : (zs.take (k + 1)).foldl f b = f ((zs.take k).foldl f b) zs[k] := by
  rw [List.take_succ_eq_append_getElem hk, List.foldl_append]
  rfl

theorem posL_step {zs : List Ct} {k : Nat} (hk : k < zs.length) : posL (zs.take (k + 1)) = posL (zs.take k) ++ (if 0 < zs[k].2 then [zs[k].1] else []) := by
  unfold posL
  rw [List.take_succ_eq_append_getElem hk, List.filter_append, List.map_append]
  by_cases h : 0 < zs[k].2
  · simp [h]
  · simp [h]
theorem posL_length (zs : List Ct) : (posL zs).length ≤ zs.length := by
  unfold posL
  rw [List.length_map]
  exact List.length_filter_le _ _

end Go.Proofs.Ytdmbkjebagnloaa.hexes
