/-
  What the listed table of spaces gives the contract of strings.Fields.
-/
import Derived.Test.YteebkaajalelaaaDoorRows
import Derived.Lib.LaidTab
import Derived.Lib.Space
import Derived.Stop.LaidErr
import Derived.WalkSmall
namespace Go.Proofs.YteebkaajalelaaaDoor.hexes
open Go.RowKit
theorem space_data : (Rows.laid_strings_asciiSpace : DataW Unit) = Lib.tabData .u8 Lib.asciiSpaceTab := by kernel_rfl
theorem space_head {W : World} {rest : List (String × DataW Unit)} (h : laidMet Tryd.prog (("strings.asciiSpace", Rows.laid_strings_asciiSpace) :: rest) W) : Lib.TabIs Tryd.prog W "strings.asciiSpace" .u8 Lib.asciiSpaceTab := by
  rw [space_data] at h
  exact Lib.tabIs_of_head (g := 0) (t := 55) (e := 5) (n := 256) (by kernel_rfl) (by kernel_rfl) (by kernel_rfl) (by kernel_rfl) (by kernel_rfl) (by kernel_rfl) h
theorem space_below {W W' : World} (h : Lib.TabIs Tryd.prog W "strings.asciiSpace" .u8 Lib.asciiSpaceTab) (hb : Below W.heap.size W W') : Lib.TabIs Tryd.prog W' "strings.asciiSpace" .u8 Lib.asciiSpaceTab := by
  have hc := h.cell (g := 0) (by kernel_rfl) 0 (by rw [Lib.asciiSpaceTab_length]; omega)
  exact var?_below hb (g := 0) (by kernel_rfl) (World.block_lt_of_cell? W _ hc) h
theorem space_cell {W : World} (h : Lib.TabIs Tryd.prog W "strings.asciiSpace" .u8 Lib.asciiSpaceTab) : 0 < W.heap.size :=
  World.block_lt_of_cell? W _ (h.cell (g := 0) (by kernel_rfl) 0 (by rw [Lib.asciiSpaceTab_length]; omega))
end Go.Proofs.YteebkaajalelaaaDoor.hexes
