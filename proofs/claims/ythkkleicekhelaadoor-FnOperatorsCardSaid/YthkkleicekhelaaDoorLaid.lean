/-
  What the listed tables of the library give the contracts.
-/
import Derived.Test.YthkkleicekhelaaDoorRows
import Derived.Lib.LaidTab
import Derived.Lib.ItoaLen
import Derived.Stop.LaidErr
import Derived.WalkSmall
namespace Go.Proofs.YthkkleicekhelaaDoor.hexes
open Go.RowKit
theorem pow10_data : (Rows.laid_internal_strconv_uint64pow10 : DataW Unit) = Lib.tabData .u64 Lib.pow10Tab := by kernel_rfl
theorem pow10_head {W : World} {rest : List (String × DataW Unit)} (h : laidMet Tryd.prog (("internal/strconv.uint64pow10", Rows.laid_internal_strconv_uint64pow10) :: rest) W) : Lib.TabIs Tryd.prog W "internal/strconv.uint64pow10" .u64 Lib.pow10Tab := by
  rw [pow10_data] at h
  exact Lib.tabIs_of_head (g := 1) (t := 84) (e := 77) (n := 20) (by kernel_rfl) (by kernel_rfl) (by kernel_rfl) (by kernel_rfl) (by kernel_rfl) (by kernel_rfl) h
theorem pow10_below {W W' : World} (h : Lib.TabIs Tryd.prog W "internal/strconv.uint64pow10" .u64 Lib.pow10Tab) (hb : Below W.heap.size W W') : Lib.TabIs Tryd.prog W' "internal/strconv.uint64pow10" .u64 Lib.pow10Tab := by
  have hc := h.cell (g := 1) (by kernel_rfl) 0 (by rw [Lib.pow10Tab_length]; omega)
  exact var?_below hb (g := 1) (by kernel_rfl) (World.block_lt_of_cell? W _ hc) h
end Go.Proofs.YthkkleicekhelaaDoor.hexes
