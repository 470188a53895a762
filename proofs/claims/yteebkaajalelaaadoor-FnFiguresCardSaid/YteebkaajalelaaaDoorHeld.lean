/-
  What the five listed variables of the library give the contracts, and that it stands behind a call.
-/
import Derived.Test.YteebkaajalelaaaDoorImplReadDecimal
import Derived.LaidLaws
namespace Go.Proofs.YteebkaajalelaaaDoor.hexes
open Go.RowKit

theorem star : ("*errors.errorString" : String) = "*" ++ "errors.errorString" := by decide +kernel
theorem rowErr (u : TypeId) (h : Tryd.prog.typeName? 3 u = some "*errors.errorString") : u = 101 :=
  typeName_ptr_named (nm := "errors.errorString") (by rw [← star]; kernel_rfl) (by kernel_rfl) (by decide) u (by rw [← star]; exact h)

theorem held_of_laid {W : World} (h : laidMet Tryd.prog [("math/bits.deBruijn32tab", Rows.laid_math_bits_deBruijn32tab), ("math/bits.deBruijn64tab", Rows.laid_math_bits_deBruijn64tab), ("internal/strconv.uint64pow10", Rows.laid_internal_strconv_uint64pow10), ("strconv.ErrRange", Rows.laid_strconv_ErrRange), ("strconv.ErrSyntax", Rows.laid_strconv_ErrSyntax)] W) : Held W := by
  have c1 : Tryd.prog.cellsOf 103 = 1 := by kernel_rfl
  have c2 : Tryd.prog.cellsOf 9 = 1 := by kernel_rfl
  obtain ⟨a1, s1, hv1, -, -, -⟩ := laid_sentinel h.tail.tail.tail (g := 4) (ti := 45) (by kernel_rfl) (by kernel_rfl) Tryd.underlying45 rowErr Tryd.underlying101 Tryd.underlying103 rfl rfl Tryd.underlying9 c1 c2
  obtain ⟨a0, s0, hv0, -, -, -⟩ := laid_sentinel h.tail.tail.tail.tail (g := 3) (ti := 45) (by kernel_rfl) (by kernel_rfl) Tryd.underlying45 rowErr Tryd.underlying101 Tryd.underlying103 rfl rfl Tryd.underlying9 c1 c2
  exact ⟨pow10_head h.tail.tail, ⟨_, _, hv0⟩, ⟨_, _, hv1⟩⟩

theorem Held.below {W W' : World} (h : Held W) (hb : Below W.heap.size W W') : Held W' := by
  obtain ⟨t1, p1, h1⟩ := h.syn
  obtain ⟨t2, p2, h2⟩ := h.ran
  have l1 : 3 < W.heap.size := World.block_lt_of_cell? W ⟨3, 0, none⟩ (by simpa using World.var?_cell (g := 3) (by kernel_rfl) h1 0)
  have l2 : 4 < W.heap.size := World.block_lt_of_cell? W ⟨4, 0, none⟩ (by simpa using World.var?_cell (g := 4) (by kernel_rfl) h2 0)
  exact ⟨pow10_below h.tab hb, ⟨_, _, var?_below hb (g := 3) (by kernel_rfl) l1 h1⟩, ⟨_, _, var?_below hb (g := 4) (by kernel_rfl) l2 h2⟩⟩
end Go.Proofs.YteebkaajalelaaaDoor.hexes
