/-
  Cells in memory: more of the kit: capacities, parts of a list, an append at one step of a region that draws its order.
-/
import Derived.Test.YtbbagpnjjjohpaaJ30
import Derived.Laws.AppendOwnNone
import Derived.Deep.AppendLies
import Derived.Lib.SliceRun

namespace Go.Proofs.Ytbbagpnjjjohpaa.hexes
open Go.RowKit

theorem Ces.take {w : World} {A : Option Addr} {zs : List Ce} (h : Ces w A zs) (k : Nat) : Ces w A (zs.take k) := fun hl => by
  rw [List.length_take] at hl
  obtain ⟨b, off, hA, hb, hz⟩ := h (by omega)
  refine ⟨b, off, hA, hb, fun j hj => ?_⟩
  rw [List.length_take] at hj
  have := hz j (by omega)
  simpa using this

/-- A cell in a block of its own. -/
structure XB (b : Nat) (x0 x1 x2 x3 : Int) (w : World) : Prop where
  c0 : w.cell? ⟨b, 0, none⟩ = some (.int .i64 x0)
  c1 : w.cell? ⟨b, 1, none⟩ = some (.int .i64 x1)
  c2 : w.cell? ⟨b, 2, none⟩ = some (.int .i64 x2)
  c3 : w.cell? ⟨b, 3, none⟩ = some (.int .i64 x3)
theorem XB.below {b : Nat} {x0 x1 x2 x3 : Int} {w w' : World} (h : XB b x0 x1 x2 x3 w) (hb : Below w.heap.size w w') : XB b x0 x1 x2 x3 w' := ⟨below_keep hb h.c0, below_keep hb h.c1, below_keep hb h.c2, below_keep hb h.c3⟩
theorem XB.drew {b : Nat} {x0 x1 x2 x3 : Int} {w : World} (h : XB b x0 x1 x2 x3 w) : XB b x0 x1 x2 x3 w.drew := ⟨h.c0, h.c1, h.c2, h.c3⟩
theorem XB.grown {b : Nat} {x0 x1 x2 x3 : Int} {w w' : World} {row : Option Nat} (h : XB b x0 x1 x2 x3 w) (gr : w.grownBy w' row) (hr : row ≠ some b) : XB b x0 x1 x2 x3 w' :=
  ⟨World.grownBy.cell gr h.c0 (Ne.symm hr), World.grownBy.cell gr h.c1 (Ne.symm hr), World.grownBy.cell gr h.c2 (Ne.symm hr), World.grownBy.cell gr h.c3 (Ne.symm hr)⟩
theorem XB.new (w : World) (x0 x1 x2 x3 : Int) : XB w.heap.size x0 x1 x2 x3 (w.alloc (.cells #[.int .i64 x0, .int .i64 x1, .int .i64 x2, .int .i64 x3] 38)) := ⟨by simp, by simp, by simp, by simp⟩
end Go.Proofs.Ytbbagpnjjjohpaa.hexes

