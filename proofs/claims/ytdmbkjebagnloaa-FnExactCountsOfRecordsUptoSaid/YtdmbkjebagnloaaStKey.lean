/-
  Stamps as keys of a map: the key's law, and what a stamp reads as.
-/
import Derived.Test.YtdmbkjebagnloaaProg
import Derived.WalkKit
import Derived.ProofKit
import Derived.Maps.Own
import Derived.Maps.OwnOps
import Derived.Maps.OwnSet
import Derived.Maps.RangeWalk
import Derived.Lib.SmallJoins
import Derived.ChangeSame
import Derived.OpenShut
namespace Go.Proofs.Ytdmbkjebagnloaa.hexes
open Go.RowKit Go.ChangeShapes Go.WideShapes Go.Joins Go.Maps

theorem stLaidOut : laidOutB Try.prog = true := by kernel_rfl
theorem stRow : (34 : TypeId) < Try.prog.types.size := of_decide_eq_true (by kernel_rfl)
theorem stDeep : Try.prog.keyTypeAt (Try.prog.types.size + 1) 34 = true := by kernel_rfl
theorem stWide : (match Try.prog.underlying 34 with | some (.array _ _) | some (.struct _) => true | _ => false) = true := by kernel_rfl
set_option maxRecDepth 1000000 in
theorem stKeyed : Keyed Try.prog 34 := Keyed.of_law (deep_law_laid stLaidOut (m := 2) (by omega) stRow (by kernel_rfl) stWide)
theorem stCells2 : Try.prog.cellsOf 34 = 2 := by kernel_rfl
theorem stFormed (x y : Value) : (Value.agg #[x, y]).formed Try.prog 34 = true := by
  have hu := Try.underlying34
  simp [Value.formed, hu, stCells2]

/-- What a stamp reads as, as a key. -/
def stKey (x y : Int) : Lit := (DataW.agg (H := Unit) [.lit (.int .i64 x), .lit (.int .i64 y)]).asKey

set_option maxRecDepth 1000000 in
theorem stKey_of {x y : Int} (hx : (Lit.int .i64 x).wf = true) (hy : (Lit.int .i64 y).wf = true) : keyOf Try.prog 34 (.agg #[.int .i64 x, .int .i64 y]) = some (stKey x y) :=
  (keyOf_asKey (H := Unit) (enc := fun _ => ()) (w := (World.settled Try.prog default)) (base := 0) (sp := fun _ => true) (held := true) stDeep stWide (stFormed _ _) (shut_agg2 (y0 := (.lit (.int .i64 x), [])) (y1 := (.lit (.int .i64 y), [])) Try.underlying34 (by kernel_rfl) stCells2 ⟨1, trod_int_mk 0 Try.underlying3 hx⟩ ⟨1, trod_int_mk 0 Try.underlying3 hy⟩)).1
end Go.Proofs.Ytdmbkjebagnloaa.hexes
