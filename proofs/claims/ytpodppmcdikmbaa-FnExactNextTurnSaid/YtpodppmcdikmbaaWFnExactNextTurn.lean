/-
  The walk of FnExactNextTurn.
-/
import Derived.Test.YtpodppmcdikmbaaStamps
import Derived.Deep.RegionHeld3
import Derived.Deep.DeepCutAuto
namespace Go.Proofs.Ytpodppmcdikmbaa.fnExactNextTurn
open Go.RowKit Go.Proofs.Ytpodppmcdikmbaa.hexes

theorem walk (x y : Int) (_ : (Lit.int .i64 x).wf = true) (_ : (Lit.int .i64 y).wf = true) (w : World) :
    Calls Try.prog 8 #[.agg #[.int .i64 x, .int .i64 y]] w fun e w' => e = .returned (.bool true) ∧ Below w.heap.size w w' := by
  go_enter Try.func8, Try.ntmps8
  go_wp2_with fail
  refine (toStamp_any _ _ _).mono ?_
  rintro e w1 ⟨rfl, hb⟩
  have c0 := below_keep (a := ⟨w.heap.size, 0, none⟩) (v := .int .i64 x) hb (by simp)
  have c1 := below_keep (a := ⟨w.heap.size, 1, none⟩) (v := .int .i64 y) hb (by simp)
  have B1 := Lib.hid (((Below.refl w.heap.size w).alloc (by simp) _).trans (hb.mono (by simp)))
  have C0 := Lib.hid c0
  have C1 := Lib.hid c1
  clear hb c0 c1
  go_wp2_with fail
  refine (specNext_any _ _ _).mono ?_
  rintro e w2 ⟨rfl, hb⟩
  have c0 := alloc_keep (o := .cells #[.int .i64 x, .int .i64 (nextY x y)] 25) (below_keep hb C0.out)
  have c1 := alloc_keep (o := .cells #[.int .i64 x, .int .i64 (nextY x y)] 25) (below_keep hb C1.out)
  have B2 := Lib.hid ((B1.out.trans (hb.mono B1.out.size)).alloc (B1.out.trans (hb.mono B1.out.size)).size (.cells #[.int .i64 x, .int .i64 (nextY x y)] 25))
  clear hb B1 C0 C1
  go_wp2_with fail
  refine (toStamp_any _ _ _).mono ?_
  rintro e w3 ⟨rfl, hb⟩
  have d0 := below_keep (a := ⟨w2.heap.size, 0, none⟩) (v := .int .i64 x) hb (by simp)
  have d1 := below_keep (a := ⟨w2.heap.size, 1, none⟩) (v := .int .i64 (nextY x y)) hb (by simp)
  have B3 := Lib.hid (B2.out.trans (hb.mono B2.out.size))
  have D0 := Lib.hid d0
  have D1 := Lib.hid d1
  clear hb B2 c0 c1 d0 d1
  go_wp2_with fail
  refine (implNext_any _ _ _).mono ?_
  rintro e w4 ⟨rfl, hb⟩
  have d0 := alloc_keep (o := .cells #[.int .i64 x, .int .i64 (nextY x y)] 25) (below_keep hb D0.out)
  have d1 := alloc_keep (o := .cells #[.int .i64 x, .int .i64 (nextY x y)] 25) (below_keep hb D1.out)
  have B4 := Lib.hid ((B3.out.trans (hb.mono B3.out.size)).alloc (B3.out.trans (hb.mono B3.out.size)).size (.cells #[.int .i64 x, .int .i64 (nextY x y)] 25))
  clear hb B3 D0 D1
  go_wp2_with (go_at_call 21; refine (eqStamp_any _ _ _ _ _).mono ?_; rintro e w5 ⟨rfl, hb⟩)
  go_ret
  exact ⟨rfl, B4.out.trans (hb.mono B4.out.size)⟩
end Go.Proofs.Ytpodppmcdikmbaa.fnExactNextTurn
