/-
  The walk of FnExactStampText.
-/
import Derived.Test.YtpodppmcdikmbaaDoorText
import Derived.OpenShut
namespace Go.Proofs.YtpodppmcdikmbaaDoor.fnExactStampText
open Go.RowKit Go.Proofs.YtpodppmcdikmbaaDoor.hexes

set_option maxRecDepth 100000 in
theorem walk (x y : Int) (hx : (Lit.int .i64 x).wf = true) (hy : (Lit.int .i64 y).wf = true) (w : World) (hL : laidMet Tryd.prog Rows.fnExactStampTextRow.laid w) :
    Calls Tryd.prog 4 #[.agg #[.int .i64 x, .int .i64 y]] w fun e w' => e = .returned (.bool true) ∧ Below w.heap.size w w' := by
  have HT := Lib.hid (pow10_head hL.tail.tail)
  have HX := Lib.hid (show I64 x from bounds_i64 hx)
  have HY := Lib.hid (show I64 y from bounds_i64 hy)
  clear hx hy hL
  go_enter Tryd.func4, Tryd.ntmps4
  go_wp2_with fail
  refine (toStamp_any _ _ _).mono ?_
  rintro e w1 ⟨rfl, hb⟩
  have C0 := Lib.hid (below_keep (a := ⟨w.heap.size, 0, none⟩) (v := .int .i64 x) hb (by simp))
  have C1 := Lib.hid (below_keep (a := ⟨w.heap.size, 1, none⟩) (v := .int .i64 y) hb (by simp))
  have B1 := Lib.hid (below_chain ((Below.refl w.heap.size w).alloc (Nat.le_refl _) _) hb)
  clear hb
  go_wp2_with fail
  refine (specText_any _ _ HX.out HY.out _).mono ?_
  rintro e w2 ⟨rfl, hb⟩
  have c0 := below_keep hb C0.out
  have c1 := below_keep hb C1.out
  have B2 := Lib.hid (below_chain B1.out hb)
  clear hb B1 C0 C1
  go_wp2_with fail
  refine (toStamp_any _ _ _).mono ?_
  rintro e w3 ⟨rfl, hb⟩
  have B3 := Lib.hid (below_chain B2.out hb)
  clear hb B2 c0 c1
  go_wp2_with fail
  refine (implText_any _ _ HX.out HY.out _ (pow10_below HT.out B3.out)).mono ?_
  rintro e w4 ⟨rfl, hb⟩
  have B4 := Lib.hid (below_chain B3.out hb)
  clear hb B3
  go_wp2
  go_ret
  exact ⟨rfl, B4.out⟩
end Go.Proofs.YtpodppmcdikmbaaDoor.fnExactStampText
