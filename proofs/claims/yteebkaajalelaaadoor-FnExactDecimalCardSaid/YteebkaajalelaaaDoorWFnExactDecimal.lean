/-
  The walk of FnExactDecimal.
-/
import Derived.Test.YteebkaajalelaaaDoorSpecDecimal
import Derived.Test.YteebkaajalelaaaDoorImplDecimal
import Derived.OpenShut
namespace Go.Proofs.YteebkaajalelaaaDoor.fnExactDecimal
open Go.RowKit Go.Proofs.YteebkaajalelaaaDoor.hexes

theorem walk (n : Int) (hn : (Lit.int .i64 n).wf = true) (w : World) (hL : laidMet Tryd.prog Rows.fnExactDecimalRow.laid w) :
    Calls Tryd.prog 4 #[.int .i64 n] w fun e w' => e = .returned (.bool true) ∧ Below w.heap.size w w' := by
  have htab := pow10_head hL.tail.tail
  have hb := bounds_i64 hn
  have A := fun W => specDec_any n hb.1 hb.2 W
  have B := fun W => implDec_any n hb.1 hb.2 W
  have HA := Lib.hid A
  have HB := Lib.hid B
  have HT := Lib.hid htab
  clear A B hb htab hL hn
  go_enter Tryd.func4, Tryd.ntmps4
  go_wp2_with (first | (go_at_call 14; refine (HA.out _).mono ?_; rintro e w1 ⟨rfl, hb1⟩) | (go_at_call 9; refine (HB.out _ (pow10_below HT.out hb1)).mono ?_; rintro e w2 ⟨rfl, hb2⟩))
  go_ret
  exact ⟨rfl, hb1.trans (hb2.mono hb1.size)⟩
end Go.Proofs.YteebkaajalelaaaDoor.fnExactDecimal
