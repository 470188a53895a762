/-
  The walk of FnExactKindName.
-/
import Derived.Test.YthkkleicekhelaaKind
namespace Go.Proofs.Ythkkleicekhelaa.fnExactKindName
open Go.RowKit Go.Proofs.Ythkkleicekhelaa.hexes

set_option maxRecDepth 100000 in
theorem walk (a0 : Int) (_w0 : (Lit.int .i64 a0).wf = true) (w : World) :
    Calls Try.prog 8 #[.int .i64 a0] w fun e w' => e = .returned (.bool true) ∧ Below w.heap.size w w' := by
  obtain ⟨r, hr⟩ : ∃ r, nameB a0 = r := ⟨_, rfl⟩
  go_enter Try.func8, Try.ntmps8
  go_wp2_with fail
  refine (specName_any a0 _).mono ?_
  rintro e w1 ⟨rfl, hb1⟩
  rw [hr]
  go_wp2_with fail
  refine (implName_any a0 _).mono ?_
  rintro e w2 ⟨rfl, hb2⟩
  rw [hr]
  have hb := below_chain hb1 hb2
  clear hb1 hb2 hr
  go_wp2
  go_ret
  exact ⟨rfl, hb⟩
end Go.Proofs.Ythkkleicekhelaa.fnExactKindName
