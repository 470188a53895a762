/-
  FnExactImprove answers true at every argument. No condition.
-/
import Derived.Test.YtbbagpnjjjohpaaRows
import Derived.Test.YtbbagpnjjjohpaaJ44
import Derived.Lib.SmallJoins
import Derived.ChangeSame
import Derived.WalkKit
import Derived.ProofKit
import Derived.OpenShut
import Derived.ShutString
import Derived.ChangeOld
import Derived.Below
namespace Go.Proofs.Ytbbagpnjjjohpaa.fnExactImprove
open Go.ChangeShapes Go.WideShapes Go.ChangeAt Go.RowKit
open Go.ChangeMaps (open_string shut_string)
open Go.Joins
open Go.Proofs.Ytbbagpnjjjohpaa.hexes
set_option linter.unusedVariables false

theorem own : ownKnob Try.prog.godebug = none := by kernel_rfl
theorem cells59 : Try.prog.cellsOf 59 = 4 := by kernel_rfl
theorem laidOut : laidOutB Try.prog = true := by kernel_rfl

set_option maxRecDepth 100000 in
theorem lifted (os : Os) (started : os.Started) (H : Type) (enc : TypeId × Value → H) :
    ReturnsInHanded {} Try.checked os 5 .any (Rows.fnExactImproveSpec.pre6 enc Try.prog Try.f5 Rows.fnExactImproveRow.domain false) (Rows.fnExactImproveSpec.post enc Try.prog Try.f5 false true false false) := by
  refine returnsInHanded_of_change (C := Try.checked) own started (by kernel_rfl) Try.func5
    (ChangeSpec.witness6 (enc := enc) (C := Try.checked) false ⟨#[], #[.agg #[.slice none 0 0, .int .i64 0, .int .i64 0], .slice none 0 0, .agg #[.int .i64 0, .int .i64 0, .int .i64 0, .int .i64 0]], []⟩ 8 (by kernel_rfl) (by kernel_rfl) (by kernel_rfl) (by kernel_rfl)) ?_
  intro W base args ds gs before hval0 hW hcnd _
  have hval : ∀ (j : Nat) t v, Try.f5.params[j]? = some t → args[j]? = some v → Value.okWide Try.prog W .any base t v := hval0
  have hW' := hW
  obtain ⟨p, q, hA0, hV, rfl, hfz, hnd⟩ := hW
  have hA : DataW.TrodAll enc Try.prog W 0 (fun _ => true) true Try.f5.params.toList args.toList ds p := hA0
  rw [Try.params5] at hA hval
  obtain ⟨v0, vs0, d0, ds0, p0, q0, hargs, rfl, rfl, h0, r0⟩ := trodAll_cons hA
  obtain ⟨v1, vs1, d1, ds1, p1, q1, rfl, rfl, rfl, h1, r1⟩ := trodAll_cons r0
  obtain ⟨v2, vs2, d2, ds2, p2, q2, rfl, rfl, rfl, h2, r2⟩ := trodAll_cons r1
  obtain ⟨rfl, rfl, rfl⟩ := trodAll_nil r2
  obtain rfl : args = #[v0, v1, v2] := by cases args; simp_all
  obtain ⟨rfl, rfl⟩ := trodVars_none hV
  have k0 := h0
  have lt0 : ∀ x ∈ p0, x.block < W.heap.size := by obtain ⟨m, hm⟩ := k0; exact DataW.trod_lt m _ _ _ hm
  obtain ⟨gA0, gn0, gc0, gg0, gw0, gp0, rfl, w0, _, ww0, wp0⟩ := isGr_of_trod (hval 0 57 v0 rfl rfl) h0
  obtain ⟨a1, len1, cap1, rfl⟩ := okWide_slice Try.underlying58 (hval 1 58 v1 rfl rfl)
  have k1 := h1
  have lt1 : ∀ x ∈ p1, x.block < W.heap.size := by obtain ⟨m, hm⟩ := k1; exact DataW.trod_lt m _ _ _ hm
  obtain ⟨z1, w1⟩ : ∃ zs, IsCes W a1 len1 zs := by
    obtain ⟨fuel, hf⟩ := h1
    exact isCes_of_trod (cap := cap1) (by simpa [Value.cells] using hf)
  obtain ⟨c2_0, c2_1, c2_2, c2_3, y2_0, y2_1, y2_2, y2_3, m2, rfl, rfl, rfl, hy2_0, hy2_1, hy2_2, hy2_3⟩ := open_agg4 Try.underlying59 (by kernel_rfl) cells59 (hval 2 59 v2 rfl rfl) h2
  obtain ⟨a2f0, e2_0, rfl, w2f0⟩ := DataW.trod_int Try.underlying3 hy2_0
  obtain ⟨a2f1, e2_1, rfl, w2f1⟩ := DataW.trod_int Try.underlying3 hy2_1
  obtain ⟨a2f2, e2_2, rfl, w2f2⟩ := DataW.trod_int Try.underlying3 hy2_2
  obtain ⟨a2f3, e2_3, rfl, w2f3⟩ := DataW.trod_int Try.underlying3 hy2_3
  simp only [List.cons.injEq, and_true] at e2_0 e2_1 e2_2 e2_3
  subst e2_0 e2_1 e2_2 e2_3
  clear hA0 hval0
  refine (walk gA0 gn0 gc0 gg0 gw0 gp0 a1 len1 cap1 z1 a2f0 a2f1 a2f2 a2f3 w2f0 w2f1 w2f2 w2f3 W w0 w1).mono fun e W' ⟨he, bel⟩ => ?_
  subst he
  exact ⟨_, rfl, _, _, _, [], _, [], hW', trodAll_mk1 (shut_bool Try.underlying4 _), (trodAll_cons_mk (Below.trod laidOut (by kernel_rfl) (of_decide_eq_true (by kernel_rfl)) k0 bel lt0) (trodAll_cons_mk (Below.trod laidOut (by kernel_rfl) (of_decide_eq_true (by kernel_rfl)) k1 bel lt1) (trodAll_cons_mk (shut_agg4 (y0 := (.lit (.int .i64 a2f0), [])) (y1 := (.lit (.int .i64 a2f1), [])) (y2 := (.lit (.int .i64 a2f2), [])) (y3 := (.lit (.int .i64 a2f3), [])) Try.underlying59 (by kernel_rfl) cells59 ⟨1, trod_int_mk 0 Try.underlying3 w2f0⟩ ⟨1, trod_int_mk 0 Try.underlying3 w2f1⟩ ⟨1, trod_int_mk 0 Try.underlying3 w2f2⟩ ⟨1, trod_int_mk 0 Try.underlying3 w2f3⟩) trodAll_mk0))), rfl, bel.frame _, fun h => by cases h⟩

theorem over : Rows.fnExactImproveRow.holds Try.pinned (OpenSpec.ofChange Rows.fnExactImproveSpec) :=
  OpenClaim.holds_of_wide 5 Try.f5 rfl rfl rfl rfl rfl rfl rfl ⟨rfl, rfl, rfl, rfl, rfl⟩ rfl rfl rfl rfl rfl (by kernel_rfl) Try.func5 (by kernel_rfl)
    (of_decide_eq_true (by kernel_rfl)) (by unfold Func.isWrapper; first | (rw [if_pos (by decide +kernel)]; kernel_rfl) | (rw [if_neg (by decide +kernel)]; exact ⟨rfl, rfl⟩))
    (fun os started H enc _ => lifted os started H enc)

theorem proved : Rows.FnExactImproveSaid := over
#print axioms proved
end Go.Proofs.Ytbbagpnjjjohpaa.fnExactImprove
