/-
  FnExactPutCell answers true at every argument. No condition.
-/
import Derived.Test.YtlmjmhdmhpkkkaaRows
import Derived.Test.YtlmjmhdmhpkkkaaWFnExactPutCell
import Derived.Lib.SmallJoins
import Derived.ChangeSame
import Derived.WalkKit
import Derived.ProofKit
import Derived.OpenShut
import Derived.ShutString
import Derived.ChangeOld
import Derived.Below
namespace Go.Proofs.Ytlmjmhdmhpkkkaa.fnExactPutCell
open Go.ChangeShapes Go.WideShapes Go.ChangeAt Go.RowKit
open Go.ChangeMaps (open_string shut_string)
open Go.Joins
open Go.Proofs.Ytlmjmhdmhpkkkaa.hexes
set_option linter.unusedVariables false

theorem own : ownKnob Try.prog.godebug = none := by kernel_rfl
theorem cells48 : Try.prog.cellsOf 48 = 4 := by kernel_rfl
theorem laidOut : laidOutB Try.prog = true := by kernel_rfl

set_option maxRecDepth 100000 in
theorem lifted (os : Os) (started : os.Started) (H : Type) (enc : TypeId × Value → H) :
    ReturnsInHanded {} Try.checked os 6 .any (Rows.fnExactPutCellSpec.pre6 enc Try.prog Try.f6 Rows.fnExactPutCellRow.domain false) (Rows.fnExactPutCellSpec.post enc Try.prog Try.f6 false true false false) := by
  refine returnsInHanded_of_change (C := Try.checked) own started (by kernel_rfl) Try.func6
    (ChangeSpec.witness6 (enc := enc) (C := Try.checked) false ⟨#[], #[.slice none 0 0, .agg #[.int .i64 0, .int .i64 0, .int .i64 0, .int .i64 0]], []⟩ 8 (by kernel_rfl) (by kernel_rfl) (by kernel_rfl) (by kernel_rfl)) ?_
  intro W base args ds gs before hval0 hW hcnd _
  have hval : ∀ (j : Nat) t v, Try.f6.params[j]? = some t → args[j]? = some v → Value.okWide Try.prog W .any base t v := hval0
  have hW' := hW
  obtain ⟨p, q, hA0, hV, rfl, hfz, hnd⟩ := hW
  have hA : DataW.TrodAll enc Try.prog W 0 (fun _ => true) true Try.f6.params.toList args.toList ds p := hA0
  rw [Try.params6] at hA hval
  obtain ⟨v0, vs0, d0, ds0, p0, q0, hargs, rfl, rfl, h0, r0⟩ := trodAll_cons hA
  obtain ⟨v1, vs1, d1, ds1, p1, q1, rfl, rfl, rfl, h1, r1⟩ := trodAll_cons r0
  obtain ⟨rfl, rfl, rfl⟩ := trodAll_nil r1
  obtain rfl : args = #[v0, v1] := by cases args; simp_all
  obtain ⟨rfl, rfl⟩ := trodVars_none hV
  obtain ⟨a0, len0, cap0, rfl⟩ := okWide_slice Try.underlying51 (hval 0 51 v0 rfl rfl)
  have k0 := h0
  have lt0 : ∀ x ∈ p0, x.block < W.heap.size := by obtain ⟨m, hm⟩ := k0; exact DataW.trod_lt m _ _ _ hm
  obtain ⟨z0, w0⟩ : ∃ zs, IsCes W a0 len0 zs := by
    obtain ⟨fuel, hf⟩ := h0
    exact isCes_of_trod (cap := cap0) (by simpa [Value.cells] using hf)
  obtain ⟨c1_0, c1_1, c1_2, c1_3, y1_0, y1_1, y1_2, y1_3, m1, rfl, rfl, rfl, hy1_0, hy1_1, hy1_2, hy1_3⟩ := open_agg4 Try.underlying48 (by kernel_rfl) cells48 (hval 1 48 v1 rfl rfl) h1
  obtain ⟨a1f0, e1_0, rfl, w1f0⟩ := DataW.trod_int Try.underlying3 hy1_0
  obtain ⟨a1f1, e1_1, rfl, w1f1⟩ := DataW.trod_int Try.underlying3 hy1_1
  obtain ⟨a1f2, e1_2, rfl, w1f2⟩ := DataW.trod_int Try.underlying3 hy1_2
  obtain ⟨a1f3, e1_3, rfl, w1f3⟩ := DataW.trod_int Try.underlying3 hy1_3
  simp only [List.cons.injEq, and_true] at e1_0 e1_1 e1_2 e1_3
  subst e1_0 e1_1 e1_2 e1_3
  clear hA0 hval0
  refine (walk a0 len0 cap0 z0 a1f0 a1f1 a1f2 a1f3 w1f0 w1f1 w1f2 w1f3 W w0).mono fun e W' ⟨he, bel⟩ => ?_
  subst he
  exact ⟨_, rfl, _, _, _, [], _, [], hW', trodAll_mk1 (shut_bool Try.underlying4 _), (trodAll_cons_mk (Below.trod laidOut (by kernel_rfl) (of_decide_eq_true (by kernel_rfl)) k0 bel lt0) (trodAll_cons_mk (shut_agg4 (y0 := (.lit (.int .i64 a1f0), [])) (y1 := (.lit (.int .i64 a1f1), [])) (y2 := (.lit (.int .i64 a1f2), [])) (y3 := (.lit (.int .i64 a1f3), [])) Try.underlying48 (by kernel_rfl) cells48 ⟨1, trod_int_mk 0 Try.underlying3 w1f0⟩ ⟨1, trod_int_mk 0 Try.underlying3 w1f1⟩ ⟨1, trod_int_mk 0 Try.underlying3 w1f2⟩ ⟨1, trod_int_mk 0 Try.underlying3 w1f3⟩) trodAll_mk0)), rfl, bel.frame _, fun h => by cases h⟩

theorem over : Rows.fnExactPutCellRow.holds Try.pinned (OpenSpec.ofChange Rows.fnExactPutCellSpec) :=
  OpenClaim.holds_of_wide 6 Try.f6 rfl rfl rfl rfl rfl rfl rfl ⟨rfl, rfl, rfl, rfl, rfl⟩ rfl rfl rfl rfl rfl (by kernel_rfl) Try.func6 (by kernel_rfl)
    (of_decide_eq_true (by kernel_rfl)) (by unfold Func.isWrapper; first | (rw [if_pos (by decide +kernel)]; kernel_rfl) | (rw [if_neg (by decide +kernel)]; exact ⟨rfl, rfl⟩))
    (fun os started H enc _ => lifted os started H enc)

theorem proved : Rows.FnExactPutCellSaid := over
#print axioms proved
end Go.Proofs.Ytlmjmhdmhpkkkaa.fnExactPutCell
