/-
  Nodes that came into a law: what its walk is told of them.
-/
import Derived.Test.YtjplkoglibagkaaNdBase
import Derived.Lib.SmallJoins
namespace Go.Proofs.Ytjplkoglibagkaa.hexes
open Go.RowKit Go.ChangeShapes Go.WideShapes Go.Deep Go.Joins

set_option maxRecDepth 100000 in
theorem isNd_of_trod {H : Type} {enc : TypeId × Value → H} {W : World} {r : Reach} {b0 : Nat} {v : Value} {d : DataW H} {pl : List MemPlace}
    (hv : Value.okWide Try.prog W r b0 89 v) (h : DataW.Trod enc Try.prog W 0 (fun _ => true) true 89 v d pl) :
    ∃ (A : Option Addr) (n c : Nat) (zs : List Int) (k a b : Int), v = .agg #[.int .i64 k, .int .i64 a, .int .i64 b, .slice A n c] ∧ IsInts W A n zs ∧ (Lit.int .i64 k).wf = true ∧ (Lit.int .i64 a).wf = true ∧ (Lit.int .i64 b).wf = true := by
  obtain ⟨cs, rfl, hok⟩ := okWide_struct Try.underlying89 hv
  obtain ⟨fuel, hf⟩ := h
  have ce_int : Try.prog.cellsOf 3 = 1 := by kernel_rfl
  have ce_sl : Try.prog.cellsOf 30 = 1 := by kernel_rfl
  have ce : Try.prog.cellsOf 89 = 4 := by kernel_rfl
  have hf' : DataW.trod enc Try.prog W 0 (fun _ => true) true fuel 89 cs.toList = some (d, pl) := by simpa [Value.cells] using hf
  have hlen : cs.toList.length = 4 := by
    obtain ⟨_, _, _, _, hl, _⟩ := DataW.trod_struct Try.underlying89 hf'
    rw [ce] at hl
    exact hl
  obtain ⟨v0, v1, v2, v3, hcs⟩ : ∃ v0 v1 v2 v3, cs.toList = [v0, v1, v2, v3] := by
    rcases hq : cs.toList with _ | ⟨u0, _ | ⟨u1, _ | ⟨u2, _ | ⟨u3, _ | ⟨u4, us⟩⟩⟩⟩⟩
    all_goals rw [hq] at hlen
    case cons.cons.cons.cons.nil => exact ⟨u0, u1, u2, u3, rfl⟩
    all_goals simp at hlen
  rw [hcs] at hf'
  obtain ⟨xs, k, _, _, hl, hxl, hfl⟩ := DataW.trod_struct Try.underlying89 hf'
  have hxl2 : xs.length = 4 := hxl
  clear hxl hl
  obtain ⟨y0, y1, y2, y3, rfl⟩ : ∃ y0 y1 y2 y3, xs = [y0, y1, y2, y3] := by
    rcases xs with _ | ⟨z0, _ | ⟨z1, _ | ⟨z2, _ | ⟨z3, _ | ⟨z4, zs⟩⟩⟩⟩⟩
    case cons.cons.cons.cons.nil => exact ⟨z0, z1, z2, z3, rfl⟩
    all_goals simp at hxl2
  have g0 := hfl 0 _ rfl
  have g1 := hfl 1 _ rfl
  have g2 := hfl 2 _ rfl
  have g3 := hfl 3 _ rfl
  simp [ce_int, ce_sl] at g0 g1 g2 g3
  clear hfl
  obtain ⟨p, e0, _, w0⟩ := DataW.trod_int Try.underlying3 g0
  obtain ⟨a, e1, _, w1⟩ := DataW.trod_int Try.underlying3 g1
  obtain ⟨b, e2, _, w2⟩ := DataW.trod_int Try.underlying3 g2
  simp only [List.cons.injEq, and_true] at e0 e1 e2
  obtain ⟨A, n, c, hv3⟩ : ∃ A n c, v3 = .slice A n c := by
    rcases open_slice Try.underlying30 g3 with ⟨hc, _⟩ | ⟨ad, l, c, m, n, D, Pl, hc, _⟩
    · simp only [List.cons.injEq, and_true] at hc; exact ⟨_, _, _, hc⟩
    · simp only [List.cons.injEq, and_true] at hc; exact ⟨_, _, _, hc⟩
  subst hv3
  obtain ⟨zs, hzs⟩ := isInts_of_trod g3
  refine ⟨A, n, c, zs, p, a, b, ?_, hzs, w0, w1, w2⟩
  rw [← Array.toArray_toList (xs := cs), hcs, e0, e1, e2]
end Go.Proofs.Ytjplkoglibagkaa.hexes
