/-
  Links that came into a law: what its walk is told of them.
-/
import Derived.Test.YtidpjpakodndhaaRcCame
import Derived.Test.YtidpjpakodndhaaLkBase
namespace Go.Proofs.Ytidpjpakodndhaa.hexes
open Go.RowKit Go.ChangeShapes Go.WideShapes Go.Deep Go.Joins

theorem Blk.wrote {w w' : World} {g : Nat} {t : TypeId} {cs : Array Value} {lo hi : Nat} (h : Blk w g t cs) (hw : Wrote w w' lo hi) (hd : g < lo ∨ hi ≤ g) : Blk w' g t cs := by
  obtain ⟨row, hg, hr⟩ := hw
  refine h.grown hg fun e => ?_
  have := hr g e.symm
  omega
theorem rcs_drew {w : World} {A : Option Addr} {zs : List Rc} (h : Rcs w A zs) : Rcs w.drew A zs := h

set_option maxRecDepth 100000 in
theorem isLk_of_trod {H : Type} {enc : TypeId × Value → H} {W : World} {r : Reach} {b0 : Nat} {v : Value} {d : DataW H} {pl : List MemPlace}
    (hv : Value.okWide Try.prog W r b0 52 v) (h : DataW.Trod enc Try.prog W 0 (fun _ => true) true 52 v d pl) :
    ∃ (A : Option Addr) (n c : Nat) (zs : List Rc) (p a b s g : Int), v = .agg #[.int .i64 p, .slice A n c, .int .i64 a, .int .i64 b, .int .i64 s, .int .i64 g] ∧ IsRcs W A n zs ∧ (Lit.int .i64 p).wf = true ∧ (Lit.int .i64 a).wf = true ∧ (Lit.int .i64 b).wf = true ∧ (Lit.int .i64 s).wf = true ∧ (Lit.int .i64 g).wf = true := by
  obtain ⟨cs, rfl, hok⟩ := okWide_struct Try.underlying52 hv
  obtain ⟨fuel, hf⟩ := h
  have ce_int : Try.prog.cellsOf 3 = 1 := by kernel_rfl
  have ce_sl : Try.prog.cellsOf 50 = 1 := by kernel_rfl
  have ce : Try.prog.cellsOf 52 = 6 := by kernel_rfl
  have hf' : DataW.trod enc Try.prog W 0 (fun _ => true) true fuel 52 cs.toList = some (d, pl) := by simpa [Value.cells] using hf
  have hlen : cs.toList.length = 6 := by
    obtain ⟨_, _, _, _, hl, _⟩ := DataW.trod_struct Try.underlying52 hf'
    rw [ce] at hl
    exact hl
  obtain ⟨v0, v1, v2, v3, v4, v5, hcs⟩ : ∃ v0 v1 v2 v3 v4 v5, cs.toList = [v0, v1, v2, v3, v4, v5] := by
    rcases hq : cs.toList with _ | ⟨u0, _ | ⟨u1, _ | ⟨u2, _ | ⟨u3, _ | ⟨u4, _ | ⟨u5, _ | ⟨u6, us⟩⟩⟩⟩⟩⟩⟩
    all_goals rw [hq] at hlen
    case cons.cons.cons.cons.cons.cons.nil => exact ⟨u0, u1, u2, u3, u4, u5, rfl⟩
    all_goals simp at hlen
  rw [hcs] at hf'
  obtain ⟨xs, k, _, _, hl, hxl, hfl⟩ := DataW.trod_struct Try.underlying52 hf'
  have hxl2 : xs.length = 6 := hxl
  clear hxl hl
  obtain ⟨y0, y1, y2, y3, y4, y5, rfl⟩ : ∃ y0 y1 y2 y3 y4 y5, xs = [y0, y1, y2, y3, y4, y5] := by
    rcases xs with _ | ⟨z0, _ | ⟨z1, _ | ⟨z2, _ | ⟨z3, _ | ⟨z4, _ | ⟨z5, _ | ⟨z6, zs⟩⟩⟩⟩⟩⟩⟩
    case cons.cons.cons.cons.cons.cons.nil => exact ⟨z0, z1, z2, z3, z4, z5, rfl⟩
    all_goals simp at hxl2
  have g0 := hfl 0 _ rfl
  have g1 := hfl 1 _ rfl
  have g2 := hfl 2 _ rfl
  have g3 := hfl 3 _ rfl
  have g4 := hfl 4 _ rfl
  have g5 := hfl 5 _ rfl
  simp [ce_int, ce_sl] at g0 g1 g2 g3 g4 g5
  clear hfl
  obtain ⟨p, e0, _, w0⟩ := DataW.trod_int Try.underlying3 g0
  obtain ⟨a, e2, _, w2⟩ := DataW.trod_int Try.underlying3 g2
  obtain ⟨b, e3, _, w3⟩ := DataW.trod_int Try.underlying3 g3
  obtain ⟨s, e4, _, w4⟩ := DataW.trod_int Try.underlying3 g4
  obtain ⟨g, e5, _, w5⟩ := DataW.trod_int Try.underlying3 g5
  simp only [List.cons.injEq, and_true] at e0 e2 e3 e4 e5
  obtain ⟨A, n, c, hv1⟩ : ∃ A n c, v1 = .slice A n c := by
    rcases open_slice Try.underlying50 g1 with ⟨hc, _⟩ | ⟨ad, l, c, m, n, D, Pl, hc, _⟩
    · simp only [List.cons.injEq, and_true] at hc; exact ⟨_, _, _, hc⟩
    · simp only [List.cons.injEq, and_true] at hc; exact ⟨_, _, _, hc⟩
  subst hv1
  obtain ⟨zs, hzs⟩ := isRcs_of_trod g1
  refine ⟨A, n, c, zs, p, a, b, s, g, ?_, hzs, w0, w2, w3, w4, w5⟩
  rw [← Array.toArray_toList (xs := cs), hcs, e0, e2, e3, e4, e5]
end Go.Proofs.Ytidpjpakodndhaa.hexes
