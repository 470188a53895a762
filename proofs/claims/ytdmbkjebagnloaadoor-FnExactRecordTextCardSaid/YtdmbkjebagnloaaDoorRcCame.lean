/-
  Records that came into a law: what its walk is told of them.
-/
import Derived.Test.YtdmbkjebagnloaaDoorRcKit
import Derived.Deep.Slices
import Derived.ChangeSame
import Derived.OpenShut
import Derived.Lib.SmallJoins
namespace Go.Proofs.YtdmbkjebagnloaaDoor.hexes
open Go.RowKit Go.ChangeShapes Go.WideShapes Go.Deep Go.Joins

/-- WHAT THE WALK IS TOLD OF A LIST THAT CAME IN. -/
structure IsRcs (w : World) (a : Option Addr) (n : Nat) (zs : List Rc) : Prop where
  len : zs.length = n
  max : n ≤ maxLen
  rcs : Rcs w a zs
  wf : ∀ z ∈ zs, wfRc z

theorem addr_add_rc (b off : Nat) (j : Nat) : (Addr.add ⟨b, off, none⟩ j) = ⟨b, off + j, none⟩ := by unfold Addr.add; split <;> simp_all

theorem rc_cells {H : Type} {enc : TypeId × Value → H} {W : World} {base : Nat} {sp : Nat → Bool} {held : Bool} {fuel : Nat} {cs : List Value} {x : DataW H × List MemPlace}
    (h : DataW.trod enc Tryd.prog W base sp held fuel 25 cs = some x) : ∃ p0 p1 p2 p3 p4 : Int, cs = [.int .i64 p0, .int .i64 p1, .int .i64 p2, .int .i64 p3, .int .i64 p4] ∧ (Lit.int .i64 p0).wf = true ∧ (Lit.int .i64 p1).wf = true ∧ (Lit.int .i64 p2).wf = true ∧ (Lit.int .i64 p3).wf = true ∧ (Lit.int .i64 p4).wf = true := by
  have ce_int : Tryd.prog.cellsOf 3 = 1 := by kernel_rfl
  have ce_Stamp : Tryd.prog.cellsOf 23 = 2 := by kernel_rfl
  have ce : Tryd.prog.cellsOf 25 = 5 := by kernel_rfl
  have hlen : cs.length = 5 := by
    obtain ⟨_, _, _, _, hl, _⟩ := DataW.trod_struct Tryd.underlying25 h
    rw [ce] at hl
    exact hl
  obtain ⟨v0, v1, v2, v3, v4, rfl⟩ : ∃ v0 v1 v2 v3 v4, cs = [v0, v1, v2, v3, v4] := by
    rcases cs with _ | ⟨u0, _ | ⟨u1, _ | ⟨u2, _ | ⟨u3, _ | ⟨u4, _ | ⟨u5, us⟩⟩⟩⟩⟩⟩
    · simp at hlen
    · simp at hlen
    · simp at hlen
    · simp at hlen
    · simp at hlen
    · exact ⟨u0, u1, u2, u3, u4, rfl⟩
    · simp at hlen
  obtain ⟨xs_1, k_1, _, _, hl_1, hxl_1, hf_1⟩ := DataW.trod_struct Tryd.underlying25 h
  have hxl2_1 : xs_1.length = 4 := hxl_1
  clear hxl_1 hl_1
  obtain ⟨y_1_0, y_1_1, y_1_2, y_1_3, rfl⟩ : ∃ y_1_0 y_1_1 y_1_2 y_1_3, xs_1 = [y_1_0, y_1_1, y_1_2, y_1_3] := by
    rcases xs_1 with _ | ⟨z0, _ | ⟨z1, _ | ⟨z2, _ | ⟨z3, _ | ⟨z4, zs⟩⟩⟩⟩⟩
    · simp at hxl2_1
    · simp at hxl2_1
    · simp at hxl2_1
    · simp at hxl2_1
    · exact ⟨z0, z1, z2, z3, rfl⟩
    · simp at hxl2_1
  have g_1_0 := hf_1 0 _ rfl
  have g_1_1 := hf_1 1 _ rfl
  have g_1_2 := hf_1 2 _ rfl
  have g_1_3 := hf_1 3 _ rfl
  simp [ce_int, ce_Stamp] at g_1_0 g_1_1 g_1_2 g_1_3
  clear hf_1
  obtain ⟨p0, e0, _, w0⟩ := DataW.trod_int Tryd.underlying3 g_1_0
  simp only [List.cons.injEq, and_true] at e0
  obtain ⟨xs_2, k_2, _, _, hl_2, hxl_2, hf_2⟩ := DataW.trod_struct Tryd.underlying23 g_1_1
  have hxl2_2 : xs_2.length = 2 := hxl_2
  clear hxl_2 hl_2
  obtain ⟨y_2_0, y_2_1, rfl⟩ : ∃ y_2_0 y_2_1, xs_2 = [y_2_0, y_2_1] := by
    rcases xs_2 with _ | ⟨z0, _ | ⟨z1, _ | ⟨z2, zs⟩⟩⟩
    · simp at hxl2_2
    · simp at hxl2_2
    · exact ⟨z0, z1, rfl⟩
    · simp at hxl2_2
  have g_2_0 := hf_2 0 _ rfl
  have g_2_1 := hf_2 1 _ rfl
  simp [ce_int] at g_2_0 g_2_1
  clear hf_2
  obtain ⟨p1, e1, _, w1⟩ := DataW.trod_int Tryd.underlying3 g_2_0
  simp only [List.cons.injEq, and_true] at e1
  obtain ⟨p2, e2, _, w2⟩ := DataW.trod_int Tryd.underlying3 g_2_1
  simp only [List.cons.injEq, and_true] at e2
  obtain ⟨p3, e3, _, w3⟩ := DataW.trod_int Tryd.underlying3 g_1_2
  simp only [List.cons.injEq, and_true] at e3
  obtain ⟨p4, e4, _, w4⟩ := DataW.trod_int Tryd.underlying3 g_1_3
  simp only [List.cons.injEq, and_true] at e4
  exact ⟨p0, p1, p2, p3, p4, by rw [e0, e1, e2, e3, e4], w0, w1, w2, w3, w4⟩

set_option maxRecDepth 100000 in
theorem isRc_of_trod {H : Type} {enc : TypeId × Value → H} {W : World} {base : Nat} {sp : Nat → Bool} {held : Bool} {r : Reach} {b0 : Nat} {v : Value} {d : DataW H} {p : List MemPlace}
    (hv : Value.okWide Tryd.prog W r b0 25 v) (h : DataW.Trod enc Tryd.prog W base sp held 25 v d p) : ∃ p0 p1 p2 p3 p4 : Int, v = .agg #[.int .i64 p0, .int .i64 p1, .int .i64 p2, .int .i64 p3, .int .i64 p4] ∧ (Lit.int .i64 p0).wf = true ∧ (Lit.int .i64 p1).wf = true ∧ (Lit.int .i64 p2).wf = true ∧ (Lit.int .i64 p3).wf = true ∧ (Lit.int .i64 p4).wf = true := by
  obtain ⟨cs, rfl, _⟩ := okWide_struct Tryd.underlying25 hv
  obtain ⟨fuel, hf⟩ := h
  obtain ⟨p0, p1, p2, p3, p4, hc, hw⟩ := rc_cells hf
  refine ⟨p0, p1, p2, p3, p4, ?_, hw⟩
  have : cs.toList = [.int .i64 p0, .int .i64 p1, .int .i64 p2, .int .i64 p3, .int .i64 p4] := by simpa [Value.cells] using hc
  rw [← Array.toArray_toList (xs := cs), this]