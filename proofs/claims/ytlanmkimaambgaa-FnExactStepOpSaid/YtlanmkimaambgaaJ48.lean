/-
  Records that came into a law: what its walk is told of them.
  The walk of FnExactCapped.
-/
import Derived.Test.YtlanmkimaambgaaJ16
import Derived.Deep.Slices
import Derived.ChangeSame
import Derived.OpenShut
import Derived.Lib.SmallJoins
import Derived.Test.YtlanmkimaambgaaJ33
import Derived.Test.YtlanmkimaambgaaJ47
import Derived.Test.YtlanmkimaambgaaJ11
import Derived.Test.YtlanmkimaambgaaJ10
import Derived.Test.YtlanmkimaambgaaJ15
import Derived.Deep.RegionHeld3
import Derived.Deep.DeepCutAuto

namespace Go.Proofs.Ytlanmkimaambgaa.hexes
open Go.RowKit Go.ChangeShapes Go.WideShapes Go.Deep Go.Joins

theorem rc_cells {H : Type} {enc : TypeId × Value → H} {W : World} {base : Nat} {sp : Nat → Bool} {held : Bool} {fuel : Nat} {cs : List Value} {x : DataW H × List MemPlace}
    (h : DataW.trod enc Try.prog W base sp held fuel 54 cs = some x) : ∃ p0 p1 p2 p3 p4 : Int, cs = [.int .i64 p0, .int .i64 p1, .int .i64 p2, .int .i64 p3, .int .i64 p4] ∧ (Lit.int .i64 p0).wf = true ∧ (Lit.int .i64 p1).wf = true ∧ (Lit.int .i64 p2).wf = true ∧ (Lit.int .i64 p3).wf = true ∧ (Lit.int .i64 p4).wf = true := by
  have ce_int : Try.prog.cellsOf 3 = 1 := by kernel_rfl
  have ce_Stamp : Try.prog.cellsOf 52 = 2 := by kernel_rfl
  have ce : Try.prog.cellsOf 54 = 5 := by kernel_rfl
  have hlen : cs.length = 5 := by
    obtain ⟨_, _, _, _, hl, _⟩ := DataW.trod_struct Try.underlying54 h
    rw [ce] at hl
    exact hl
  obtain ⟨v0, v1, v2, v3, v4, rfl⟩ : ∃ v0 v1 v2 v3 v4, cs = [v0, v1, v2, v3, v4] := by
    rcases cs with _ | ⟨u0, _ | ⟨u1, _ | ⟨u2, _ | ⟨u3, _ | ⟨u4, _ | ⟨u5, us⟩⟩⟩⟩⟩⟩
    · simp at hlen
    · simp at hlen
    · simp at hlen
    · simp at hlen
    · simp at hlen
    · exact ⟨u0, u1, u2, u3, u4, rfl⟩
    · simp at hlen
  obtain ⟨xs_1, k_1, _, _, hl_1, hxl_1, hf_1⟩ := DataW.trod_struct Try.underlying54 h
  have hxl2_1 : xs_1.length = 4 := hxl_1
  clear hxl_1 hl_1
  obtain ⟨y_1_0, y_1_1, y_1_2, y_1_3, rfl⟩ : ∃ y_1_0 y_1_1 y_1_2 y_1_3, xs_1 = [y_1_0, y_1_1, y_1_2, y_1_3] := by
    rcases xs_1 with _ | ⟨z0, _ | ⟨z1, _ | ⟨z2, _ | ⟨z3, _ | ⟨z4, zs⟩⟩⟩⟩⟩
    · simp at hxl2_1
    · simp at hxl2_1
    · simp at hxl2_1
    · simp at hxl2_1
    · exact ⟨z0, z1, z2, z3, rfl⟩
    · simp at hxl2_1
  have g_1_0 := hf_1 0 _ rfl
  have g_1_1 := hf_1 1 _ rfl
  have g_1_2 := hf_1 2 _ rfl
  have g_1_3 := hf_1 3 _ rfl
  simp [ce_int, ce_Stamp] at g_1_0 g_1_1 g_1_2 g_1_3
  clear hf_1
  obtain ⟨p0, e0, _, w0⟩ := DataW.trod_int Try.underlying3 g_1_0
  simp only [List.cons.injEq, and_true] at e0
  obtain ⟨xs_2, k_2, _, _, hl_2, hxl_2, hf_2⟩ := DataW.trod_struct Try.underlying52 g_1_1
  have hxl2_2 : xs_2.length = 2 := hxl_2
  clear hxl_2 hl_2
  obtain ⟨y_2_0, y_2_1, rfl⟩ : ∃ y_2_0 y_2_1, xs_2 = [y_2_0, y_2_1] := by
    rcases xs_2 with _ | ⟨z0, _ | ⟨z1, _ | ⟨z2, zs⟩⟩⟩
    · simp at hxl2_2
    · simp at hxl2_2
    · exact ⟨z0, z1, rfl⟩
    · simp at hxl2_2
  have g_2_0 := hf_2 0 _ rfl
  have g_2_1 := hf_2 1 _ rfl
  simp [ce_int] at g_2_0 g_2_1
  clear hf_2
  obtain ⟨p1, e1, _, w1⟩ := DataW.trod_int Try.underlying3 g_2_0
  simp only [List.cons.injEq, and_true] at e1
  obtain ⟨p2, e2, _, w2⟩ := DataW.trod_int Try.underlying3 g_2_1
  simp only [List.cons.injEq, and_true] at e2
  obtain ⟨p3, e3, _, w3⟩ := DataW.trod_int Try.underlying3 g_1_2
  simp only [List.cons.injEq, and_true] at e3
  obtain ⟨p4, e4, _, w4⟩ := DataW.trod_int Try.underlying3 g_1_3
  simp only [List.cons.injEq, and_true] at e4
  exact ⟨p0, p1, p2, p3, p4, by rw [e0, e1, e2, e3, e4], w0, w1, w2, w3, w4⟩

set_option maxRecDepth 100000 in
theorem isRc_of_trod {H : Type} {enc : TypeId × Value → H} {W : World} {base : Nat} {sp : Nat → Bool} {held : Bool} {r : Reach} {b0 : Nat} {v : Value} {d : DataW H} {p : List MemPlace}
    (hv : Value.okWide Try.prog W r b0 54 v) (h : DataW.Trod enc Try.prog W base sp held 54 v d p) : ∃ p0 p1 p2 p3 p4 : Int, v = .agg #[.int .i64 p0, .int .i64 p1, .int .i64 p2, .int .i64 p3, .int .i64 p4] ∧ (Lit.int .i64 p0).wf = true ∧ (Lit.int .i64 p1).wf = true ∧ (Lit.int .i64 p2).wf = true ∧ (Lit.int .i64 p3).wf = true ∧ (Lit.int .i64 p4).wf = true := by
  obtain ⟨cs, rfl, _⟩ := okWide_struct Try.underlying54 hv
  obtain ⟨fuel, hf⟩ := h
  obtain ⟨p0, p1, p2, p3, p4, hc, hw⟩ := rc_cells hf
  refine ⟨p0, p1, p2, p3, p4, ?_, hw⟩
  have : cs.toList = [.int .i64 p0, .int .i64 p1, .int .i64 p2, .int .i64 p3, .int .i64 p4] := by simpa [Value.cells] using hc
  rw [← Array.toArray_toList (xs := cs), this]
end Go.Proofs.Ytlanmkimaambgaa.hexes

namespace Go.Proofs.Ytlanmkimaambgaa.fnExactCapped
open Go.RowKit Go.Proofs.Ytlanmkimaambgaa.hexes

set_option maxRecDepth 1000000 in
set_option maxHeartbeats 16000000 in
theorem walk (A : Option Addr) (n c : Nat) (gs : List Nd) (wk cp : Int) (r0 : Int) (r1 : Int) (r2 : Int) (r3 : Int) (r4 : Int) (_hr0 : (Lit.int .i64 r0).wf = true) (_hr1 : (Lit.int .i64 r1).wf = true) (_hr2 : (Lit.int .i64 r2).wf = true) (_hr3 : (Lit.int .i64 r3).wf = true) (_hr4 : (Lit.int .i64 r4).wf = true) (w : World) (hZ : IsNds w A n gs) :
    Calls Try.prog 5 #[.agg #[.slice A n c, .int .i64 wk, .int .i64 cp], .agg #[.int .i64 r0, .int .i64 r1, .int .i64 r2, .int .i64 r3, .int .i64 r4]] w fun e w' => e = .returned (.bool true) ∧ Below w.heap.size w w' := by
  have Z := Lib.hid hZ.len
  have HZ := Lib.hid hZ
  have S := Lib.hid hZ.is
  clear hZ
  by_cases hn0 : (1048576 : Int) < ((n + outSum gs : Nat) : Int)
  · have C0 := Lib.hid (szGr_over A n c gs wk cp HZ.out (left := (1048576 : Int)) (by omega) (by omega) hn0)
    clear hn0
    go_enter Try.func5, Try.ntmps5
    go_wp2_with fail
    generalize hW : ((w.alloc _).alloc _) = W
    have BB := Lib.hid (show Below w.heap.size w W by rw [← hW]; exact (((Below.refl _ _).alloc (by first | (simp; done) | (simp; omega) | omega) _).alloc (by first | (simp; done) | (simp; omega) | omega) _))
    clear hW
    refine (C0.out _ (S.out.below BB.out)).mono ?_
    rintro e v0 ⟨rfl, hb0⟩
    have BB0 := Lib.hid (below_chain BB.out hb0)
    clear hb0
    go_wp2
    go_ret
    exact ⟨rfl, BB0.out⟩
  obtain ⟨lf0, hl0⟩ : ∃ q : Nat, (1048576 : Int) - ((n + outSum gs : Nat) : Int) = (q : Int) := ⟨((1048576 : Int) - ((n + outSum gs : Nat) : Int)).toNat, by omega⟩
  have C0 := Lib.hid (show ∀ W, Nds W A gs → Calls Try.prog 18 #[.agg #[.slice A n c, .int .i64 wk, .int .i64 cp], .int .i64 (1048576 : Int)] W fun e w' => e = .returned (.int .i64 (lf0 : Int)) ∧ Below W.heap.size W w' by rw [← hl0]; exact szGr_in A n c gs wk cp HZ.out (left := (1048576 : Int)) (by omega) (by omega) hn0)
  have os0 : n + outSum gs ≤ 1048576 := by omega
  have le0 : n ≤ 1048576 := by omega
  have ot0 : outSum gs ≤ 1048576 := by omega
  have ou0 : ∀ x ∈ gs, x.2.2.2.length ≤ 1048576 := fun x hx => Nat.le_trans (outSum_mem hx) ot0
  have hd0 : decide ((lf0 : Int) < 0) = false := by simp
  have lb0 : (lf0 : Int) ≤ 1048576 := by omega
  clear hn0 hl0
  obtain ⟨r, hr⟩ : ∃ r, capG gs wk cp (r0, (r1, r2), r3, r4) = r := ⟨_, rfl⟩
  have HR := Lib.hid hr
  clear hr
  have hrr : (r != r) = false := by simp
  go_enter Try.func5, Try.ntmps5
  go_wp2_with fail
  generalize hW : ((w.alloc _).alloc _) = W
  have hb : Below w.heap.size w W := by rw [← hW]; exact (((Below.refl _ _).alloc (by first | (simp; done) | (simp; omega) | omega) _).alloc (by first | (simp; done) | (simp; omega) | omega) _)
  have azW : W.heap.size = w.heap.size + 2 := by rw [← hW]; simp
  have NL0 := Lib.hid (show Blk W (w.heap.size) 50 #[.slice A n c, .int .i64 wk, .int .i64 cp] by rw [← hW]; exact ((Below.heap_alloc _ _ _ (by first | (simp; done) | (simp; omega))).trans (Blk.new _ _ _)))
  have NR0 := Lib.hid (show Blk W (w.heap.size + 1) 54 #[.int .i64 r0, .int .i64 r1, .int .i64 r2, .int .i64 r3, .int .i64 r4] by rw [← hW]; exact ((show w.heap.size + 1 = ((w.alloc _)).heap.size by simp) ▸ Blk.new _ _ _))
  clear hW
  have AZW := Lib.hid azW
  clear azW
  have sz1 := hb.size
  have B1 := Lib.hid (hb)
  clear hb
  have L0_1 := NL0
  clear NL0
  have ltL0 : w.heap.size < W.heap.size := L0_1.out.lt
  have R0_1 := NR0
  clear NR0
  have ltR0 : w.heap.size + 1 < W.heap.size := R0_1.out.lt
  refine (C0.out _ (S.out.below B1.out)).mono ?_
  rintro e v0 ⟨rfl, hb⟩
  have sz2 := hb.size
  have B2 := Lib.hid (below_chain B1.out hb)
  have L0_2 := Lib.hid (L0_1.out.below hb)
  have R0_2 := Lib.hid (R0_1.out.below hb)
  clear hb B1 L0_1 R0_1
  clear C0
  go_upto_region 5 with fail
  have k0 : v0.cell? ⟨w.heap.size, 0, none⟩ = some (.slice A n c) := by rw [L0_2.out.cell]; rfl
  have k1 : v0.cell? ⟨w.heap.size, 1, none⟩ = some (.int .i64 wk) := by rw [L0_2.out.cell]; rfl
  have k2 : v0.cell? ⟨w.heap.size, 2, none⟩ = some (.int .i64 cp) := by rw [L0_2.out.cell]; rfl
  have k3 : v0.cell? ⟨w.heap.size + 1, 0, none⟩ = some (.int .i64 r0) := by rw [R0_2.out.cell]; rfl
  have k4 : v0.cell? ⟨w.heap.size + 1, 1, none⟩ = some (.int .i64 r1) := by rw [R0_2.out.cell]; rfl
  have k5 : v0.cell? ⟨w.heap.size + 1, 2, none⟩ = some (.int .i64 r2) := by rw [R0_2.out.cell]; rfl
  have k6 : v0.cell? ⟨w.heap.size + 1, 3, none⟩ = some (.int .i64 r3) := by rw [R0_2.out.cell]; rfl
  have k7 : v0.cell? ⟨w.heap.size + 1, 4, none⟩ = some (.int .i64 r4) := by rw [R0_2.out.cell]; rfl
  have kf0 := (S.out.below B2.out)
  have kb := Below.refl v0.heap.size v0
  go_cut [6] (fun t wx => t = .bool r ∧ Below v0.heap.size v0 wx)
  case first =>
    go_region_held3 (fun w' => w'.cell? ⟨w.heap.size, 0, none⟩ = some (.slice A n c) ∧ w'.cell? ⟨w.heap.size, 1, none⟩ = some (.int .i64 wk) ∧ w'.cell? ⟨w.heap.size, 2, none⟩ = some (.int .i64 cp) ∧ w'.cell? ⟨w.heap.size + 1, 0, none⟩ = some (.int .i64 r0) ∧ w'.cell? ⟨w.heap.size + 1, 1, none⟩ = some (.int .i64 r1) ∧ w'.cell? ⟨w.heap.size + 1, 2, none⟩ = some (.int .i64 r2) ∧ w'.cell? ⟨w.heap.size + 1, 3, none⟩ = some (.int .i64 r3) ∧ w'.cell? ⟨w.heap.size + 1, 4, none⟩ = some (.int .i64 r4) ∧ Nds w' A gs ∧ Below v0.heap.size v0 w')
      (((try go_split_ands); refine ⟨?_, ?_, ?_, ?_, ?_, ?_, ?_, ?_, ?_, ?_⟩ <;> (repeat (first | with_reducible assumption | with_reducible refine drew_keep ?_ | with_reducible refine below_keep hbd ?_ | with_reducible refine nds_drew ?_ | with_reducible refine Nds.below ?_ hbd | with_reducible refine ces_drew ?_ | with_reducible refine Ces.below ?_ hbd | with_reducible refine rcs_drew ?_ | with_reducible refine Rcs.below ?_ hbd | with_reducible refine Below.drew ?_ | with_reducible refine below_chain ?_ hbd))))
      (first | (go_at_call 20; (try go_split_ands); (with_reducible refine (toGr_row n gs Z.out A c wk cp _ (by assumption) le0 ou0).mono ?_); rintro e w5 ⟨A5, c5, vs5, f5, rfl, s5, hbd⟩) | (go_at_call 22; (with_reducible refine (toRecord_any r0 r1 r2 r3 r4 _).mono ?_); rintro e w6 ⟨rfl, hbd⟩) | (go_at_call 13; (try go_split_ands); (with_reducible refine (specCap_any gs wk cp A5 n c5 Z.out ou0 le0 r0 r1 r2 r3 r4 _ (by first | exact s5.nds | exact (s5.below hbd).nds)).mono ?_); rw [HR.out]; rintro e w7 ⟨rfl, hbd⟩))
    all_goals (
      go_wp2_with fail
      go_meet
      refine ⟨rfl, ?_⟩
      (try go_split_ands)
      assumption)
  case rest =>
  obtain ⟨rfl, hb⟩ := hcut
  clear kb k0 k1 k2 k3 k4 k5 k6 k7 kf0
  obtain ⟨w1, hwc⟩ : ∃ z, z = wc := ⟨_, rfl⟩
  subst hwc
  have sz3 := hb.size
  have B3 := Lib.hid (below_chain B2.out hb)
  have L0_3 := Lib.hid (L0_2.out.below hb)
  have R0_3 := Lib.hid (R0_2.out.below hb)
  clear hb B2 L0_2 R0_2
  have xL00 : w1.cell? ⟨w.heap.size, 0, none⟩ = some (.slice A n c) := by rw [L0_3.out.cell]; rfl
  have xL01 : w1.cell? ⟨w.heap.size, 1, none⟩ = some (.int .i64 wk) := by rw [L0_3.out.cell]; rfl
  have xL02 : w1.cell? ⟨w.heap.size, 2, none⟩ = some (.int .i64 cp) := by rw [L0_3.out.cell]; rfl
  go_wp2_with fail
  clear xL00 xL01 xL02
  refine (toGr_row n gs Z.out A c wk cp _ (S.out.below B3.out) le0 ou0).mono ?_
  rintro e w3 ⟨A3, c3, vs3, f3, rfl, r3, hb⟩
  have sz4 := hb.size
  have B4 := Lib.hid (below_chain B3.out hb)
  have L0_4 := Lib.hid (L0_3.out.below hb)
  have R0_4 := Lib.hid (R0_3.out.below hb)
  clear hb B3 L0_3 R0_3
  have X3_4 := Lib.hid r3
  clear r3
  go_wp2_with fail
  generalize hW : (w3.alloc _) = V3
  have hb : Below w3.heap.size w3 V3 := by rw [← hW]; exact ((Below.refl _ _).alloc (by first | (simp; done) | (simp; omega) | omega) _)
  have azV3 : V3.heap.size = w3.heap.size + 1 := by rw [← hW]; simp
  have Nx0 := Lib.hid (show Blk V3 (w3.heap.size) 26 #[.slice A3 n c3, .int .i64 wk, .int .i64 cp] by rw [← hW]; exact (Blk.new _ _ _))
  clear hW
  have AZV3 := Lib.hid azV3
  clear azV3
  have sz5 := hb.size
  have B5 := Lib.hid (below_chain B4.out hb)
  have X3_5 := Lib.hid (X3_4.out.below hb)
  have L0_5 := Lib.hid (L0_4.out.below hb)
  have R0_5 := Lib.hid (R0_4.out.below hb)
  clear hb B4 X3_4 L0_4 R0_4
  have x0_5 := Nx0
  clear Nx0
  have ltx0 : w3.heap.size < V3.heap.size := x0_5.out.lt
  go_upto_region 7 with fail
  have k0 : V3.cell? ⟨w3.heap.size, 0, none⟩ = some (.slice A3 n c3) := by rw [x0_5.out.cell]; rfl
  have k1 : V3.cell? ⟨w3.heap.size, 1, none⟩ = some (.int .i64 wk) := by rw [x0_5.out.cell]; rfl
  have k2 : V3.cell? ⟨w3.heap.size, 2, none⟩ = some (.int .i64 cp) := by rw [x0_5.out.cell]; rfl
  have k3 : V3.cell? ⟨w.heap.size + 1, 0, none⟩ = some (.int .i64 r0) := by rw [R0_5.out.cell]; rfl
  have k4 : V3.cell? ⟨w.heap.size + 1, 1, none⟩ = some (.int .i64 r1) := by rw [R0_5.out.cell]; rfl
  have k5 : V3.cell? ⟨w.heap.size + 1, 2, none⟩ = some (.int .i64 r2) := by rw [R0_5.out.cell]; rfl
  have k6 : V3.cell? ⟨w.heap.size + 1, 3, none⟩ = some (.int .i64 r3) := by rw [R0_5.out.cell]; rfl
  have k7 : V3.cell? ⟨w.heap.size + 1, 4, none⟩ = some (.int .i64 r4) := by rw [R0_5.out.cell]; rfl
  have kf0 := X3_5.out
  have kb := Below.refl V3.heap.size V3
  go_cut [8] (fun t wx => t = .bool r ∧ Below V3.heap.size V3 wx)
  case first =>
    go_region_held3 (fun w' => w'.cell? ⟨w3.heap.size, 0, none⟩ = some (.slice A3 n c3) ∧ w'.cell? ⟨w3.heap.size, 1, none⟩ = some (.int .i64 wk) ∧ w'.cell? ⟨w3.heap.size, 2, none⟩ = some (.int .i64 cp) ∧ w'.cell? ⟨w.heap.size + 1, 0, none⟩ = some (.int .i64 r0) ∧ w'.cell? ⟨w.heap.size + 1, 1, none⟩ = some (.int .i64 r1) ∧ w'.cell? ⟨w.heap.size + 1, 2, none⟩ = some (.int .i64 r2) ∧ w'.cell? ⟨w.heap.size + 1, 3, none⟩ = some (.int .i64 r3) ∧ w'.cell? ⟨w.heap.size + 1, 4, none⟩ = some (.int .i64 r4) ∧ Below V3.heap.size V3 w')
      (((try go_split_ands); refine ⟨?_, ?_, ?_, ?_, ?_, ?_, ?_, ?_, ?_⟩ <;> (repeat (first | with_reducible assumption | with_reducible refine drew_keep ?_ | with_reducible refine below_keep hbd ?_ | with_reducible refine nds_drew ?_ | with_reducible refine Nds.below ?_ hbd | with_reducible refine ces_drew ?_ | with_reducible refine Ces.below ?_ hbd | with_reducible refine rcs_drew ?_ | with_reducible refine Rcs.below ?_ hbd | with_reducible refine Below.drew ?_ | with_reducible refine below_chain ?_ hbd))))
      (first | (go_at_call 22; (with_reducible refine (toRecord_any r0 r1 r2 r3 r4 _).mono ?_); rintro e w6 ⟨rfl, hbd⟩) | (go_at_call 12; (try go_split_ands); (with_reducible refine (implCap_any gs wk cp A3 n c3 Z.out ou0 le0 r0 r1 r2 r3 r4 _ (GrRows.nds (GrRows.below kf0 (by assumption)))).mono ?_); rw [HR.out]; rintro e w7 ⟨rfl, hbd⟩))
    all_goals (
      go_wp2_with fail
      go_meet
      refine ⟨rfl, ?_⟩
      (try go_split_ands)
      assumption)
  case rest =>
  obtain ⟨rfl, hb⟩ := hcut
  clear kb k0 k1 k2 k3 k4 k5 k6 k7 kf0
  obtain ⟨w4, hwc⟩ : ∃ z, z = wc := ⟨_, rfl⟩
  subst hwc
  have sz6 := hb.size
  have B6 := Lib.hid (below_chain B5.out hb)
  have X3_6 := Lib.hid (X3_5.out.below hb)
  have L0_6 := Lib.hid (L0_5.out.below hb)
  have R0_6 := Lib.hid (R0_5.out.below hb)
  have x0_6 := Lib.hid (x0_5.out.below hb)
  clear hb B5 X3_5 L0_5 R0_5 x0_5
  go_upto_region 10 with fail
  have k0 : w4.cell? ⟨w3.heap.size, 0, none⟩ = some (.slice A3 n c3) := by rw [x0_6.out.cell]; rfl
  have k1 : w4.cell? ⟨w3.heap.size, 1, none⟩ = some (.int .i64 wk) := by rw [x0_6.out.cell]; rfl
  have k2 : w4.cell? ⟨w3.heap.size, 2, none⟩ = some (.int .i64 cp) := by rw [x0_6.out.cell]; rfl
  have k3 : w4.cell? ⟨w.heap.size, 0, none⟩ = some (.slice A n c) := by rw [L0_6.out.cell]; rfl
  have k4 : w4.cell? ⟨w.heap.size, 1, none⟩ = some (.int .i64 wk) := by rw [L0_6.out.cell]; rfl
  have k5 : w4.cell? ⟨w.heap.size, 2, none⟩ = some (.int .i64 cp) := by rw [L0_6.out.cell]; rfl
  have kb := Below.refl w4.heap.size w4
  have ks := (S.out.below B6.out)
  have kx := X3_6.out
  go_cut [32] (fun t wx => t = .bool false ∧ Below w4.heap.size w4 wx)
  case first =>
    go_region_held3 (fun w' => w'.cell? ⟨w3.heap.size, 0, none⟩ = some (.slice A3 n c3) ∧ w'.cell? ⟨w3.heap.size, 1, none⟩ = some (.int .i64 wk) ∧ w'.cell? ⟨w3.heap.size, 2, none⟩ = some (.int .i64 cp) ∧ w'.cell? ⟨w.heap.size, 0, none⟩ = some (.slice A n c) ∧ w'.cell? ⟨w.heap.size, 1, none⟩ = some (.int .i64 wk) ∧ w'.cell? ⟨w.heap.size, 2, none⟩ = some (.int .i64 cp) ∧ Nds w' A gs ∧ Below w4.heap.size w4 w')
      (((try go_split_ands); refine ⟨?_, ?_, ?_, ?_, ?_, ?_, ?_, ?_⟩ <;> (repeat (first | with_reducible assumption | with_reducible refine drew_keep ?_ | with_reducible refine below_keep hbd ?_ | with_reducible refine nds_drew ?_ | with_reducible refine Nds.below ?_ hbd | with_reducible refine Below.drew ?_ | with_reducible refine below_chain ?_ hbd))))
      (first | (go_at_call 20; (try go_split_ands); (with_reducible refine (toGr_row n gs Z.out A c wk cp _ (by assumption) le0 ou0).mono ?_); rintro e w5 ⟨A5, c5, vs5, f5, rfl, s5, hbd⟩) | (go_at_call 25; (try go_split_ands); (with_reducible refine (eqGr_row wk cp (GrRows.below kx (by assumption)) s5 le0 ou0).mono ?_); rintro e w6 ⟨rfl, hbd⟩))
    all_goals (
      go_wp2_with fail
      go_meet
      refine ⟨rfl, ?_⟩
      (try go_split_ands)
      assumption)
  case rest =>
  obtain ⟨rfl, hb⟩ := hcut
  clear kb ks kx k0 k1 k2 k3 k4 k5
  obtain ⟨u3, hwc⟩ : ∃ z, z = wc := ⟨_, rfl⟩
  subst hwc
  have sz7 := hb.size
  have B7 := Lib.hid (below_chain B6.out hb)
  have X3_7 := Lib.hid (X3_6.out.below hb)
  have L0_7 := Lib.hid (L0_6.out.below hb)
  have R0_7 := Lib.hid (R0_6.out.below hb)
  have x0_7 := Lib.hid (x0_6.out.below hb)
  clear hb B6 X3_6 L0_6 R0_6 x0_6
  go_wp2
  go_ret
  exact ⟨rfl, B7.out⟩
end Go.Proofs.Ytlanmkimaambgaa.fnExactCapped

