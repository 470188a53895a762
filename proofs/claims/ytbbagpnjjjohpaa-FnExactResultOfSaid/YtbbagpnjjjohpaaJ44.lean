/-
  The walk of FnExactResultOf.
-/
import Derived.Test.YtbbagpnjjjohpaaJ30
import Derived.Test.YtbbagpnjjjohpaaJ42
import Derived.Test.YtbbagpnjjjohpaaJ43
import Derived.Test.YtbbagpnjjjohpaaJ8
import Derived.Test.YtbbagpnjjjohpaaJ7
import Derived.Deep.RegionHeld3
import Derived.Deep.DeepCutAuto

namespace Go.Proofs.Ytbbagpnjjjohpaa.fnExactResultOf
open Go.RowKit Go.Proofs.Ytbbagpnjjjohpaa.hexes

set_option maxRecDepth 1000000 in
set_option maxHeartbeats 16000000 in
theorem walk (A : Option Addr) (n c : Nat) (gs : List Nd) (wk cp : Int) (ep : Int) (_hep : (Lit.int .i64 ep).wf = true) (A1 : Option Addr) (n1 c1 : Nat) (rs : List Rc) (w : World) (hZ : IsNds w A n gs) (hZ1 : IsRcs w A1 n1 rs) :
    Calls Try.prog 7 #[.agg #[.slice A n c, .int .i64 wk, .int .i64 cp], .int .i64 ep, .slice A1 n1 c1] w fun e w' => e = .returned (.bool true) ∧ Below w.heap.size w w' := by
  have Z := Lib.hid hZ.len
  have HZ := Lib.hid hZ
  have S := Lib.hid hZ.is
  clear hZ
  have Z1 := Lib.hid hZ1.len
  have M1 := hZ1.max
  have S1 := Lib.hid hZ1.rcs
  clear hZ1
  by_cases hn0 : (1048576 : Int) < ((n + outSum gs : Nat) : Int)
  · have C0 := Lib.hid (szGr_over A n c gs wk cp HZ.out (left := (1048576 : Int)) (by omega) (by omega) hn0)
    clear hn0
    go_enter Try.func7, Try.ntmps7
    go_wp2_with fail
    generalize hW : (w.alloc _) = W
    have BB := Lib.hid (show Below w.heap.size w W by rw [← hW]; exact ((Below.refl _ _).alloc (by first | (simp; done) | (simp; omega) | omega) _))
    clear hW
    refine (C0.out _ (S.out.below BB.out)).mono ?_
    rintro e v0 ⟨rfl, hb0⟩
    have BB0 := Lib.hid (below_chain BB.out hb0)
    clear hb0
    go_wp2
    go_ret
    exact ⟨rfl, BB0.out⟩
  obtain ⟨lf0, hl0⟩ : ∃ q : Nat, (1048576 : Int) - ((n + outSum gs : Nat) : Int) = (q : Int) := ⟨((1048576 : Int) - ((n + outSum gs : Nat) : Int)).toNat, by omega⟩
  have C0 := Lib.hid (show ∀ W, Nds W A gs → Calls Try.prog 32 #[.agg #[.slice A n c, .int .i64 wk, .int .i64 cp], .int .i64 (1048576 : Int)] W fun e w' => e = .returned (.int .i64 (lf0 : Int)) ∧ Below W.heap.size W w' by rw [← hl0]; exact szGr_in A n c gs wk cp HZ.out (left := (1048576 : Int)) (by omega) (by omega) hn0)
  have os0 : n + outSum gs ≤ 1048576 := by omega
  have le0 : n ≤ 1048576 := by omega
  have ot0 : outSum gs ≤ 1048576 := by omega
  have ou0 : ∀ x ∈ gs, x.2.2.2.length ≤ 1048576 := fun x hx => Nat.le_trans (outSum_mem hx) ot0
  have hd0 : decide ((lf0 : Int) < 0) = false := by simp
  have lb0 : (lf0 : Int) ≤ 1048576 := by omega
  clear hn0 hl0
  by_cases hn1 : (lf0 : Int) < (n1 : Int)
  · have C1 := Lib.hid (fun W => szRc_over A1 n1 c1 (lf0 : Int) (by omega) (by omega) M1 hn1 W)
    clear hn1
    go_enter Try.func7, Try.ntmps7
    go_wp2_with fail
    generalize hW : (w.alloc _) = W
    have BB := Lib.hid (show Below w.heap.size w W by rw [← hW]; exact ((Below.refl _ _).alloc (by first | (simp; done) | (simp; omega) | omega) _))
    clear hW
    refine (C0.out _ (S.out.below BB.out)).mono ?_
    rintro e v0 ⟨rfl, hb0⟩
    have BB0 := Lib.hid (below_chain BB.out hb0)
    clear hb0
    go_wp2_with fail
    refine (C1.out _).mono ?_
    rintro e v1 ⟨rfl, rfl⟩
    go_wp2
    go_ret
    exact ⟨rfl, BB0.out⟩
  obtain ⟨lf1, hl1⟩ : ∃ q : Nat, (lf0 : Int) - (n1 : Int) = (q : Int) := ⟨((lf0 : Int) - (n1 : Int)).toNat, by omega⟩
  have C1 := Lib.hid (show ∀ W, Calls Try.prog 42 #[.slice A1 n1 c1, .int .i64 (lf0 : Int)] W fun e w' => e = .returned (.int .i64 (lf1 : Int)) ∧ W = w' by rw [← hl1]; exact fun W => szRc_in A1 n1 c1 (lf0 : Int) (by omega) (by omega) M1 hn1 W)
  have le1 : n1 ≤ 1048576 := by omega
  have hd1 : decide ((lf1 : Int) < 0) = false := by simp
  have lb1 : (lf1 : Int) ≤ 1048576 := by omega
  clear hn1 hl1
  obtain ⟨fq, hf, hfl⟩ := fix_start gs wk cp ep rs
  have HF := Lib.hid hf
  have HFL := Lib.hid hfl
  obtain ⟨us, hq⟩ : ∃ q, outsC gs fq = q := ⟨_, rfl⟩
  obtain ⟨m3, hm3⟩ : ∃ m, us.length = m := ⟨_, rfl⟩
  have l3 : m3 ≤ 800000 := by rw [← hm3, ← hq]; exact Nat.le_trans (outs_len gs fq) hfl
  have HQ := Lib.hid hq
  have HM3 := Lib.hid hm3
  clear hq hm3 hf hfl
  go_enter Try.func7, Try.ntmps7
  go_wp2_with fail
  generalize hW : (w.alloc _) = W
  have hb : Below w.heap.size w W := by rw [← hW]; exact ((Below.refl _ _).alloc (by first | (simp; done) | (simp; omega) | omega) _)
  have azW : W.heap.size = w.heap.size + 1 := by rw [← hW]; simp
  have NL0 := Lib.hid (show Blk W (w.heap.size) 57 #[.slice A n c, .int .i64 wk, .int .i64 cp] by rw [← hW]; exact (Blk.new _ _ _))
  clear hW
  have AZW := Lib.hid azW
  clear azW
  have sz1 := hb.size
  have B1 := Lib.hid (hb)
  clear hb
  have L0_1 := NL0
  clear NL0
  have ltL0 : w.heap.size < W.heap.size := L0_1.out.lt
  refine (C0.out _ (S.out.below B1.out)).mono ?_
  rintro e v0 ⟨rfl, hb⟩
  have sz2 := hb.size
  have B2 := Lib.hid (below_chain B1.out hb)
  have L0_2 := Lib.hid (L0_1.out.below hb)
  clear hb B1 L0_1
  go_wp2_with fail
  refine (C1.out _).mono ?_
  rintro e v1 ⟨rfl, rfl⟩
  clear C0 C1
  have xL00 : v0.cell? ⟨w.heap.size, 0, none⟩ = some (.slice A n c) := by rw [L0_2.out.cell]; rfl
  have xL01 : v0.cell? ⟨w.heap.size, 1, none⟩ = some (.int .i64 wk) := by rw [L0_2.out.cell]; rfl
  have xL02 : v0.cell? ⟨w.heap.size, 2, none⟩ = some (.int .i64 cp) := by rw [L0_2.out.cell]; rfl
  go_wp2_with fail
  clear xL00 xL01 xL02
  refine (toGr_row n gs Z.out A c wk cp _ (S.out.below B2.out) le0 ou0).mono ?_
  rintro e w1 ⟨A10, c10, vs10, f10, rfl, r10, hb⟩
  have sz3 := hb.size
  have B3 := Lib.hid (below_chain B2.out hb)
  have L0_3 := Lib.hid (L0_2.out.below hb)
  clear hb B2 L0_2
  have X10_3 := Lib.hid r10
  clear r10
  go_wp2_with fail
  refine (toRcS_row n1 rs Z1.out A1 c1 _ (S1.out.below B3.out) le1).mono ?_
  rintro e w2 ⟨A11, c11, rfl, r11, hb⟩
  have sz4 := hb.size
  have B4 := Lib.hid (below_chain B3.out hb)
  have X10_4 := Lib.hid (X10_3.out.below hb)
  have L0_4 := Lib.hid (L0_3.out.below hb)
  clear hb B3 X10_3 L0_3
  have X11_4 := Lib.hid r11
  clear r11
  go_wp2_with fail
  refine (specRes_any gs wk cp A10 n c10 Z.out ou0 le0 ep rs A11 n1 c11 Z1.out le1 HF.out HFL.out _ X10_4.out.nds X11_4.out.rc).mono ?_
  intro e w4 he
  obtain ⟨A20, c20, rfl, r20, hb⟩ := he.rows HQ.out HM3.out
  clear he
  have sz5 := hb.size
  have B5 := Lib.hid (below_chain B4.out hb)
  have X10_5 := Lib.hid (X10_4.out.below hb)
  have X11_5 := Lib.hid (X11_4.out.below hb)
  have L0_5 := Lib.hid (L0_4.out.below hb)
  clear hb B4 X10_4 X11_4 L0_4
  have X20_5 := Lib.hid r20
  clear r20
  clear X10_5
  clear X11_5
  have xL00 : w4.cell? ⟨w.heap.size, 0, none⟩ = some (.slice A n c) := by rw [L0_5.out.cell]; rfl
  have xL01 : w4.cell? ⟨w.heap.size, 1, none⟩ = some (.int .i64 wk) := by rw [L0_5.out.cell]; rfl
  have xL02 : w4.cell? ⟨w.heap.size, 2, none⟩ = some (.int .i64 cp) := by rw [L0_5.out.cell]; rfl
  go_wp2_with fail
  clear xL00 xL01 xL02
  refine (toGr_row n gs Z.out A c wk cp _ (S.out.below B5.out) le0 ou0).mono ?_
  rintro e w5 ⟨A3, c3, vs3, f3, rfl, r3, hb⟩
  have sz6 := hb.size
  have B6 := Lib.hid (below_chain B5.out hb)
  have X20_6 := Lib.hid (X20_5.out.below hb)
  have L0_6 := Lib.hid (L0_5.out.below hb)
  clear hb B5 X20_5 L0_5
  have X3_6 := Lib.hid r3
  clear r3
  go_wp2_with fail
  generalize hW : (w5.alloc _) = V3
  have hb : Below w5.heap.size w5 V3 := by rw [← hW]; exact ((Below.refl _ _).alloc (by first | (simp; done) | (simp; omega) | omega) _)
  have azV3 : V3.heap.size = w5.heap.size + 1 := by rw [← hW]; simp
  have Nx0 := Lib.hid (show Blk V3 (w5.heap.size) 26 #[.slice A3 n c3, .int .i64 wk, .int .i64 cp] by rw [← hW]; exact (Blk.new _ _ _))
  clear hW
  have AZV3 := Lib.hid azV3
  clear azV3
  have sz7 := hb.size
  have B7 := Lib.hid (below_chain B6.out hb)
  have X20_7 := Lib.hid (X20_6.out.below hb)
  have X3_7 := Lib.hid (X3_6.out.below hb)
  have L0_7 := Lib.hid (L0_6.out.below hb)
  clear hb B6 X20_6 X3_6 L0_6
  have x0_7 := Nx0
  clear Nx0
  have ltx0 : w5.heap.size < V3.heap.size := x0_7.out.lt
  refine (toRcS_row n1 rs Z1.out A1 c1 _ (S1.out.below B7.out) le1).mono ?_
  rintro e w6 ⟨A30, c30, rfl, r30, hb⟩
  have sz8 := hb.size
  have B8 := Lib.hid (below_chain B7.out hb)
  have X20_8 := Lib.hid (X20_7.out.below hb)
  have X3_8 := Lib.hid (X3_7.out.below hb)
  have L0_8 := Lib.hid (L0_7.out.below hb)
  have x0_8 := Lib.hid (x0_7.out.below hb)
  clear hb B7 X20_7 X3_7 L0_7 x0_7
  have X30_8 := Lib.hid r30
  clear r30
  have xx00 : w6.cell? ⟨w5.heap.size, 0, none⟩ = some (.slice A3 n c3) := by rw [x0_8.out.cell]; rfl
  have xx01 : w6.cell? ⟨w5.heap.size, 1, none⟩ = some (.int .i64 wk) := by rw [x0_8.out.cell]; rfl
  have xx02 : w6.cell? ⟨w5.heap.size, 2, none⟩ = some (.int .i64 cp) := by rw [x0_8.out.cell]; rfl
  go_wp2_with fail
  clear xx00 xx01 xx02
  refine (implRes_any gs wk cp A3 n c3 Z.out ou0 le0 ep rs A30 n1 c30 Z1.out le1 HF.out HFL.out _ X3_8.out.nds X30_8.out.rc).mono ?_
  intro e w8 he
  obtain ⟨A40, c40, rfl, r40, hb⟩ := he.rows HQ.out HM3.out
  clear he
  have sz9 := hb.size
  have B9 := Lib.hid (below_chain B8.out hb)
  have X20_9 := Lib.hid (X20_8.out.below hb)
  have X3_9 := Lib.hid (X3_8.out.below hb)
  have X30_9 := Lib.hid (X30_8.out.below hb)
  have L0_9 := Lib.hid (L0_8.out.below hb)
  have x0_9 := Lib.hid (x0_8.out.below hb)
  clear hb B8 X20_8 X3_8 X30_8 L0_8 x0_8
  have X40_9 := Lib.hid r40
  clear r40
  go_wp2_with fail
  refine (eqCeW_win X40_9.out X20_9.out (by omega)).mono ?_
  rintro e w9 ⟨rfl, hb⟩
  have sz10 := hb.size
  have B10 := Lib.hid (below_chain B9.out hb)
  have X20_10 := Lib.hid (X20_9.out.below hb)
  have X3_10 := Lib.hid (X3_9.out.below hb)
  have X30_10 := Lib.hid (X30_9.out.below hb)
  have X40_10 := Lib.hid (X40_9.out.below hb)
  have L0_10 := Lib.hid (L0_9.out.below hb)
  have x0_10 := Lib.hid (x0_9.out.below hb)
  clear hb B9 X20_9 X3_9 X30_9 X40_9 L0_9 x0_9
  go_upto_region 14 with fail
  have k0 : w9.cell? ⟨w5.heap.size, 0, none⟩ = some (.slice A3 n c3) := by rw [x0_10.out.cell]; rfl
  have k1 : w9.cell? ⟨w5.heap.size, 1, none⟩ = some (.int .i64 wk) := by rw [x0_10.out.cell]; rfl
  have k2 : w9.cell? ⟨w5.heap.size, 2, none⟩ = some (.int .i64 cp) := by rw [x0_10.out.cell]; rfl
  have k3 : w9.cell? ⟨w.heap.size, 0, none⟩ = some (.slice A n c) := by rw [L0_10.out.cell]; rfl
  have k4 : w9.cell? ⟨w.heap.size, 1, none⟩ = some (.int .i64 wk) := by rw [L0_10.out.cell]; rfl
  have k5 : w9.cell? ⟨w.heap.size, 2, none⟩ = some (.int .i64 cp) := by rw [L0_10.out.cell]; rfl
  have kb := Below.refl w9.heap.size w9
  have ks := (S.out.below B10.out)
  have kx := X3_10.out
  go_cut [48] (fun t wx => t = .bool false ∧ Below w9.heap.size w9 wx)
  case first =>
    go_region_held3 (fun w' => w'.cell? ⟨w5.heap.size, 0, none⟩ = some (.slice A3 n c3) ∧ w'.cell? ⟨w5.heap.size, 1, none⟩ = some (.int .i64 wk) ∧ w'.cell? ⟨w5.heap.size, 2, none⟩ = some (.int .i64 cp) ∧ w'.cell? ⟨w.heap.size, 0, none⟩ = some (.slice A n c) ∧ w'.cell? ⟨w.heap.size, 1, none⟩ = some (.int .i64 wk) ∧ w'.cell? ⟨w.heap.size, 2, none⟩ = some (.int .i64 cp) ∧ Nds w' A gs ∧ Below w9.heap.size w9 w')
      (((try go_split_ands); refine ⟨?_, ?_, ?_, ?_, ?_, ?_, ?_, ?_⟩ <;> (repeat (first | with_reducible assumption | with_reducible refine drew_keep ?_ | with_reducible refine below_keep hbd ?_ | with_reducible refine nds_drew ?_ | with_reducible refine Nds.below ?_ hbd | with_reducible refine Below.drew ?_ | with_reducible refine below_chain ?_ hbd))))
      (first | (go_at_call 34; (try go_split_ands); (with_reducible refine (toGr_row n gs Z.out A c wk cp _ (by assumption) le0 ou0).mono ?_); rintro e w5 ⟨A5, c5, vs5, f5, rfl, s5, hbd⟩) | (go_at_call 38; (try go_split_ands); (with_reducible refine (eqGr_row wk cp (GrRows.below kx (by assumption)) s5 le0 ou0).mono ?_); rintro e w6 ⟨rfl, hbd⟩))
    all_goals (
      go_wp2_with fail
      go_meet
      refine ⟨rfl, ?_⟩
      (try go_split_ands)
      assumption)
  case rest =>
  obtain ⟨rfl, hb⟩ := hcut
  clear kb ks kx k0 k1 k2 k3 k4 k5
  obtain ⟨u3, hwc⟩ : ∃ z, z = wc := ⟨_, rfl⟩
  subst hwc
  have sz11 := hb.size
  have B11 := Lib.hid (below_chain B10.out hb)
  have X20_11 := Lib.hid (X20_10.out.below hb)
  have X3_11 := Lib.hid (X3_10.out.below hb)
  have X30_11 := Lib.hid (X30_10.out.below hb)
  have X40_11 := Lib.hid (X40_10.out.below hb)
  have L0_11 := Lib.hid (L0_10.out.below hb)
  have x0_11 := Lib.hid (x0_10.out.below hb)
  clear hb B10 X20_10 X3_10 X30_10 X40_10 L0_10 x0_10
  go_wp2_with fail
  refine (toRcS_row n1 rs Z1.out A1 c1 _ (S1.out.below B11.out) le1).mono ?_
  rintro e w12 ⟨A50, c50, rfl, r50, hb⟩
  have sz12 := hb.size
  have B12 := Lib.hid (below_chain B11.out hb)
  have X20_12 := Lib.hid (X20_11.out.below hb)
  have X3_12 := Lib.hid (X3_11.out.below hb)
  have X30_12 := Lib.hid (X30_11.out.below hb)
  have X40_12 := Lib.hid (X40_11.out.below hb)
  have L0_12 := Lib.hid (L0_11.out.below hb)
  have x0_12 := Lib.hid (x0_11.out.below hb)
  clear hb B11 X20_11 X3_11 X30_11 X40_11 L0_11 x0_11
  have X50_12 := Lib.hid r50
  clear r50
  go_wp2_with fail
  refine (eqRcS_row X30_12.out X50_12.out (by omega)).mono ?_
  rintro e w13 ⟨rfl, hb⟩
  have sz13 := hb.size
  have B13 := Lib.hid (below_chain B12.out hb)
  have X20_13 := Lib.hid (X20_12.out.below hb)
  have X3_13 := Lib.hid (X3_12.out.below hb)
  have X30_13 := Lib.hid (X30_12.out.below hb)
  have X40_13 := Lib.hid (X40_12.out.below hb)
  have X50_13 := Lib.hid (X50_12.out.below hb)
  have L0_13 := Lib.hid (L0_12.out.below hb)
  have x0_13 := Lib.hid (x0_12.out.below hb)
  clear hb B12 X20_12 X3_12 X30_12 X40_12 X50_12 L0_12 x0_12
  clear X50_13
  have xx00 : w13.cell? ⟨w5.heap.size, 0, none⟩ = some (.slice A3 n c3) := by rw [x0_13.out.cell]; rfl
  have xx01 : w13.cell? ⟨w5.heap.size, 1, none⟩ = some (.int .i64 wk) := by rw [x0_13.out.cell]; rfl
  have xx02 : w13.cell? ⟨w5.heap.size, 2, none⟩ = some (.int .i64 cp) := by rw [x0_13.out.cell]; rfl
  go_wp2_with fail
  clear xx00 xx01 xx02
  refine (markGr_any X3_13.out wk cp 1 (by omega)).mono ?_
  rintro e w16 ⟨rfl, gw0⟩
  have gw : Turned _ _ w13 w16 := gw0
  clear gw0
  have sz14 := gw.size
  have B14 := Lib.hid (below_turned B13.out gw (by omega))
  have X20_14 := Lib.hid (X20_13.out.turned gw (by omega))
  have X30_14 := Lib.hid (X30_13.out.turned gw (by omega))
  have X40_14 := Lib.hid (X40_13.out.turned gw (by omega))
  have L0_14 := Lib.hid (L0_13.out.turned gw (by omega))
  have x0_14 := Lib.hid (x0_13.out.turned gw (by omega))
  clear gw B13 X20_13 X3_13 X30_13 X40_13 L0_13 x0_13
  go_wp2_with fail
  refine (markRcS_row (1 + 3 * n + outSum gs) X30_14.out (by omega) (by omega)).mono ?_
  rintro e w17 ⟨rfl, om, gw⟩
  have gwT := Wrote.turned gw
  clear gw
  have sz15 := gwT.size
  have B15 := Lib.hid (below_turned B14.out gwT (by omega))
  have X20_15 := Lib.hid (X20_14.out.turned gwT (by omega))
  have X30_15 := Lib.hid om
  have X40_15 := Lib.hid (X40_14.out.turned gwT (by omega))
  have L0_15 := Lib.hid (L0_14.out.turned gwT (by omega))
  have x0_15 := Lib.hid (x0_14.out.turned gwT (by omega))
  clear om gwT B14 X20_14 X30_14 X40_14 L0_14 x0_14
  go_wp2_with fail
  refine (eqCeW_win X40_15.out X20_15.out (by omega)).mono ?_
  rintro e w19 ⟨rfl, hb⟩
  have sz16 := hb.size
  have B16 := Lib.hid (below_chain B15.out hb)
  have X20_16 := Lib.hid (X20_15.out.below hb)
  have X30_16 := Lib.hid (X30_15.out.below hb)
  have X40_16 := Lib.hid (X40_15.out.below hb)
  have L0_16 := Lib.hid (L0_15.out.below hb)
  have x0_16 := Lib.hid (x0_15.out.below hb)
  clear hb B15 X20_15 X30_15 X40_15 L0_15 x0_15
  go_wp2_with fail
  refine (markCeW_win 1 X40_16.out (by omega) (by omega)).mono ?_
  rintro e w21 ⟨rfl, om, gw⟩
  have gwT := Wrote.turned gw
  clear gw
  have sz17 := gwT.size
  have B17 := Lib.hid (below_turned B16.out gwT (by omega))
  have X20_17 := Lib.hid (X20_16.out.turned gwT (by omega))
  have X30_17 := Lib.hid (X30_16.out.turned gwT (by omega))
  have X40_17 := Lib.hid om
  have L0_17 := Lib.hid (L0_16.out.turned gwT (by omega))
  have x0_17 := Lib.hid (x0_16.out.turned gwT (by omega))
  clear om gwT B16 X20_16 X30_16 X40_16 L0_16 x0_16
  go_wp2_with fail
  refine (heldCeW_win 1 X40_17.out (by omega) (by omega)).mono ?_
  rintro e w23 ⟨rfl, he⟩
  have hb : Below w21.heap.size w21 w23 := he ▸ Below.refl _ _
  clear he
  have sz18 := hb.size
  have B18 := Lib.hid (below_chain B17.out hb)
  have X20_18 := Lib.hid (X20_17.out.below hb)
  have X30_18 := Lib.hid (X30_17.out.below hb)
  have X40_18 := Lib.hid (X40_17.out.below hb)
  have L0_18 := Lib.hid (L0_17.out.below hb)
  have x0_18 := Lib.hid (x0_17.out.below hb)
  clear hb B17 X20_17 X30_17 X40_17 L0_17 x0_17
  have xL00 : w23.cell? ⟨w.heap.size, 0, none⟩ = some (.slice A n c) := by rw [L0_18.out.cell]; rfl
  have xL01 : w23.cell? ⟨w.heap.size, 1, none⟩ = some (.int .i64 wk) := by rw [L0_18.out.cell]; rfl
  have xL02 : w23.cell? ⟨w.heap.size, 2, none⟩ = some (.int .i64 cp) := by rw [L0_18.out.cell]; rfl
  go_wp2_with fail
  clear xL00 xL01 xL02
  refine (toGr_row n gs Z.out A c wk cp _ (S.out.below B18.out) le0 ou0).mono ?_
  rintro e w25 ⟨A60, c60, vs60, f60, rfl, r60, hb⟩
  have sz19 := hb.size
  have B19 := Lib.hid (below_chain B18.out hb)
  have X20_19 := Lib.hid (X20_18.out.below hb)
  have X30_19 := Lib.hid (X30_18.out.below hb)
  have X40_19 := Lib.hid (X40_18.out.below hb)
  have L0_19 := Lib.hid (L0_18.out.below hb)
  have x0_19 := Lib.hid (x0_18.out.below hb)
  clear hb B18 X20_18 X30_18 X40_18 L0_18 x0_18
  have X60_19 := Lib.hid r60
  clear r60
  go_wp2_with fail
  refine (toRcS_row n1 rs Z1.out A1 c1 _ (S1.out.below B19.out) le1).mono ?_
  rintro e w26 ⟨A61, c61, rfl, r61, hb⟩
  have sz20 := hb.size
  have B20 := Lib.hid (below_chain B19.out hb)
  have X20_20 := Lib.hid (X20_19.out.below hb)
  have X30_20 := Lib.hid (X30_19.out.below hb)
  have X40_20 := Lib.hid (X40_19.out.below hb)
  have X60_20 := Lib.hid (X60_19.out.below hb)
  have L0_20 := Lib.hid (L0_19.out.below hb)
  have x0_20 := Lib.hid (x0_19.out.below hb)
  clear hb B19 X20_19 X30_19 X40_19 X60_19 L0_19 x0_19
  have X61_20 := Lib.hid r61
  clear r61
  go_wp2_with fail
  refine (implRes_any gs wk cp A60 n c60 Z.out ou0 le0 ep rs A61 n1 c61 Z1.out le1 HF.out HFL.out _ X60_20.out.nds X61_20.out.rc).mono ?_
  intro e w28 he
  obtain ⟨A70, c70, rfl, r70, hb⟩ := he.rows HQ.out HM3.out
  clear he
  have sz21 := hb.size
  have B21 := Lib.hid (below_chain B20.out hb)
  have X20_21 := Lib.hid (X20_20.out.below hb)
  have X30_21 := Lib.hid (X30_20.out.below hb)
  have X40_21 := Lib.hid (X40_20.out.below hb)
  have X60_21 := Lib.hid (X60_20.out.below hb)
  have X61_21 := Lib.hid (X61_20.out.below hb)
  have L0_21 := Lib.hid (L0_20.out.below hb)
  have x0_21 := Lib.hid (x0_20.out.below hb)
  clear hb B20 X20_20 X30_20 X40_20 X60_20 X61_20 L0_20 x0_20
  have X70_21 := Lib.hid r70
  clear r70
  go_wp2_with fail
  refine (eqCeW_win X70_21.out X20_21.out (by omega)).mono ?_
  rintro e w29 ⟨rfl, hb⟩
  have sz22 := hb.size
  have B22 := Lib.hid (below_chain B21.out hb)
  have X20_22 := Lib.hid (X20_21.out.below hb)
  have X30_22 := Lib.hid (X30_21.out.below hb)
  have X40_22 := Lib.hid (X40_21.out.below hb)
  have X60_22 := Lib.hid (X60_21.out.below hb)
  have X61_22 := Lib.hid (X61_21.out.below hb)
  have X70_22 := Lib.hid (X70_21.out.below hb)
  have L0_22 := Lib.hid (L0_21.out.below hb)
  have x0_22 := Lib.hid (x0_21.out.below hb)
  clear hb B21 X20_21 X30_21 X40_21 X60_21 X61_21 X70_21 L0_21 x0_21
  go_wp2_with fail
  refine (heldCeW_win 1 X40_22.out (by omega) (by omega)).mono ?_
  rintro e w31 ⟨rfl, he⟩
  have hb : Below w29.heap.size w29 w31 := he ▸ Below.refl _ _
  clear he
  have sz23 := hb.size
  have B23 := Lib.hid (below_chain B22.out hb)
  have X20_23 := Lib.hid (X20_22.out.below hb)
  have X30_23 := Lib.hid (X30_22.out.below hb)
  have X40_23 := Lib.hid (X40_22.out.below hb)
  have X60_23 := Lib.hid (X60_22.out.below hb)
  have X61_23 := Lib.hid (X61_22.out.below hb)
  have X70_23 := Lib.hid (X70_22.out.below hb)
  have L0_23 := Lib.hid (L0_22.out.below hb)
  have x0_23 := Lib.hid (x0_22.out.below hb)
  clear hb B22 X20_22 X30_22 X40_22 X60_22 X61_22 X70_22 L0_22 x0_22
  go_wp2
  go_ret
  exact ⟨rfl, B23.out⟩
end Go.Proofs.Ytbbagpnjjjohpaa.fnExactResultOf

