/-
  The walk of FnExactNodeOf.
-/
import Derived.Test.YtjplkoglibagkaaGrNode
import Derived.Test.YtjplkoglibagkaaLawGr
import Derived.Deep.RegionHeld3
import Derived.Deep.DeepCutAuto
namespace Go.Proofs.Ytjplkoglibagkaa.fnExactNodeOf
open Go.RowKit Go.Proofs.Ytjplkoglibagkaa.hexes

set_option maxRecDepth 1000000 in
set_option maxHeartbeats 8000000 in
theorem walk (A : Option Addr) (n c : Nat) (gs : List Nd) (wk cp : Int) (op : Int) (_wo : (Lit.int .i64 op).wf = true) (w : World) (hZ : IsNds w A n gs) :
    Calls Try.prog 5 #[.agg #[.slice A n c, .int .i64 wk, .int .i64 cp], .int .i64 op] w fun e w' => e = .returned (.bool true) ∧ Below w.heap.size w w' := by
  have Z := Lib.hid hZ.len
  have HZ := Lib.hid hZ
  have S := Lib.hid hZ.is
  clear hZ
  by_cases hn0 : (1048576 : Int) < ((n + outSum gs : Nat) : Int)
  · have C0 := Lib.hid (szGr_over A n c gs wk cp HZ.out (left := (1048576 : Int)) (by omega) (by omega) hn0)
    clear hn0
    go_enter Try.func5, Try.ntmps5
    go_wp2_with fail
    generalize hW : (w.alloc _) = W
    have BB := Lib.hid (show Below w.heap.size w W by rw [← hW]; exact ((Below.refl _ _).alloc (by first | (simp; done) | (simp; omega) | omega) _))
    have NB0 := Lib.hid (show Blk W (w.heap.size) 47 #[.slice A n c, .int .i64 wk, .int .i64 cp] by rw [← hW]; exact (Blk.new _ _ _))
    clear hW
    refine (C0.out _ (S.out.below BB.out)).mono ?_
    rintro e v0 ⟨rfl, hb0⟩
    have BB0 := Lib.hid (below_chain BB.out hb0)
    have NB0_0 := Lib.hid (NB0.out.below hb0)
    clear hb0
    go_wp2
    go_ret
    exact ⟨rfl, BB0.out⟩
  obtain ⟨lf0, hl0⟩ : ∃ q : Nat, (1048576 : Int) - ((n + outSum gs : Nat) : Int) = (q : Int) := ⟨((1048576 : Int) - ((n + outSum gs : Nat) : Int)).toNat, by omega⟩
  have C0 := Lib.hid (show ∀ W, Nds W A gs → Calls Try.prog 29 #[.agg #[.slice A n c, .int .i64 wk, .int .i64 cp], .int .i64 (1048576 : Int)] W fun e w' => e = .returned (.int .i64 (lf0 : Int)) ∧ Below W.heap.size W w' by rw [← hl0]; exact szGr_in A n c gs wk cp HZ.out (left := (1048576 : Int)) (by omega) (by omega) hn0)
  have hd0 : decide ((lf0 : Int) < 0) = false := by simp
  have os0 : n + outSum gs ≤ 1048576 := by omega
  have le0 : n ≤ 1048576 := by omega
  have ot0 : outSum gs ≤ 1048576 := by omega
  have ou0 : ∀ x ∈ gs, x.2.2.2.length ≤ 1048576 := fun x hx => Nat.le_trans (outSum_mem hx) ot0
  have lb0 : (lf0 : Int) ≤ 1048576 := by omega
  clear hn0 hl0
  obtain ⟨⟨k, a, b, zs⟩, hx⟩ : ∃ x, nodeAt gs op = x := ⟨_, rfl⟩
  obtain ⟨m, hm⟩ : ∃ m, zs.length = m := ⟨_, rfl⟩
  obtain ⟨q, hq⟩ : ∃ q, hasB gs op = q := ⟨_, rfl⟩
  have hqq : (q != q) = false := by simp
  have hmn : m ≤ 1048576 := by
    have hle := nodeAt_len gs op
    rw [hx] at hle
    have hle2 : zs.length ≤ outSum gs := hle
    omega
  have HX := Lib.hid hx
  have HM := Lib.hid hm
  have HQ := Lib.hid hq
  clear hx hm hq
  go_enter Try.func5, Try.ntmps5
  go_wp2_with fail
  generalize hW : (w.alloc _) = W
  have hb : Below w.heap.size w W := by rw [← hW]; exact ((Below.refl _ _).alloc (by first | (simp; done) | (simp; omega) | omega) _)
  have azW : W.heap.size = w.heap.size + 1 := by rw [← hW]; simp
  have NL0 := Lib.hid (show Blk W (w.heap.size) 47 #[.slice A n c, .int .i64 wk, .int .i64 cp] by rw [← hW]; exact (Blk.new _ _ _))
  clear hW
  have AZW := Lib.hid azW
  clear azW
  have sz1 := hb.size
  have B1 := Lib.hid (hb)
  clear hb
  have L0_1 := NL0
  clear NL0
  have ltL0 : w.heap.size < W.heap.size := L0_1.out.lt
  refine (C0.out _ (S.out.below B1.out)).mono ?_
  rintro e v0 ⟨rfl, hb⟩
  have sz2 := hb.size
  have B2 := Lib.hid (below_chain B1.out hb)
  have L0_2 := Lib.hid (L0_1.out.below hb)
  clear hb B1 L0_1
  clear C0
  have xL00 : v0.cell? ⟨w.heap.size, 0, none⟩ = some (.slice A n c) := by rw [L0_2.out.cell]; rfl
  have xL01 : v0.cell? ⟨w.heap.size, 1, none⟩ = some (.int .i64 wk) := by rw [L0_2.out.cell]; rfl
  have xL02 : v0.cell? ⟨w.heap.size, 2, none⟩ = some (.int .i64 cp) := by rw [L0_2.out.cell]; rfl
  go_wp2_with fail
  clear xL00 xL01 xL02
  refine (toGr_row n gs Z.out A c wk cp _ (S.out.below B2.out) le0 ou0).mono ?_
  rintro e w1 ⟨A1, c1, vs1, f1, rfl, r1, hb⟩
  have sz3 := hb.size
  have B3 := Lib.hid (below_chain B2.out hb)
  have L0_3 := Lib.hid (L0_2.out.below hb)
  clear hb B2 L0_2
  have X1_3 := Lib.hid r1
  clear r1
  go_wp2_with fail
  refine (specNodeOf_row HX.out HM.out HQ.out wk cp A1 n c1 Z.out ou0 le0 _ X1_3.out.nds).mono ?_
  rintro e w2 ⟨A2, c2, rfl, r2, hb⟩
  have sz4 := hb.size
  have B4 := Lib.hid (below_chain B3.out hb)
  have X1_4 := Lib.hid (X1_3.out.below hb)
  have L0_4 := Lib.hid (L0_3.out.below hb)
  clear hb B3 X1_3 L0_3
  have X2_4 := Lib.hid r2
  clear r2
  clear X1_4
  obtain ⟨V2, hW⟩ : ∃ z, (w2.alloc (.cells #[.int .i64 k, .int .i64 a, .int .i64 b, .slice A2 m c2] 37)) = z := ⟨_, rfl⟩
  have hb : Below w2.heap.size w2 V2 := by rw [← hW]; exact ((Below.refl _ _).alloc (by first | (simp; done) | (simp; omega) | omega) _)
  have az : V2.heap.size = w2.heap.size + 1 := by rw [← hW]; simp
  have Nw0 := Lib.hid (show Blk V2 (w2.heap.size) 37 #[.int .i64 k, .int .i64 a, .int .i64 b, .slice A2 m c2] by rw [← hW]; exact (Blk.new _ _ _))
  have AZV2 := Lib.hid az
  clear az
  have sz5 := hb.size
  have B5 := Lib.hid (below_chain B4.out hb)
  have X2_5 := Lib.hid (X2_4.out.below hb)
  have L0_5 := Lib.hid (L0_4.out.below hb)
  clear hb B4 X2_4 L0_4
  have w0_5 := Nw0
  clear Nw0
  have ltw0 : w2.heap.size < V2.heap.size := w0_5.out.lt
  have xL00 : V2.cell? ⟨w.heap.size, 0, none⟩ = some (.slice A n c) := by rw [L0_5.out.cell]; rfl
  have xL01 : V2.cell? ⟨w.heap.size, 1, none⟩ = some (.int .i64 wk) := by rw [L0_5.out.cell]; rfl
  have xL02 : V2.cell? ⟨w.heap.size, 2, none⟩ = some (.int .i64 cp) := by rw [L0_5.out.cell]; rfl
  go_wp2_with fail
  clear hW xL00 xL01 xL02
  refine (toGr_row n gs Z.out A c wk cp _ (S.out.below B5.out) le0 ou0).mono ?_
  rintro e w3 ⟨A3, c3, vs3, f3, rfl, r3, hb⟩
  have sz6 := hb.size
  have B6 := Lib.hid (below_chain B5.out hb)
  have X2_6 := Lib.hid (X2_5.out.below hb)
  have L0_6 := Lib.hid (L0_5.out.below hb)
  have w0_6 := Lib.hid (w0_5.out.below hb)
  clear hb B5 X2_5 L0_5 w0_5
  have X3_6 := Lib.hid r3
  clear r3
  go_wp2_with fail
  generalize hW : (w3.alloc _) = V3
  have hb : Below w3.heap.size w3 V3 := by rw [← hW]; exact ((Below.refl _ _).alloc (by first | (simp; done) | (simp; omega) | omega) _)
  have azV3 : V3.heap.size = w3.heap.size + 1 := by rw [← hW]; simp
  have Nx0 := Lib.hid (show Blk V3 (w3.heap.size) 26 #[.slice A3 n c3, .int .i64 wk, .int .i64 cp] by rw [← hW]; exact (Blk.new _ _ _))
  clear hW
  have AZV3 := Lib.hid azV3
  clear azV3
  have sz7 := hb.size
  have B7 := Lib.hid (below_chain B6.out hb)
  have X2_7 := Lib.hid (X2_6.out.below hb)
  have X3_7 := Lib.hid (X3_6.out.below hb)
  have L0_7 := Lib.hid (L0_6.out.below hb)
  have w0_7 := Lib.hid (w0_6.out.below hb)
  clear hb B6 X2_6 X3_6 L0_6 w0_6
  have x0_7 := Nx0
  clear Nx0
  have ltx0 : w3.heap.size < V3.heap.size := x0_7.out.lt
  refine (implNodeOf_row HX.out HM.out HQ.out wk cp A3 n c3 Z.out ou0 le0 _ X3_7.out.nds).mono ?_
  rintro e w4 ⟨A4, c4, rfl, r4, hb⟩
  have sz8 := hb.size
  have B8 := Lib.hid (below_chain B7.out hb)
  have X2_8 := Lib.hid (X2_7.out.below hb)
  have X3_8 := Lib.hid (X3_7.out.below hb)
  have L0_8 := Lib.hid (L0_7.out.below hb)
  have w0_8 := Lib.hid (w0_7.out.below hb)
  have x0_8 := Lib.hid (x0_7.out.below hb)
  clear hb B7 X2_7 X3_7 L0_7 w0_7 x0_7
  have X4_8 := Lib.hid r4
  clear r4
  obtain ⟨V4, hW⟩ : ∃ z, (w4.alloc (.cells #[.int .i64 k, .int .i64 a, .int .i64 b, .slice A4 m c4] 37)) = z := ⟨_, rfl⟩
  have hb : Below w4.heap.size w4 V4 := by rw [← hW]; exact ((Below.refl _ _).alloc (by first | (simp; done) | (simp; omega) | omega) _)
  have az : V4.heap.size = w4.heap.size + 1 := by rw [← hW]; simp
  have Ng0 := Lib.hid (show Blk V4 (w4.heap.size) 37 #[.int .i64 k, .int .i64 a, .int .i64 b, .slice A4 m c4] by rw [← hW]; exact (Blk.new _ _ _))
  have AZV4 := Lib.hid az
  clear az
  have sz9 := hb.size
  have B9 := Lib.hid (below_chain B8.out hb)
  have X2_9 := Lib.hid (X2_8.out.below hb)
  have X3_9 := Lib.hid (X3_8.out.below hb)
  have X4_9 := Lib.hid (X4_8.out.below hb)
  have L0_9 := Lib.hid (L0_8.out.below hb)
  have w0_9 := Lib.hid (w0_8.out.below hb)
  have x0_9 := Lib.hid (x0_8.out.below hb)
  clear hb B8 X2_8 X3_8 X4_8 L0_8 w0_8 x0_8
  have g0_9 := Ng0
  clear Ng0
  have ltg0 : w4.heap.size < V4.heap.size := g0_9.out.lt
  have xg00 : V4.cell? ⟨w4.heap.size, 0, none⟩ = some (.int .i64 k) := by rw [g0_9.out.cell]; rfl
  have xg01 : V4.cell? ⟨w4.heap.size, 1, none⟩ = some (.int .i64 a) := by rw [g0_9.out.cell]; rfl
  have xg02 : V4.cell? ⟨w4.heap.size, 2, none⟩ = some (.int .i64 b) := by rw [g0_9.out.cell]; rfl
  have xg03 : V4.cell? ⟨w4.heap.size, 3, none⟩ = some (.slice A4 m c4) := by rw [g0_9.out.cell]; rfl
  have xw00 : V4.cell? ⟨w2.heap.size, 0, none⟩ = some (.int .i64 k) := by rw [w0_9.out.cell]; rfl
  have xw01 : V4.cell? ⟨w2.heap.size, 1, none⟩ = some (.int .i64 a) := by rw [w0_9.out.cell]; rfl
  have xw02 : V4.cell? ⟨w2.heap.size, 2, none⟩ = some (.int .i64 b) := by rw [w0_9.out.cell]; rfl
  have xw03 : V4.cell? ⟨w2.heap.size, 3, none⟩ = some (.slice A2 m c2) := by rw [w0_9.out.cell]; rfl
  go_wp2_with fail
  clear hW xg00 xg01 xg02 xg03 xw00 xw01 xw02 xw03
  refine (eqNd_row k a b X4_9.out X2_9.out (by omega)).mono ?_
  rintro e w5 ⟨rfl, hb⟩
  have sz10 := hb.size
  have B10 := Lib.hid (below_chain B9.out hb)
  have X2_10 := Lib.hid (X2_9.out.below hb)
  have X3_10 := Lib.hid (X3_9.out.below hb)
  have X4_10 := Lib.hid (X4_9.out.below hb)
  have L0_10 := Lib.hid (L0_9.out.below hb)
  have w0_10 := Lib.hid (w0_9.out.below hb)
  have x0_10 := Lib.hid (x0_9.out.below hb)
  have g0_10 := Lib.hid (g0_9.out.below hb)
  clear hb B9 X2_9 X3_9 X4_9 L0_9 w0_9 x0_9 g0_9
  go_upto_region 10 with fail
  have k0 : w5.cell? ⟨w3.heap.size, 0, none⟩ = some (.slice A3 n c3) := by rw [x0_10.out.cell]; rfl
  have k1 : w5.cell? ⟨w3.heap.size, 1, none⟩ = some (.int .i64 wk) := by rw [x0_10.out.cell]; rfl
  have k2 : w5.cell? ⟨w3.heap.size, 2, none⟩ = some (.int .i64 cp) := by rw [x0_10.out.cell]; rfl
  have k3 : w5.cell? ⟨w.heap.size, 0, none⟩ = some (.slice A n c) := by rw [L0_10.out.cell]; rfl
  have k4 : w5.cell? ⟨w.heap.size, 1, none⟩ = some (.int .i64 wk) := by rw [L0_10.out.cell]; rfl
  have k5 : w5.cell? ⟨w.heap.size, 2, none⟩ = some (.int .i64 cp) := by rw [L0_10.out.cell]; rfl
  have kb := Below.refl w5.heap.size w5
  have ks := (S.out.below B10.out)
  have kx := X3_10.out
  go_cut [49] (fun t wx => t = .bool false ∧ Below w5.heap.size w5 wx)
  case first =>
    go_region_held3 (fun w' => w'.cell? ⟨w3.heap.size, 0, none⟩ = some (.slice A3 n c3) ∧ w'.cell? ⟨w3.heap.size, 1, none⟩ = some (.int .i64 wk) ∧ w'.cell? ⟨w3.heap.size, 2, none⟩ = some (.int .i64 cp) ∧ w'.cell? ⟨w.heap.size, 0, none⟩ = some (.slice A n c) ∧ w'.cell? ⟨w.heap.size, 1, none⟩ = some (.int .i64 wk) ∧ w'.cell? ⟨w.heap.size, 2, none⟩ = some (.int .i64 cp) ∧ Nds w' A gs ∧ Below w5.heap.size w5 w')
      (((try go_split_ands); refine ⟨?_, ?_, ?_, ?_, ?_, ?_, ?_, ?_⟩ <;> (repeat (first | with_reducible assumption | with_reducible refine drew_keep ?_ | with_reducible refine below_keep hbd ?_ | with_reducible refine nds_drew ?_ | with_reducible refine Nds.below ?_ hbd | with_reducible refine Below.drew ?_ | with_reducible refine below_chain ?_ hbd))))
      (first | (go_at_call 30; (try go_split_ands); (with_reducible refine (toGr_row n gs Z.out A c wk cp _ (by assumption) le0 ou0).mono ?_); rintro e w5 ⟨A5, c5, vs5, f5, rfl, s5, hbd⟩) | (go_at_call 31; (try go_split_ands); (with_reducible refine (eqGr_row wk cp (GrRows.below kx (by assumption)) s5 le0 ou0).mono ?_); rintro e w6 ⟨rfl, hbd⟩))
    all_goals (
      go_wp2_with fail
      go_meet
      refine ⟨rfl, ?_⟩
      (try go_split_ands)
      assumption)
  case rest =>
  obtain ⟨rfl, hb⟩ := hcut
  clear kb ks kx k0 k1 k2 k3 k4 k5
  obtain ⟨u3, hwc⟩ : ∃ z, z = wc := ⟨_, rfl⟩
  subst hwc
  have sz11 := hb.size
  have B11 := Lib.hid (below_chain B10.out hb)
  have X2_11 := Lib.hid (X2_10.out.below hb)
  have X3_11 := Lib.hid (X3_10.out.below hb)
  have X4_11 := Lib.hid (X4_10.out.below hb)
  have L0_11 := Lib.hid (L0_10.out.below hb)
  have w0_11 := Lib.hid (w0_10.out.below hb)
  have x0_11 := Lib.hid (x0_10.out.below hb)
  have g0_11 := Lib.hid (g0_10.out.below hb)
  clear hb B10 X2_10 X3_10 X4_10 L0_10 w0_10 x0_10 g0_10
  have xx00 : u3.cell? ⟨w3.heap.size, 0, none⟩ = some (.slice A3 n c3) := by rw [x0_11.out.cell]; rfl
  have xx01 : u3.cell? ⟨w3.heap.size, 1, none⟩ = some (.int .i64 wk) := by rw [x0_11.out.cell]; rfl
  have xx02 : u3.cell? ⟨w3.heap.size, 2, none⟩ = some (.int .i64 cp) := by rw [x0_11.out.cell]; rfl
  go_wp2_with fail
  clear xx00 xx01 xx02
  refine (markGr_any X3_11.out wk cp 1 (by omega)).mono ?_
  rintro e w6 ⟨rfl, gw0⟩
  have gw : Turned _ _ u3 w6 := gw0
  clear gw0
  have sz12 := gw.size
  have B12 := Lib.hid (below_turned B11.out gw (by omega))
  have X2_12 := Lib.hid (X2_11.out.turned gw (by omega))
  have X4_12 := Lib.hid (X4_11.out.turned gw (by omega))
  have L0_12 := Lib.hid (L0_11.out.turned gw (by omega))
  have w0_12 := Lib.hid (w0_11.out.turned gw (by omega))
  have x0_12 := Lib.hid (x0_11.out.turned gw (by omega))
  have g0_12 := Lib.hid (g0_11.out.turned gw (by omega))
  clear gw B11 X2_11 X3_11 X4_11 L0_11 w0_11 x0_11 g0_11
  have xg00 : w6.cell? ⟨w4.heap.size, 0, none⟩ = some (.int .i64 k) := by rw [g0_12.out.cell]; rfl
  have xg01 : w6.cell? ⟨w4.heap.size, 1, none⟩ = some (.int .i64 a) := by rw [g0_12.out.cell]; rfl
  have xg02 : w6.cell? ⟨w4.heap.size, 2, none⟩ = some (.int .i64 b) := by rw [g0_12.out.cell]; rfl
  have xg03 : w6.cell? ⟨w4.heap.size, 3, none⟩ = some (.slice A4 m c4) := by rw [g0_12.out.cell]; rfl
  have xw00 : w6.cell? ⟨w2.heap.size, 0, none⟩ = some (.int .i64 k) := by rw [w0_12.out.cell]; rfl
  have xw01 : w6.cell? ⟨w2.heap.size, 1, none⟩ = some (.int .i64 a) := by rw [w0_12.out.cell]; rfl
  have xw02 : w6.cell? ⟨w2.heap.size, 2, none⟩ = some (.int .i64 b) := by rw [w0_12.out.cell]; rfl
  have xw03 : w6.cell? ⟨w2.heap.size, 3, none⟩ = some (.slice A2 m c2) := by rw [w0_12.out.cell]; rfl
  go_wp2_with fail
  clear xg00 xg01 xg02 xg03 xw00 xw01 xw02 xw03
  refine (eqNd_row k a b X4_12.out X2_12.out (by omega)).mono ?_
  rintro e w7 ⟨rfl, hb⟩
  have sz13 := hb.size
  have B13 := Lib.hid (below_chain B12.out hb)
  have X2_13 := Lib.hid (X2_12.out.below hb)
  have X4_13 := Lib.hid (X4_12.out.below hb)
  have L0_13 := Lib.hid (L0_12.out.below hb)
  have w0_13 := Lib.hid (w0_12.out.below hb)
  have x0_13 := Lib.hid (x0_12.out.below hb)
  have g0_13 := Lib.hid (g0_12.out.below hb)
  clear hb B12 X2_12 X4_12 L0_12 w0_12 x0_12 g0_12
  have xg00 : w7.cell? ⟨w4.heap.size, 0, none⟩ = some (.int .i64 k) := by rw [g0_13.out.cell]; rfl
  have xg01 : w7.cell? ⟨w4.heap.size, 1, none⟩ = some (.int .i64 a) := by rw [g0_13.out.cell]; rfl
  have xg02 : w7.cell? ⟨w4.heap.size, 2, none⟩ = some (.int .i64 b) := by rw [g0_13.out.cell]; rfl
  have xg03 : w7.cell? ⟨w4.heap.size, 3, none⟩ = some (.slice A4 m c4) := by rw [g0_13.out.cell]; rfl
  go_wp2_with fail
  clear xg00 xg01 xg02 xg03
  refine (markNd_row k a b 1 X4_13.out (by omega) (by omega)).mono ?_
  rintro e w8 ⟨rfl, om, gw⟩
  have sz14 := gw.size
  have B14 := Lib.hid (below_turned B13.out gw (by omega))
  have X2_14 := Lib.hid (X2_13.out.turned gw (by omega))
  have X4_14 := Lib.hid om
  have L0_14 := Lib.hid (L0_13.out.turned gw (by omega))
  have w0_14 := Lib.hid (w0_13.out.turned gw (by omega))
  have x0_14 := Lib.hid (x0_13.out.turned gw (by omega))
  have g0_14 := Lib.hid (g0_13.out.turned gw (by omega))
  clear om gw B13 X2_13 X4_13 L0_13 w0_13 x0_13 g0_13
  have xg00 : w8.cell? ⟨w4.heap.size, 0, none⟩ = some (.int .i64 k) := by rw [g0_14.out.cell]; rfl
  have xg01 : w8.cell? ⟨w4.heap.size, 1, none⟩ = some (.int .i64 a) := by rw [g0_14.out.cell]; rfl
  have xg02 : w8.cell? ⟨w4.heap.size, 2, none⟩ = some (.int .i64 b) := by rw [g0_14.out.cell]; rfl
  have xg03 : w8.cell? ⟨w4.heap.size, 3, none⟩ = some (.slice A4 m c4) := by rw [g0_14.out.cell]; rfl
  go_wp2_with fail
  clear xg00 xg01 xg02 xg03
  refine (heldNd_row k a b 1 X4_14.out (by omega) (by omega)).mono ?_
  rintro e w9 ⟨rfl, hb⟩
  have sz15 := hb.size
  have B15 := Lib.hid (below_chain B14.out hb)
  have X2_15 := Lib.hid (X2_14.out.below hb)
  have X4_15 := Lib.hid (X4_14.out.below hb)
  have L0_15 := Lib.hid (L0_14.out.below hb)
  have w0_15 := Lib.hid (w0_14.out.below hb)
  have x0_15 := Lib.hid (x0_14.out.below hb)
  have g0_15 := Lib.hid (g0_14.out.below hb)
  clear hb B14 X2_14 X4_14 L0_14 w0_14 x0_14 g0_14
  have xL00 : w9.cell? ⟨w.heap.size, 0, none⟩ = some (.slice A n c) := by rw [L0_15.out.cell]; rfl
  have xL01 : w9.cell? ⟨w.heap.size, 1, none⟩ = some (.int .i64 wk) := by rw [L0_15.out.cell]; rfl
  have xL02 : w9.cell? ⟨w.heap.size, 2, none⟩ = some (.int .i64 cp) := by rw [L0_15.out.cell]; rfl
  go_wp2_with fail
  clear xL00 xL01 xL02
  refine (toGr_row n gs Z.out A c wk cp _ (S.out.below B15.out) le0 ou0).mono ?_
  rintro e w10 ⟨A5, c5, vs5, f5, rfl, r5, hb⟩
  have sz16 := hb.size
  have B16 := Lib.hid (below_chain B15.out hb)
  have X2_16 := Lib.hid (X2_15.out.below hb)
  have X4_16 := Lib.hid (X4_15.out.below hb)
  have L0_16 := Lib.hid (L0_15.out.below hb)
  have w0_16 := Lib.hid (w0_15.out.below hb)
  have x0_16 := Lib.hid (x0_15.out.below hb)
  have g0_16 := Lib.hid (g0_15.out.below hb)
  clear hb B15 X2_15 X4_15 L0_15 w0_15 x0_15 g0_15
  have X5_16 := Lib.hid r5
  clear r5
  go_wp2_with fail
  refine (implNodeOf_row HX.out HM.out HQ.out wk cp A5 n c5 Z.out ou0 le0 _ X5_16.out.nds).mono ?_
  rintro e w11 ⟨A6, c6, rfl, r6, hb⟩
  have sz17 := hb.size
  have B17 := Lib.hid (below_chain B16.out hb)
  have X2_17 := Lib.hid (X2_16.out.below hb)
  have X4_17 := Lib.hid (X4_16.out.below hb)
  have X5_17 := Lib.hid (X5_16.out.below hb)
  have L0_17 := Lib.hid (L0_16.out.below hb)
  have w0_17 := Lib.hid (w0_16.out.below hb)
  have x0_17 := Lib.hid (x0_16.out.below hb)
  have g0_17 := Lib.hid (g0_16.out.below hb)
  clear hb B16 X2_16 X4_16 X5_16 L0_16 w0_16 x0_16 g0_16
  have X6_17 := Lib.hid r6
  clear r6
  obtain ⟨V6, hW⟩ : ∃ z, (w11.alloc (.cells #[.int .i64 k, .int .i64 a, .int .i64 b, .slice A6 m c6] 37)) = z := ⟨_, rfl⟩
  have hb : Below w11.heap.size w11 V6 := by rw [← hW]; exact ((Below.refl _ _).alloc (by first | (simp; done) | (simp; omega) | omega) _)
  have az : V6.heap.size = w11.heap.size + 1 := by rw [← hW]; simp
  have Nh0 := Lib.hid (show Blk V6 (w11.heap.size) 37 #[.int .i64 k, .int .i64 a, .int .i64 b, .slice A6 m c6] by rw [← hW]; exact (Blk.new _ _ _))
  have AZV6 := Lib.hid az
  clear az
  have sz18 := hb.size
  have B18 := Lib.hid (below_chain B17.out hb)
  have X2_18 := Lib.hid (X2_17.out.below hb)
  have X4_18 := Lib.hid (X4_17.out.below hb)
  have X5_18 := Lib.hid (X5_17.out.below hb)
  have X6_18 := Lib.hid (X6_17.out.below hb)
  have L0_18 := Lib.hid (L0_17.out.below hb)
  have w0_18 := Lib.hid (w0_17.out.below hb)
  have x0_18 := Lib.hid (x0_17.out.below hb)
  have g0_18 := Lib.hid (g0_17.out.below hb)
  clear hb B17 X2_17 X4_17 X5_17 X6_17 L0_17 w0_17 x0_17 g0_17
  have h0_18 := Nh0
  clear Nh0
  have lth0 : w11.heap.size < V6.heap.size := h0_18.out.lt
  have xh00 : V6.cell? ⟨w11.heap.size, 0, none⟩ = some (.int .i64 k) := by rw [h0_18.out.cell]; rfl
  have xh01 : V6.cell? ⟨w11.heap.size, 1, none⟩ = some (.int .i64 a) := by rw [h0_18.out.cell]; rfl
  have xh02 : V6.cell? ⟨w11.heap.size, 2, none⟩ = some (.int .i64 b) := by rw [h0_18.out.cell]; rfl
  have xh03 : V6.cell? ⟨w11.heap.size, 3, none⟩ = some (.slice A6 m c6) := by rw [h0_18.out.cell]; rfl
  have xw00 : V6.cell? ⟨w2.heap.size, 0, none⟩ = some (.int .i64 k) := by rw [w0_18.out.cell]; rfl
  have xw01 : V6.cell? ⟨w2.heap.size, 1, none⟩ = some (.int .i64 a) := by rw [w0_18.out.cell]; rfl
  have xw02 : V6.cell? ⟨w2.heap.size, 2, none⟩ = some (.int .i64 b) := by rw [w0_18.out.cell]; rfl
  have xw03 : V6.cell? ⟨w2.heap.size, 3, none⟩ = some (.slice A2 m c2) := by rw [w0_18.out.cell]; rfl
  go_wp2_with fail
  clear hW xh00 xh01 xh02 xh03 xw00 xw01 xw02 xw03
  refine (eqNd_row k a b X6_18.out X2_18.out (by omega)).mono ?_
  rintro e w12 ⟨rfl, hb⟩
  have sz19 := hb.size
  have B19 := Lib.hid (below_chain B18.out hb)
  have X2_19 := Lib.hid (X2_18.out.below hb)
  have X4_19 := Lib.hid (X4_18.out.below hb)
  have X5_19 := Lib.hid (X5_18.out.below hb)
  have X6_19 := Lib.hid (X6_18.out.below hb)
  have L0_19 := Lib.hid (L0_18.out.below hb)
  have w0_19 := Lib.hid (w0_18.out.below hb)
  have x0_19 := Lib.hid (x0_18.out.below hb)
  have g0_19 := Lib.hid (g0_18.out.below hb)
  have h0_19 := Lib.hid (h0_18.out.below hb)
  clear hb B18 X2_18 X4_18 X5_18 X6_18 L0_18 w0_18 x0_18 g0_18 h0_18
  have xg00 : w12.cell? ⟨w4.heap.size, 0, none⟩ = some (.int .i64 k) := by rw [g0_19.out.cell]; rfl
  have xg01 : w12.cell? ⟨w4.heap.size, 1, none⟩ = some (.int .i64 a) := by rw [g0_19.out.cell]; rfl
  have xg02 : w12.cell? ⟨w4.heap.size, 2, none⟩ = some (.int .i64 b) := by rw [g0_19.out.cell]; rfl
  have xg03 : w12.cell? ⟨w4.heap.size, 3, none⟩ = some (.slice A4 m c4) := by rw [g0_19.out.cell]; rfl
  go_wp2_with fail
  clear xg00 xg01 xg02 xg03
  refine (heldNd_row k a b 1 X4_19.out (by omega) (by omega)).mono ?_
  rintro e w13 ⟨rfl, hb⟩
  have sz20 := hb.size
  have B20 := Lib.hid (below_chain B19.out hb)
  have X2_20 := Lib.hid (X2_19.out.below hb)
  have X4_20 := Lib.hid (X4_19.out.below hb)
  have X5_20 := Lib.hid (X5_19.out.below hb)
  have X6_20 := Lib.hid (X6_19.out.below hb)
  have L0_20 := Lib.hid (L0_19.out.below hb)
  have w0_20 := Lib.hid (w0_19.out.below hb)
  have x0_20 := Lib.hid (x0_19.out.below hb)
  have g0_20 := Lib.hid (g0_19.out.below hb)
  have h0_20 := Lib.hid (h0_19.out.below hb)
  clear hb B19 X2_19 X4_19 X5_19 X6_19 L0_19 w0_19 x0_19 g0_19 h0_19
  go_wp2
  go_ret
  exact ⟨rfl, B20.out⟩
end Go.Proofs.Ytjplkoglibagkaa.fnExactNodeOf
