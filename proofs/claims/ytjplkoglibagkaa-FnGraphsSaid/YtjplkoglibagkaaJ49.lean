/-
  The walk of FnGraphs.
-/
import Derived.Test.YtjplkoglibagkaaJ48

namespace Go.Proofs.Ytjplkoglibagkaa.fnGraphs
open Go.RowKit Go.Proofs.Ytjplkoglibagkaa.hexes

set_option maxRecDepth 1000000 in
set_option maxHeartbeats 16000000 in
theorem walk (a0 : Option Addr) (len0 cap0 : Nat) (z0 : List Int) (w : World) (w0 : IsRow .u8 w a0 len0 cap0 z0) :
    Calls Try.prog 3 #[.slice a0 len0 cap0] w fun e w' => e = .returned (.bool true) ∧ Below w.heap.size w w' := by

  have hcame := came_of_row w0
  have HG := Lib.hid (fun W => big_any a0 len0 cap0 W)
  by_cases h1 : 1048576 < len0
  · have hd : decide (1048576 < (len0 : Int)) = true := by simp; omega
    clear hcame w0
    go_enter Try.func3, Try.ntmps3
    go_wp2_with (go_at_call 10; refine (HG.out _).mono ?_; rintro e w1 ⟨rfl, rfl⟩)
    go_ret
    exact ⟨rfl, Below.refl _ _⟩
  have hd : decide (1048576 < (len0 : Int)) = false := by simp; omega
  have HC := Lib.hid hcame
  have hlen : len0 ≤ 2097152 := by omega
  clear hcame w0 h1
  go_enter Try.func3, Try.ntmps3
  go_wp2_with (go_at_call 10; refine (HG.out _).mono ?_; rintro e w1 ⟨rfl, rfl⟩)
  refine (drawGrOk_any _ a0 len0 cap0 hlen HC.out).mono ?_
  rintro e w1 ⟨A1, n1, c1, wk1, cp1, gs1, hG1, rfl, hb⟩
  have sz1 := hb.size
  have B1 := Lib.hid (hb)
  clear hb
  have le1 := hG1.le
  have L1 := Lib.hid hG1.len
  have ou1 : ∀ x ∈ gs1, x.2.2.2.length ≤ 1048576 := fun x hx => Nat.le_trans (hG1.outs x hx) (by omega)
  have lm1 : n1 ≤ 1048576 := by omega
  have G1_1 := Lib.hid hG1
  clear hG1
  clear HG hd
  obtain ⟨ok, hok⟩ : ∃ r, okGr gs1 dec1 wk1 cp1 = r := ⟨_, rfl⟩
  obtain ⟨us, hu⟩ : ∃ us, outsG gs1 = us := ⟨_, rfl⟩
  obtain ⟨m, hm⟩ : ∃ m, us.length = m := ⟨_, rfl⟩
  have hmn : m ≤ n1 := by rw [← hm, ← hu, ← L1.out]; exact outsG_len gs1
  obtain ⟨lp, hlp⟩ : ∃ r, loopG gs1 wk1 cp1 = r := ⟨_, rfl⟩
  have OK := Lib.hid hok
  have US := Lib.hid hu
  have UM := Lib.hid hm
  have LP := Lib.hid hlp
  clear hok hu hm hlp
  have nok : (ok != ok) = false := by simp
  have nlp : (lp != lp) = false := by simp
  obtain ⟨V1, hW⟩ : ∃ z, (w1.alloc (.cells #[.slice A1 n1 c1, .int .i64 wk1, .int .i64 cp1] 26)) = z := ⟨_, rfl⟩
  have hb : Below w1.heap.size w1 V1 := by rw [← hW]; exact ((Below.refl _ _).alloc (by first | (simp; done) | (simp; omega) | omega) _)
  have az : V1.heap.size = w1.heap.size + 1 := by rw [← hW]; simp
  have Nx3 := Lib.hid (show Blk V1 (w1.heap.size) 26 #[.slice A1 n1 c1, .int .i64 wk1, .int .i64 cp1] by rw [← hW]; exact (Blk.new _ _ _))
  have AZV1 := Lib.hid az
  clear az
  have sz2 := hb.size
  have B2 := Lib.hid (below_chain B1.out hb)
  have G1_2 := Lib.hid (G1_1.out.below hb)
  clear hb B1 G1_1
  have x3_2 := Nx3
  clear Nx3
  have ltx3 : w1.heap.size < V1.heap.size := x3_2.out.lt
  have xx30 : V1.cell? ⟨w1.heap.size, 0, none⟩ = some (.slice A1 n1 c1) := by rw [x3_2.out.cell]; rfl
  have xx31 : V1.cell? ⟨w1.heap.size, 1, none⟩ = some (.int .i64 wk1) := by rw [x3_2.out.cell]; rfl
  have xx32 : V1.cell? ⟨w1.heap.size, 2, none⟩ = some (.int .i64 cp1) := by rw [x3_2.out.cell]; rfl
  go_wp2_with fail
  clear hW xx30 xx31 xx32
  refine (implGrOk_any gs1 wk1 cp1 A1 n1 c1 L1.out ou1 lm1 OK.out _ G1_2.out.nds).mono ?_
  rintro e w2 ⟨rfl, hb⟩
  have sz3 := hb.size
  have B3 := Lib.hid (below_chain B2.out hb)
  have G1_3 := Lib.hid (G1_2.out.below hb)
  have x3_3 := Lib.hid (x3_2.out.below hb)
  clear hb B2 G1_2 x3_2
  go_upto_region 5 with fail
  have k0 : w2.cell? ⟨w1.heap.size, 0, none⟩ = some (.slice A1 n1 c1) := by rw [x3_3.out.cell]; rfl
  have k1 : w2.cell? ⟨w1.heap.size, 1, none⟩ = some (.int .i64 wk1) := by rw [x3_3.out.cell]; rfl
  have k2 : w2.cell? ⟨w1.heap.size, 2, none⟩ = some (.int .i64 cp1) := by rw [x3_3.out.cell]; rfl
  have kf0 := G1_3.out.nds
  have kb := Below.refl w2.heap.size w2
  go_cut [45] (fun t wx => t = .bool false ∧ Below w2.heap.size w2 wx)
  case first =>
    go_region_held3 (fun w' => w'.cell? ⟨w1.heap.size, 0, none⟩ = some (.slice A1 n1 c1) ∧ w'.cell? ⟨w1.heap.size, 1, none⟩ = some (.int .i64 wk1) ∧ w'.cell? ⟨w1.heap.size, 2, none⟩ = some (.int .i64 cp1) ∧ Nds w' A1 gs1 ∧ Below w2.heap.size w2 w')
      (((try go_split_ands); refine ⟨?_, ?_, ?_, ?_, ?_⟩ <;> (repeat (first | with_reducible assumption | with_reducible refine drew_keep ?_ | with_reducible refine below_keep hbd ?_ | with_reducible refine nds_drew ?_ | with_reducible refine Nds.below ?_ hbd | with_reducible refine row_drew ?_ | with_reducible refine Row.below ?_ hbd | with_reducible refine Below.drew ?_ | with_reducible refine below_chain ?_ hbd))))
      (first | (go_at_call 13; (try go_split_ands); (with_reducible refine (specGrOk_any gs1 wk1 cp1 A1 n1 c1 L1.out ou1 lm1 OK.out _ (by assumption)).mono ?_); rintro e w5 ⟨rfl, hbd⟩) | (go_at_call 15; (try go_split_ands); (with_reducible refine (implOutsG_row US.out UM.out wk1 cp1 A1 n1 c1 L1.out lm1 _ (by assumption)).mono ?_); rintro e w5 ⟨A5, c5, rfl, s5, hbd⟩) | (go_at_call 16; (try go_split_ands); (with_reducible refine (specOutsG_row US.out UM.out wk1 cp1 A1 n1 c1 L1.out lm1 _ (by assumption)).mono ?_); rintro e w6 ⟨A6, c6, rfl, s6, hbd⟩; have s7 := s5.below hbd) | (go_at_call 14; (try go_split_ands); (with_reducible refine (lawIs_row s7 s6 (by omega)).mono ?_); rintro e w5 ⟨rfl, hbd⟩) | (go_at_call 17; (try go_split_ands); (with_reducible refine (implLoop_is LP.out L1.out ou1 lm1 A1 c1 _ (by assumption)).mono ?_); rintro e w5 ⟨rfl, hbd⟩) | (go_at_call 18; (try go_split_ands); (with_reducible refine (specLoop_is LP.out L1.out ou1 lm1 A1 c1 _ (by assumption)).mono ?_); rintro e w5 ⟨rfl, hbd⟩))
    all_goals (
      go_wp2_with fail
      go_meet
      refine ⟨rfl, ?_⟩
      (try go_split_ands)
      assumption)
  case rest =>
  obtain ⟨rfl, hb⟩ := hcut
  clear kb k0 k1 k2 kf0
  obtain ⟨w3, hwc⟩ : ∃ z, z = wc := ⟨_, rfl⟩
  subst hwc
  have sz4 := hb.size
  have B4 := Lib.hid (below_chain B3.out hb)
  have G1_4 := Lib.hid (G1_3.out.below hb)
  have x3_4 := Lib.hid (x3_3.out.below hb)
  clear hb B3 G1_3 x3_3
  go_wp2_with fail
  refine (drawReach_any _ a0 len0 cap0 hlen (HC.out.below B4.out)).mono ?_
  rintro e w4 ⟨A2, n2, c2, wk2, cp2, gs2, f, t, hG2, rfl, hb⟩
  have sz5 := hb.size
  have B5 := Lib.hid (below_chain B4.out hb)
  have G1_5 := Lib.hid (G1_4.out.below hb)
  have x3_5 := Lib.hid (x3_4.out.below hb)
  clear hb B4 G1_4 x3_4
  have le2 := hG2.le
  have L2 := Lib.hid hG2.len
  have ou2 : ∀ x ∈ gs2, x.2.2.2.length ≤ 1048576 := fun x hx => Nat.le_trans (hG2.outs x hx) (by omega)
  have lm2 : n2 ≤ 1048576 := by omega
  have G2_5 := Lib.hid hG2
  clear hG2
  obtain ⟨V4, hW⟩ : ∃ z, (w4.alloc (.cells #[.slice A2 n2 c2, .int .i64 wk2, .int .i64 cp2] 26)) = z := ⟨_, rfl⟩
  have hb : Below w4.heap.size w4 V4 := by rw [← hW]; exact ((Below.refl _ _).alloc (by first | (simp; done) | (simp; omega) | omega) _)
  have az : V4.heap.size = w4.heap.size + 1 := by rw [← hW]; simp
  have Nx5 := Lib.hid (show Blk V4 (w4.heap.size) 26 #[.slice A2 n2 c2, .int .i64 wk2, .int .i64 cp2] by rw [← hW]; exact (Blk.new _ _ _))
  have AZV4 := Lib.hid az
  clear az
  have sz6 := hb.size
  have B6 := Lib.hid (below_chain B5.out hb)
  have G1_6 := Lib.hid (G1_5.out.below hb)
  have G2_6 := Lib.hid (G2_5.out.below hb)
  have x3_6 := Lib.hid (x3_5.out.below hb)
  clear hb B5 G1_5 G2_5 x3_5
  have x5_6 := Nx5
  clear Nx5
  have ltx5 : w4.heap.size < V4.heap.size := x5_6.out.lt
  go_wp2_with fail
  clear hW
  refine (drawNodeOf_any _ a0 len0 cap0 hlen (HC.out.below B6.out)).mono ?_
  rintro e w5 ⟨A3, n3, c3, wk3, cp3, gs3, op, hG3, rfl, hb⟩
  have sz7 := hb.size
  have B7 := Lib.hid (below_chain B6.out hb)
  have G1_7 := Lib.hid (G1_6.out.below hb)
  have G2_7 := Lib.hid (G2_6.out.below hb)
  have x3_7 := Lib.hid (x3_6.out.below hb)
  have x5_7 := Lib.hid (x5_6.out.below hb)
  clear hb B6 G1_6 G2_6 x3_6 x5_6
  have le3 := hG3.le
  have L3 := Lib.hid hG3.len
  have ou3 : ∀ x ∈ gs3, x.2.2.2.length ≤ 1048576 := fun x hx => Nat.le_trans (hG3.outs x hx) (by omega)
  have lm3 : n3 ≤ 1048576 := by omega
  have G3_7 := Lib.hid hG3
  clear hG3
  obtain ⟨⟨k, a, b, zs⟩, hx⟩ : ∃ x, nodeAt gs3 op = x := ⟨_, rfl⟩
  obtain ⟨mz, hmz⟩ : ∃ m, zs.length = m := ⟨_, rfl⟩
  obtain ⟨q, hq⟩ : ∃ q, hasB gs3 op = q := ⟨_, rfl⟩
  have nq : (q != q) = false := by simp
  have hmz2 : mz ≤ 1048576 := by
    by_cases hh : hasB gs3 op = true
    · obtain ⟨j, rfl, hj⟩ := hasB_nat hh
      have := ou3 _ (List.getElem_mem hj)
      rw [← nodeAt_of hj, hx] at this
      rw [← hmz]; exact this
    · have h0 := nodeAt_none (by simpa using hh)
      rw [hx] at h0
      unfold nd0 at h0
      simp only [Prod.mk.injEq] at h0
      rw [← hmz, h0.2.2.2]; simp
  have HX := Lib.hid hx
  have HM := Lib.hid hmz
  have HQ := Lib.hid hq
  clear hx hmz hq
  obtain ⟨V5, hW⟩ : ∃ z, (w5.alloc (.cells #[.slice A3 n3 c3, .int .i64 wk3, .int .i64 cp3] 26)) = z := ⟨_, rfl⟩
  have hb : Below w5.heap.size w5 V5 := by rw [← hW]; exact ((Below.refl _ _).alloc (by first | (simp; done) | (simp; omega) | omega) _)
  have az : V5.heap.size = w5.heap.size + 1 := by rw [← hW]; simp
  have Nx8 := Lib.hid (show Blk V5 (w5.heap.size) 26 #[.slice A3 n3 c3, .int .i64 wk3, .int .i64 cp3] by rw [← hW]; exact (Blk.new _ _ _))
  have AZV5 := Lib.hid az
  clear az
  have sz8 := hb.size
  have B8 := Lib.hid (below_chain B7.out hb)
  have G1_8 := Lib.hid (G1_7.out.below hb)
  have G2_8 := Lib.hid (G2_7.out.below hb)
  have G3_8 := Lib.hid (G3_7.out.below hb)
  have x3_8 := Lib.hid (x3_7.out.below hb)
  have x5_8 := Lib.hid (x5_7.out.below hb)
  clear hb B7 G1_7 G2_7 G3_7 x3_7 x5_7
  have x8_8 := Nx8
  clear Nx8
  have ltx8 : w5.heap.size < V5.heap.size := x8_8.out.lt
  have xx80 : V5.cell? ⟨w5.heap.size, 0, none⟩ = some (.slice A3 n3 c3) := by rw [x8_8.out.cell]; rfl
  have xx81 : V5.cell? ⟨w5.heap.size, 1, none⟩ = some (.int .i64 wk3) := by rw [x8_8.out.cell]; rfl
  have xx82 : V5.cell? ⟨w5.heap.size, 2, none⟩ = some (.int .i64 cp3) := by rw [x8_8.out.cell]; rfl
  go_wp2_with fail
  clear hW xx80 xx81 xx82
  refine (implNodeOf_row HX.out HM.out HQ.out wk3 cp3 A3 n3 c3 L3.out ou3 lm3 _ G3_8.out.nds).mono ?_
  rintro e w6 ⟨A4, c4, rfl, r4, hb⟩
  have sz9 := hb.size
  have B9 := Lib.hid (below_chain B8.out hb)
  have G1_9 := Lib.hid (G1_8.out.below hb)
  have G2_9 := Lib.hid (G2_8.out.below hb)
  have G3_9 := Lib.hid (G3_8.out.below hb)
  have x3_9 := Lib.hid (x3_8.out.below hb)
  have x5_9 := Lib.hid (x5_8.out.below hb)
  have x8_9 := Lib.hid (x8_8.out.below hb)
  clear hb B8 G1_8 G2_8 G3_8 x3_8 x5_8 x8_8
  have X4_9 := Lib.hid r4
  clear r4
  obtain ⟨V6, hW⟩ : ∃ z, (w6.alloc (.cells #[.int .i64 k, .int .i64 a, .int .i64 b, .slice A4 mz c4] 37)) = z := ⟨_, rfl⟩
  have hb : Below w6.heap.size w6 V6 := by rw [← hW]; exact ((Below.refl _ _).alloc (by first | (simp; done) | (simp; omega) | omega) _)
  have az : V6.heap.size = w6.heap.size + 1 := by rw [← hW]; simp
  have Nx10 := Lib.hid (show Blk V6 (w6.heap.size) 37 #[.int .i64 k, .int .i64 a, .int .i64 b, .slice A4 mz c4] by rw [← hW]; exact (Blk.new _ _ _))
  have AZV6 := Lib.hid az
  clear az
  have sz10 := hb.size
  have B10 := Lib.hid (below_chain B9.out hb)
  have G1_10 := Lib.hid (G1_9.out.below hb)
  have G2_10 := Lib.hid (G2_9.out.below hb)
  have G3_10 := Lib.hid (G3_9.out.below hb)
  have X4_10 := Lib.hid (X4_9.out.below hb)
  have x3_10 := Lib.hid (x3_9.out.below hb)
  have x5_10 := Lib.hid (x5_9.out.below hb)
  have x8_10 := Lib.hid (x8_9.out.below hb)
  clear hb B9 G1_9 G2_9 G3_9 X4_9 x3_9 x5_9 x8_9
  have x10_10 := Nx10
  clear Nx10
  have ltx10 : w6.heap.size < V6.heap.size := x10_10.out.lt
  have xx80 : V6.cell? ⟨w5.heap.size, 0, none⟩ = some (.slice A3 n3 c3) := by rw [x8_10.out.cell]; rfl
  have xx81 : V6.cell? ⟨w5.heap.size, 1, none⟩ = some (.int .i64 wk3) := by rw [x8_10.out.cell]; rfl
  have xx82 : V6.cell? ⟨w5.heap.size, 2, none⟩ = some (.int .i64 cp3) := by rw [x8_10.out.cell]; rfl
  go_wp2_with fail
  clear hW xx80 xx81 xx82
  refine (specNodeOf_row HX.out HM.out HQ.out wk3 cp3 A3 n3 c3 L3.out ou3 lm3 _ G3_10.out.nds).mono ?_
  rintro e w7 ⟨A5, c5, rfl, r5, hb⟩
  have sz11 := hb.size
  have B11 := Lib.hid (below_chain B10.out hb)
  have G1_11 := Lib.hid (G1_10.out.below hb)
  have G2_11 := Lib.hid (G2_10.out.below hb)
  have G3_11 := Lib.hid (G3_10.out.below hb)
  have X4_11 := Lib.hid (X4_10.out.below hb)
  have x3_11 := Lib.hid (x3_10.out.below hb)
  have x5_11 := Lib.hid (x5_10.out.below hb)
  have x8_11 := Lib.hid (x8_10.out.below hb)
  have x10_11 := Lib.hid (x10_10.out.below hb)
  clear hb B10 G1_10 G2_10 G3_10 X4_10 x3_10 x5_10 x8_10 x10_10
  have X5_11 := Lib.hid r5
  clear r5
  obtain ⟨V7, hW⟩ : ∃ z, (w7.alloc (.cells #[.int .i64 k, .int .i64 a, .int .i64 b, .slice A5 mz c5] 37)) = z := ⟨_, rfl⟩
  have hb : Below w7.heap.size w7 V7 := by rw [← hW]; exact ((Below.refl _ _).alloc (by first | (simp; done) | (simp; omega) | omega) _)
  have az : V7.heap.size = w7.heap.size + 1 := by rw [← hW]; simp
  have Nx12 := Lib.hid (show Blk V7 (w7.heap.size) 37 #[.int .i64 k, .int .i64 a, .int .i64 b, .slice A5 mz c5] by rw [← hW]; exact (Blk.new _ _ _))
  have AZV7 := Lib.hid az
  clear az
  have sz12 := hb.size
  have B12 := Lib.hid (below_chain B11.out hb)
  have G1_12 := Lib.hid (G1_11.out.below hb)
  have G2_12 := Lib.hid (G2_11.out.below hb)
  have G3_12 := Lib.hid (G3_11.out.below hb)
  have X4_12 := Lib.hid (X4_11.out.below hb)
  have X5_12 := Lib.hid (X5_11.out.below hb)
  have x3_12 := Lib.hid (x3_11.out.below hb)
  have x5_12 := Lib.hid (x5_11.out.below hb)
  have x8_12 := Lib.hid (x8_11.out.below hb)
  have x10_12 := Lib.hid (x10_11.out.below hb)
  clear hb B11 G1_11 G2_11 G3_11 X4_11 X5_11 x3_11 x5_11 x8_11 x10_11
  have x12_12 := Nx12
  clear Nx12
  have ltx12 : w7.heap.size < V7.heap.size := x12_12.out.lt
  go_wp2_with fail
  clear hW
  refine (drawSameG_any _ a0 len0 cap0 hlen (HC.out.below B12.out)).mono ?_
  rintro e w8 ⟨A6, n6, c6, wk6, cp6, gs6, A7, n7, c7, wk7, cp7, gs7, hG6, hG7, rfl, hb⟩
  have sz13 := hb.size
  have B13 := Lib.hid (below_chain B12.out hb)
  have G1_13 := Lib.hid (G1_12.out.below hb)
  have G2_13 := Lib.hid (G2_12.out.below hb)
  have G3_13 := Lib.hid (G3_12.out.below hb)
  have X4_13 := Lib.hid (X4_12.out.below hb)
  have X5_13 := Lib.hid (X5_12.out.below hb)
  have x3_13 := Lib.hid (x3_12.out.below hb)
  have x5_13 := Lib.hid (x5_12.out.below hb)
  have x8_13 := Lib.hid (x8_12.out.below hb)
  have x10_13 := Lib.hid (x10_12.out.below hb)
  have x12_13 := Lib.hid (x12_12.out.below hb)
  clear hb B12 G1_12 G2_12 G3_12 X4_12 X5_12 x3_12 x5_12 x8_12 x10_12 x12_12
  have le6 := hG6.le
  have L6 := Lib.hid hG6.len
  have ou6 : ∀ x ∈ gs6, x.2.2.2.length ≤ 1048576 := fun x hx => Nat.le_trans (hG6.outs x hx) (by omega)
  have lm6 : n6 ≤ 1048576 := by omega
  have G6_13 := Lib.hid hG6
  clear hG6
  have le7 := hG7.le
  have L7 := Lib.hid hG7.len
  have ou7 : ∀ x ∈ gs7, x.2.2.2.length ≤ 1048576 := fun x hx => Nat.le_trans (hG7.outs x hx) (by omega)
  have lm7 : n7 ≤ 1048576 := by omega
  have G7_13 := Lib.hid hG7
  clear hG7
  obtain ⟨r1, hr1⟩ : ∃ r, reachG gs2 wk2 cp2 f t = r := ⟨_, rfl⟩
  obtain ⟨r3, hr3⟩ : ∃ r, sameG gs6 gs7 wk6 cp6 wk7 cp7 = r := ⟨_, rfl⟩
  have R1 := Lib.hid hr1
  have R3 := Lib.hid hr3
  clear hr1 hr3
  have nr1 : (r1 != r1) = false := by simp
  have nr3 : (r3 != r3) = false := by simp
  obtain ⟨V8, hW⟩ : ∃ z, ((w8.alloc (.cells #[.slice A6 n6 c6, .int .i64 wk6, .int .i64 cp6] 26)).alloc (.cells #[.slice A7 n7 c7, .int .i64 wk7, .int .i64 cp7] 26)) = z := ⟨_, rfl⟩
  have hb : Below w8.heap.size w8 V8 := by rw [← hW]; exact (((Below.refl _ _).alloc (by first | (simp; done) | (simp; omega) | omega) _).alloc (by first | (simp; done) | (simp; omega) | omega) _)
  have az : V8.heap.size = w8.heap.size + 2 := by rw [← hW]; simp
  have Nx14 := Lib.hid (show Blk V8 (w8.heap.size) 26 #[.slice A6 n6 c6, .int .i64 wk6, .int .i64 cp6] by rw [← hW]; exact ((Below.heap_alloc _ _ _ (by first | (simp; done) | (simp; omega))).trans (Blk.new _ _ _)))
  have Nx15 := Lib.hid (show Blk V8 (w8.heap.size + 1) 26 #[.slice A7 n7 c7, .int .i64 wk7, .int .i64 cp7] by rw [← hW]; exact ((show w8.heap.size + 1 = ((w8.alloc _)).heap.size by simp) ▸ Blk.new _ _ _))
  have AZV8 := Lib.hid az
  clear az
  have sz14 := hb.size
  have B14 := Lib.hid (below_chain B13.out hb)
  have G1_14 := Lib.hid (G1_13.out.below hb)
  have G2_14 := Lib.hid (G2_13.out.below hb)
  have G3_14 := Lib.hid (G3_13.out.below hb)
  have X4_14 := Lib.hid (X4_13.out.below hb)
  have X5_14 := Lib.hid (X5_13.out.below hb)
  have G6_14 := Lib.hid (G6_13.out.below hb)
  have G7_14 := Lib.hid (G7_13.out.below hb)
  have x3_14 := Lib.hid (x3_13.out.below hb)
  have x5_14 := Lib.hid (x5_13.out.below hb)
  have x8_14 := Lib.hid (x8_13.out.below hb)
  have x10_14 := Lib.hid (x10_13.out.below hb)
  have x12_14 := Lib.hid (x12_13.out.below hb)
  clear hb B13 G1_13 G2_13 G3_13 X4_13 X5_13 G6_13 G7_13 x3_13 x5_13 x8_13 x10_13 x12_13
  have x14_14 := Nx14
  clear Nx14
  have ltx14 : w8.heap.size < V8.heap.size := x14_14.out.lt
  have x15_14 := Nx15
  clear Nx15
  have ltx15 : w8.heap.size + 1 < V8.heap.size := x15_14.out.lt
  obtain ⟨lo4, hi4, hX4⟩ : ∃ lo hi, Row V8 lo hi 3 1 A4 mz c4 (isCells zs) := ⟨_, _, X4_14.out⟩
  obtain ⟨lo5, hi5, hX5⟩ : ∃ lo hi, Row V8 lo hi 3 1 A5 mz c5 (isCells zs) := ⟨_, _, X5_14.out⟩
  go_upto_region 12 with fail
  clear hW
  have k0 : V8.cell? ⟨w4.heap.size, 0, none⟩ = some (.slice A2 n2 c2) := by rw [x5_14.out.cell]; rfl
  have k1 : V8.cell? ⟨w4.heap.size, 1, none⟩ = some (.int .i64 wk2) := by rw [x5_14.out.cell]; rfl
  have k2 : V8.cell? ⟨w4.heap.size, 2, none⟩ = some (.int .i64 cp2) := by rw [x5_14.out.cell]; rfl
  have k3 : V8.cell? ⟨w6.heap.size, 0, none⟩ = some (.int .i64 k) := by rw [x10_14.out.cell]; rfl
  have k4 : V8.cell? ⟨w6.heap.size, 1, none⟩ = some (.int .i64 a) := by rw [x10_14.out.cell]; rfl
  have k5 : V8.cell? ⟨w6.heap.size, 2, none⟩ = some (.int .i64 b) := by rw [x10_14.out.cell]; rfl
  have k6 : V8.cell? ⟨w6.heap.size, 3, none⟩ = some (.slice A4 mz c4) := by rw [x10_14.out.cell]; rfl
  have k7 : V8.cell? ⟨w7.heap.size, 0, none⟩ = some (.int .i64 k) := by rw [x12_14.out.cell]; rfl
  have k8 : V8.cell? ⟨w7.heap.size, 1, none⟩ = some (.int .i64 a) := by rw [x12_14.out.cell]; rfl
  have k9 : V8.cell? ⟨w7.heap.size, 2, none⟩ = some (.int .i64 b) := by rw [x12_14.out.cell]; rfl
  have k10 : V8.cell? ⟨w7.heap.size, 3, none⟩ = some (.slice A5 mz c5) := by rw [x12_14.out.cell]; rfl
  have k11 : V8.cell? ⟨w8.heap.size, 0, none⟩ = some (.slice A6 n6 c6) := by rw [x14_14.out.cell]; rfl
  have k12 : V8.cell? ⟨w8.heap.size, 1, none⟩ = some (.int .i64 wk6) := by rw [x14_14.out.cell]; rfl
  have k13 : V8.cell? ⟨w8.heap.size, 2, none⟩ = some (.int .i64 cp6) := by rw [x14_14.out.cell]; rfl
  have k14 : V8.cell? ⟨w8.heap.size + 1, 0, none⟩ = some (.slice A7 n7 c7) := by rw [x15_14.out.cell]; rfl
  have k15 : V8.cell? ⟨w8.heap.size + 1, 1, none⟩ = some (.int .i64 wk7) := by rw [x15_14.out.cell]; rfl
  have k16 : V8.cell? ⟨w8.heap.size + 1, 2, none⟩ = some (.int .i64 cp7) := by rw [x15_14.out.cell]; rfl
  have kf0 := G2_14.out.nds
  have kf1 := G6_14.out.nds
  have kf2 := G7_14.out.nds
  have kf3 := hX4
  have kf4 := hX5
  have kb := Below.refl V8.heap.size V8
  go_cut [102] (fun t wx => t = .bool false ∧ Below V8.heap.size V8 wx)
  case first =>
    go_region_held3 (fun w' => w'.cell? ⟨w4.heap.size, 0, none⟩ = some (.slice A2 n2 c2) ∧ w'.cell? ⟨w4.heap.size, 1, none⟩ = some (.int .i64 wk2) ∧ w'.cell? ⟨w4.heap.size, 2, none⟩ = some (.int .i64 cp2) ∧ w'.cell? ⟨w6.heap.size, 0, none⟩ = some (.int .i64 k) ∧ w'.cell? ⟨w6.heap.size, 1, none⟩ = some (.int .i64 a) ∧ w'.cell? ⟨w6.heap.size, 2, none⟩ = some (.int .i64 b) ∧ w'.cell? ⟨w6.heap.size, 3, none⟩ = some (.slice A4 mz c4) ∧ w'.cell? ⟨w7.heap.size, 0, none⟩ = some (.int .i64 k) ∧ w'.cell? ⟨w7.heap.size, 1, none⟩ = some (.int .i64 a) ∧ w'.cell? ⟨w7.heap.size, 2, none⟩ = some (.int .i64 b) ∧ w'.cell? ⟨w7.heap.size, 3, none⟩ = some (.slice A5 mz c5) ∧ w'.cell? ⟨w8.heap.size, 0, none⟩ = some (.slice A6 n6 c6) ∧ w'.cell? ⟨w8.heap.size, 1, none⟩ = some (.int .i64 wk6) ∧ w'.cell? ⟨w8.heap.size, 2, none⟩ = some (.int .i64 cp6) ∧ w'.cell? ⟨w8.heap.size + 1, 0, none⟩ = some (.slice A7 n7 c7) ∧ w'.cell? ⟨w8.heap.size + 1, 1, none⟩ = some (.int .i64 wk7) ∧ w'.cell? ⟨w8.heap.size + 1, 2, none⟩ = some (.int .i64 cp7) ∧ Nds w' A2 gs2 ∧ Nds w' A6 gs6 ∧ Nds w' A7 gs7 ∧ Row w' lo4 hi4 3 1 A4 mz c4 (isCells zs) ∧ Row w' lo5 hi5 3 1 A5 mz c5 (isCells zs) ∧ Below V8.heap.size V8 w')
      (((try go_split_ands); refine ⟨?_, ?_, ?_, ?_, ?_, ?_, ?_, ?_, ?_, ?_, ?_, ?_, ?_, ?_, ?_, ?_, ?_, ?_, ?_, ?_, ?_, ?_, ?_⟩ <;> (repeat (first | with_reducible assumption | with_reducible refine drew_keep ?_ | with_reducible refine below_keep hbd ?_ | with_reducible refine nds_drew ?_ | with_reducible refine Nds.below ?_ hbd | with_reducible refine row_drew ?_ | with_reducible refine Row.below ?_ hbd | with_reducible refine Below.drew ?_ | with_reducible refine below_chain ?_ hbd))))
      (first | (go_at_call 24; (try go_split_ands); (with_reducible refine (implReach_is R1.out L2.out ou2 lm2 A2 c2 _ (by assumption)).mono ?_); rintro e w5 ⟨rfl, hbd⟩) | (go_at_call 25; (try go_split_ands); (with_reducible refine (specReach_is R1.out L2.out ou2 lm2 A2 c2 _ (by assumption)).mono ?_); rintro e w5 ⟨rfl, hbd⟩) | (go_at_call 26; (try go_split_ands); (with_reducible refine (lawNd_row (lo1 := lo4) (hi1 := hi4) (lo2 := lo5) (hi2 := hi5) k a b (by assumption) (by assumption) (by omega)).mono ?_); rintro e w5 ⟨rfl, hbd⟩) | (go_at_call 27; (try go_split_ands); (with_reducible refine (implSameG_is L6.out L7.out ou6 R3.out A6 A7 c6 c7 _ (by assumption) (by assumption) lm6).mono ?_); rintro e w5 ⟨rfl, hbd⟩) | (go_at_call 28; (try go_split_ands); (with_reducible refine (lawSameG_is L6.out L7.out ou6 R3.out A6 A7 c6 c7 _ (by assumption) (by assumption) lm6).mono ?_); rintro e w5 ⟨rfl, hbd⟩))
    all_goals (
      go_wp2_with fail
      go_meet
      refine ⟨rfl, ?_⟩
      (try go_split_ands)
      assumption)
  case rest =>
  obtain ⟨rfl, hb⟩ := hcut
  clear kb k0 k1 k2 k3 k4 k5 k6 k7 k8 k9 k10 k11 k12 k13 k14 k15 k16 kf0 kf1 kf2 kf3 kf4
  obtain ⟨w9, hwc⟩ : ∃ z, z = wc := ⟨_, rfl⟩
  subst hwc
  have sz15 := hb.size
  have B15 := Lib.hid (below_chain B14.out hb)
  have G1_15 := Lib.hid (G1_14.out.below hb)
  have G2_15 := Lib.hid (G2_14.out.below hb)
  have G3_15 := Lib.hid (G3_14.out.below hb)
  have X4_15 := Lib.hid (X4_14.out.below hb)
  have X5_15 := Lib.hid (X5_14.out.below hb)
  have G6_15 := Lib.hid (G6_14.out.below hb)
  have G7_15 := Lib.hid (G7_14.out.below hb)
  have x3_15 := Lib.hid (x3_14.out.below hb)
  have x5_15 := Lib.hid (x5_14.out.below hb)
  have x8_15 := Lib.hid (x8_14.out.below hb)
  have x10_15 := Lib.hid (x10_14.out.below hb)
  have x12_15 := Lib.hid (x12_14.out.below hb)
  have x14_15 := Lib.hid (x14_14.out.below hb)
  have x15_15 := Lib.hid (x15_14.out.below hb)
  clear hb B14 G1_14 G2_14 G3_14 X4_14 X5_14 G6_14 G7_14 x3_14 x5_14 x8_14 x10_14 x12_14 x14_14 x15_14
  clear hX4 hX5
  clear X4_15
  clear X5_15
  clear G2_15
  clear G3_15
  clear G6_15
  clear G7_15
  clear x5_15
  clear x8_15
  clear x10_15
  clear x12_15
  clear x14_15
  clear x15_15
  clear HX HM HQ R1 R3 nr1 nr3 nq
  clear US UM nok nlp LP hmn
  go_upto_region 14 with fail
  exact rest w w9 _ A1 n1 c1 wk1 cp1 gs1 ok _ _ _ _ _ _ _ _ _ _ _ _ _ _ _ _ _ _ _ _ _ _ _ _ _ _ _ _ _ _ _ _ _ _ _ _ _ _ _ _ _ _ _ _ _ _ _ _ _ _ _ _ _ _ _ _ _ _ _ _ _ _ _ _ _ _ _ _ _ _ _ _ _ _ _ _ _ _ _ _ _ _ _ _ _ _ _ _ _ _ _ _ _ _ _ _ _ _ _ _ _ _ _ _ _ _ _ _ _ _ _ _ _ _ _ _ _ _ _ _ _ _ _ _ _ _ _ _ _ _ _ _ _ _ _ _ _ _ _ _ _ _ _ _ _ _ _ _ _ _ _ _ _ _ _ _ _ _ _ _ _ _ _ _ _ _ _ _ _ _ _ _ _ _ _ _ _ _ _ _ _ _ _ _ _ _ _ _ _ _ _ _ _ _ _ _ _ _ _ _ le1 L1.out ou1 OK.out G1_15.out x3_15.out B15.out rfl (by assumption)
end Go.Proofs.Ytjplkoglibagkaa.fnGraphs

