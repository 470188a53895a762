/-
  The walk of FnFrontiers.
-/
import Derived.Test.YtjnmpcfclkahlaaLst
import Derived.Deep.RegionHeld3
import Derived.Deep.DeepCutAuto
namespace Go.Proofs.Ytjnmpcfclkahlaa.fnFrontiers
open Go.RowKit Go.Proofs.Ytjnmpcfclkahlaa.hexes

set_option maxRecDepth 100000 in
set_option maxHeartbeats 4000000 in
theorem walk (a0 : Option Addr) (len0 cap0 : Nat) (z0 : List Int) (w : World) (w0 : IsRow .u8 w a0 len0 cap0 z0) :
    Calls Try.prog 3 #[.slice a0 len0 cap0] w fun e w' => e = .returned (.bool true) ∧ Below w.heap.size w w' := by
  have hcame := came_of_row w0
  have HG := Lib.hid (fun W => big_any a0 len0 cap0 W)
  by_cases h1 : 1048576 < len0
  · have hd : decide (1048576 < (len0 : Int)) = true := by simp; omega
    clear hcame w0
    go_enter Try.func3, Try.ntmps3
    go_wp2_with (go_at_call 12; refine (HG.out _).mono ?_; rintro e w1 ⟨rfl, rfl⟩)
    go_ret
    exact ⟨rfl, Below.refl _ _⟩
  have hd : decide (1048576 < (len0 : Int)) = false := by simp; omega
  have HC := Lib.hid hcame
  clear hcame w0
  go_enter Try.func3, Try.ntmps3
  go_wp2_with (go_at_call 12; refine (HG.out _).mono ?_; rintro e w1 ⟨rfl, rfl⟩)
  refine (drawMerge_any _ a0 len0 cap0 (by omega) HC.out).mono ?_
  rintro e w1 ⟨A1, n1, c1, zs, A1_, n1_, c1_, ys, rfl, d1, d1_, b1⟩
  have B1 := Lib.hid (b1)
  clear b1
  have hf1 := d1.few
  have hf1_ := d1_.few
  have hl1 := Lib.hid d1.len
  have hl1_ := Lib.hid d1_.len
  have L1 := d1.lst
  have L1_ := d1_.lst
  clear d1 d1_
  have La_1 := Lib.hid L1
  clear L1
  have Lb_1 := Lib.hid L1_
  clear L1_
  obtain ⟨us, hus⟩ : ∃ us, us = minL (zs ++ ys) := ⟨_, rfl⟩
  obtain ⟨ms, hms⟩ : ∃ ms, ms = minL zs := ⟨_, rfl⟩
  obtain ⟨f1, hf1_⟩ : ∃ f1, f1 = okFrontL zs := ⟨_, rfl⟩
  obtain ⟨f2, hf2_⟩ : ∃ f2, f2 = frontLeqL zs ys := ⟨_, rfl⟩
  have hla : frontLeqL us zs = true := by rw [hus]; exact leq_min fun z hz => List.mem_append_left _ hz
  have hlb : frontLeqL us ys = true := by rw [hus]; exact leq_min fun z hz => List.mem_append_right _ hz
  have hmm : minL ms = ms := by rw [hms]; exact minL_minL zs
  have U := Lib.hid hus
  have M := Lib.hid hms
  have F1 := Lib.hid hf1_
  have F2 := Lib.hid hf2_
  have HLA := Lib.hid hla
  have HLB := Lib.hid hlb
  have HMM := Lib.hid hmm
  clear hus hms hf1_ hf2_ hla hlb hmm
  have r1 : (f1 != f1) = false := by simp
  have r2 : (f2 != f2) = false := by simp
  go_wp2_with fail
  refine (implMerge_lst La_1.out Lb_1.out U.out.symm (by omega)).mono ?_
  rintro e w2 ⟨A2, n2, c2, rfl, L2, b2⟩
  have B2 := Lib.hid (below_chain B1.out b2)
  have La_2 := Lib.hid (La_1.out.below b2)
  clear La_1
  have Lb_2 := Lib.hid (Lb_1.out.below b2)
  clear Lb_1
  clear b2 B1
  have Lm_2 := Lib.hid L2
  clear L2
  go_wp2_with fail
  refine (implMin_lst La_2.out M.out.symm).mono ?_
  rintro e w3 ⟨A3, n3, c3, rfl, L3, b3⟩
  have B3 := Lib.hid (below_chain B2.out b3)
  have La_3 := Lib.hid (La_2.out.below b3)
  clear La_2
  have Lb_3 := Lib.hid (Lb_2.out.below b3)
  clear Lb_2
  have Lm_3 := Lib.hid (Lm_2.out.below b3)
  clear Lm_2
  clear b3 B2
  have Lx_3 := Lib.hid L3
  clear L3
  go_wp2_with fail
  refine (specMerge_lst La_3.out Lb_3.out U.out.symm (by omega)).mono ?_
  rintro e w4 ⟨A4, n4, c4, rfl, L4, b4⟩
  have B4 := Lib.hid (below_chain B3.out b4)
  have La_4 := Lib.hid (La_3.out.below b4)
  clear La_3
  have Lb_4 := Lib.hid (Lb_3.out.below b4)
  clear Lb_3
  have Lm_4 := Lib.hid (Lm_3.out.below b4)
  clear Lm_3
  have Lx_4 := Lib.hid (Lx_3.out.below b4)
  clear Lx_3
  clear b4 B3
  have Lt_4 := Lib.hid L4
  clear L4
  go_wp2_with fail
  refine (same_lst (b := true) Lm_4.out Lt_4.out (by simp)).mono ?_
  rintro e w5 ⟨rfl, b5⟩
  have B5 := Lib.hid (below_chain B4.out b5)
  have La_5 := Lib.hid (La_4.out.below b5)
  clear La_4
  have Lb_5 := Lib.hid (Lb_4.out.below b5)
  clear Lb_4
  have Lm_5 := Lib.hid (Lm_4.out.below b5)
  clear Lm_4
  have Lx_5 := Lib.hid (Lx_4.out.below b5)
  clear Lx_4
  have Lt_5 := Lib.hid (Lt_4.out.below b5)
  clear Lt_4
  clear b5 B4
  clear Lt_5
  go_wp2_with fail
  refine (specMin_lst La_5.out M.out.symm).mono ?_
  rintro e w6 ⟨A6, n6, c6, rfl, L6, b6⟩
  have B6 := Lib.hid (below_chain B5.out b6)
  have La_6 := Lib.hid (La_5.out.below b6)
  clear La_5
  have Lb_6 := Lib.hid (Lb_5.out.below b6)
  clear Lb_5
  have Lm_6 := Lib.hid (Lm_5.out.below b6)
  clear Lm_5
  have Lx_6 := Lib.hid (Lx_5.out.below b6)
  clear Lx_5
  clear b6 B5
  have Lt_6 := Lib.hid L6
  clear L6
  go_wp2_with fail
  refine (same_lst (b := true) Lx_6.out Lt_6.out (by simp)).mono ?_
  rintro e w7 ⟨rfl, b7⟩
  have B7 := Lib.hid (below_chain B6.out b7)
  have La_7 := Lib.hid (La_6.out.below b7)
  clear La_6
  have Lb_7 := Lib.hid (Lb_6.out.below b7)
  clear Lb_6
  have Lm_7 := Lib.hid (Lm_6.out.below b7)
  clear Lm_6
  have Lx_7 := Lib.hid (Lx_6.out.below b7)
  clear Lx_6
  have Lt_7 := Lib.hid (Lt_6.out.below b7)
  clear Lt_6
  clear b7 B6
  clear Lt_7
  go_wp2_with fail
  refine (implFOk_lst La_7.out F1.out.symm).mono ?_
  rintro e w8 ⟨rfl, b8⟩
  have B8 := Lib.hid (below_chain B7.out b8)
  have La_8 := Lib.hid (La_7.out.below b8)
  clear La_7
  have Lb_8 := Lib.hid (Lb_7.out.below b8)
  clear Lb_7
  have Lm_8 := Lib.hid (Lm_7.out.below b8)
  clear Lm_7
  have Lx_8 := Lib.hid (Lx_7.out.below b8)
  clear Lx_7
  clear b8 B7
  go_wp2_with fail
  refine (specFOk_lst La_8.out F1.out.symm).mono ?_
  rintro e w9 ⟨rfl, b9⟩
  have B9 := Lib.hid (below_chain B8.out b9)
  have La_9 := Lib.hid (La_8.out.below b9)
  clear La_8
  have Lb_9 := Lib.hid (Lb_8.out.below b9)
  clear Lb_8
  have Lm_9 := Lib.hid (Lm_8.out.below b9)
  clear Lm_8
  have Lx_9 := Lib.hid (Lx_8.out.below b9)
  clear Lx_8
  clear b9 B8
  go_wp2_with fail
  refine (implLeq_lst La_9.out Lb_9.out F2.out.symm).mono ?_
  rintro e w10 ⟨rfl, b10⟩
  have B10 := Lib.hid (below_chain B9.out b10)
  have La_10 := Lib.hid (La_9.out.below b10)
  clear La_9
  have Lb_10 := Lib.hid (Lb_9.out.below b10)
  clear Lb_9
  have Lm_10 := Lib.hid (Lm_9.out.below b10)
  clear Lm_9
  have Lx_10 := Lib.hid (Lx_9.out.below b10)
  clear Lx_9
  clear b10 B9
  go_wp2_with fail
  refine (specLeq_lst La_10.out Lb_10.out F2.out.symm).mono ?_
  rintro e w11 ⟨rfl, b11⟩
  have B11 := Lib.hid (below_chain B10.out b11)
  have La_11 := Lib.hid (La_10.out.below b11)
  clear La_10
  have Lb_11 := Lib.hid (Lb_10.out.below b11)
  clear Lb_10
  have Lm_11 := Lib.hid (Lm_10.out.below b11)
  clear Lm_10
  have Lx_11 := Lib.hid (Lx_10.out.below b11)
  clear Lx_10
  clear b11 B10
  go_wp2_with fail
  refine (drawAhead_any _ a0 len0 cap0 (by omega) (HC.out.below B11.out)).mono ?_
  rintro e w12 ⟨A12, n12, c12, ls, sx, sy, rfl, d12, b12⟩
  have B12 := Lib.hid (below_chain B11.out b12)
  have La_12 := Lib.hid (La_11.out.below b12)
  clear La_11
  have Lb_12 := Lib.hid (Lb_11.out.below b12)
  clear Lb_11
  have Lm_12 := Lib.hid (Lm_11.out.below b12)
  clear Lm_11
  have Lx_12 := Lib.hid (Lx_11.out.below b12)
  clear Lx_11
  clear b12 B11
  have L12 := d12.lst
  clear d12
  have Ll_12 := Lib.hid L12
  clear L12
  obtain ⟨f3, hf3⟩ : ∃ f3, f3 = aheadL ls sx sy := ⟨_, rfl⟩
  have F3 := Lib.hid hf3
  clear hf3
  have r3 : (f3 != f3) = false := by simp
  go_upto_region 9 with fail
  generalize hW : w12.alloc _ = W
  have bW : Below w12.heap.size w12 W := by rw [← hW]; exact (Below.refl _ _).alloc (Nat.le_refl _) _
  have k0 : W.cell? ⟨w12.heap.size, 0, none⟩ = some (.int .i64 sx) := by rw [← hW]; simp
  have k1 : W.cell? ⟨w12.heap.size, 1, none⟩ = some (.int .i64 sy) := by rw [← hW]; simp
  clear hW
  have b13 := bW
  clear bW
  have B13 := Lib.hid (below_chain B12.out b13)
  have La_13 := Lib.hid (La_12.out.below b13)
  clear La_12
  have Lb_13 := Lib.hid (Lb_12.out.below b13)
  clear Lb_12
  have Lm_13 := Lib.hid (Lm_12.out.below b13)
  clear Lm_12
  have Lx_13 := Lib.hid (Lx_12.out.below b13)
  clear Lx_12
  have Ll_13 := Lib.hid (Ll_12.out.below b13)
  clear Ll_12
  clear b13 B12
  have k2 := Ll_13.out
  go_cut [75] (fun t wx => t = .bool false ∧ Below W.heap.size W wx)
  case first =>
    have k3 := Below.refl W.heap.size W
    go_region_held3 (fun w' => w'.cell? ⟨w12.heap.size, 0, none⟩ = some (.int .i64 sx) ∧ w'.cell? ⟨w12.heap.size, 1, none⟩ = some (.int .i64 sy) ∧ Lst w' A12 n12 c12 ls ∧ Below W.heap.size W w')
      (((try go_split_ands); refine ⟨?_, ?_, ?_, ?_⟩ <;> (repeat (first | with_reducible assumption | with_reducible refine drew_keep ?_ | with_reducible refine below_keep hbd ?_ | with_reducible refine lst_drew ?_ | with_reducible refine Lst.below ?_ hbd | with_reducible refine Below.drew ?_ | with_reducible refine below_chain ?_ hbd))))
      (first | (go_at_call 24; (try go_split_ands); (first | ((with_reducible refine (implAhead_lst (zs := ls) (by assumption) F3.out.symm).mono ?_); rintro e w5 ⟨rfl, hbd⟩) | ((with_reducible refine (implAhead_lst (zs := minL ls) lmin ((ahead_min ls sx sy).trans F3.out.symm)).mono ?_); rintro e w5 ⟨rfl, hbd⟩))) | (go_at_call 25; (try go_split_ands); (with_reducible refine (specAhead_lst (zs := ls) (by assumption) F3.out.symm).mono ?_); rintro e w5 ⟨rfl, hbd⟩) | (go_at_call 15; (try go_split_ands); (with_reducible refine (implMin_lst (zs := ls) (by assumption) rfl).mono ?_); rintro e w5 ⟨Am, nm, cm, rfl, lmin, hbd⟩))
    all_goals (
      go_wp2_with fail
      go_meet
      refine ⟨rfl, ?_⟩
      (try go_split_ands)
      assumption)
  case rest =>
  clear Ll_13
  obtain ⟨rfl, hb⟩ := hcut
  clear k0 k1 k2
  have b14 := hb
  clear hb
  have B14 := Lib.hid (below_chain B13.out b14)
  have La_14 := Lib.hid (La_13.out.below b14)
  clear La_13
  have Lb_14 := Lib.hid (Lb_13.out.below b14)
  clear Lb_13
  have Lm_14 := Lib.hid (Lm_13.out.below b14)
  clear Lm_13
  have Lx_14 := Lib.hid (Lx_13.out.below b14)
  clear Lx_13
  clear b14 B13
  go_wp2_with fail
  refine (drawOver_any _ a0 len0 cap0 (by omega) (HC.out.below B14.out)).mono ?_
  rintro e w15 ⟨A15, n15, c15, fs, ex, rfl, d15, b15⟩
  have B15 := Lib.hid (below_chain B14.out b15)
  have La_15 := Lib.hid (La_14.out.below b15)
  clear La_14
  have Lb_15 := Lib.hid (Lb_14.out.below b15)
  clear Lb_14
  have Lm_15 := Lib.hid (Lm_14.out.below b15)
  clear Lm_14
  have Lx_15 := Lib.hid (Lx_14.out.below b15)
  clear Lx_14
  clear b15 B14
  have L15 := d15.lst
  clear d15
  have Lf_15 := Lib.hid L15
  clear L15
  go_wp2_with fail
  refine (drawSame_any _ a0 len0 cap0 (by omega) (HC.out.below B15.out)).mono ?_
  rintro e w16 ⟨A16, n16, c16, cs, A16_, n16_, c16_, ds, rfl, d16, d16_, b16⟩
  have B16 := Lib.hid (below_chain B15.out b16)
  have La_16 := Lib.hid (La_15.out.below b16)
  clear La_15
  have Lb_16 := Lib.hid (Lb_15.out.below b16)
  clear Lb_15
  have Lm_16 := Lib.hid (Lm_15.out.below b16)
  clear Lm_15
  have Lx_16 := Lib.hid (Lx_15.out.below b16)
  clear Lx_15
  have Lf_16 := Lib.hid (Lf_15.out.below b16)
  clear Lf_15
  clear b16 B15
  have hf16 := d16.few
  have hf16_ := d16_.few
  have hl16 := Lib.hid d16.len
  have hl16_ := Lib.hid d16_.len
  have L16 := d16.lst
  have L16_ := d16_.lst
  clear d16 d16_
  have Lc_16 := Lib.hid L16
  clear L16
  have Ld_16 := Lib.hid L16_
  clear L16_
  obtain ⟨f4, hf4⟩ : ∃ f4, f4 = overL fs ex := ⟨_, rfl⟩
  obtain ⟨f5, hf5⟩ : ∃ f5, f5 = decide (cs = ds) := ⟨_, rfl⟩
  have F4 := Lib.hid hf4
  have F5 := Lib.hid hf5
  clear hf4 hf5
  have r4 : (f4 == f4) = true := by simp
  have r5 : (f5 == f5) = true := by simp
  go_wp2_with fail
  refine (implLeq_lst Lm_16.out La_16.out HLA.out).mono ?_
  rintro e w17 ⟨rfl, b17⟩
  have B17 := Lib.hid (below_chain B16.out b17)
  have La_17 := Lib.hid (La_16.out.below b17)
  clear La_16
  have Lb_17 := Lib.hid (Lb_16.out.below b17)
  clear Lb_16
  have Lm_17 := Lib.hid (Lm_16.out.below b17)
  clear Lm_16
  have Lx_17 := Lib.hid (Lx_16.out.below b17)
  clear Lx_16
  have Lf_17 := Lib.hid (Lf_16.out.below b17)
  clear Lf_16
  have Lc_17 := Lib.hid (Lc_16.out.below b17)
  clear Lc_16
  have Ld_17 := Lib.hid (Ld_16.out.below b17)
  clear Ld_16
  clear b17 B16
  go_wp2_with fail
  refine (implLeq_lst Lm_17.out Lb_17.out HLB.out).mono ?_
  rintro e w18 ⟨rfl, b18⟩
  have B18 := Lib.hid (below_chain B17.out b18)
  have La_18 := Lib.hid (La_17.out.below b18)
  clear La_17
  have Lb_18 := Lib.hid (Lb_17.out.below b18)
  clear Lb_17
  have Lm_18 := Lib.hid (Lm_17.out.below b18)
  clear Lm_17
  have Lx_18 := Lib.hid (Lx_17.out.below b18)
  clear Lx_17
  have Lf_18 := Lib.hid (Lf_17.out.below b18)
  clear Lf_17
  have Lc_18 := Lib.hid (Lc_17.out.below b18)
  clear Lc_17
  have Ld_18 := Lib.hid (Ld_17.out.below b18)
  clear Ld_17
  clear b18 B17
  clear Lm_18 La_18 Lb_18
  go_wp2_with fail
  refine (implMin_lst Lx_18.out HMM.out).mono ?_
  rintro e w19 ⟨A19, n19, c19, rfl, L19, b19⟩
  have B19 := Lib.hid (below_chain B18.out b19)
  have Lx_19 := Lib.hid (Lx_18.out.below b19)
  clear Lx_18
  have Lf_19 := Lib.hid (Lf_18.out.below b19)
  clear Lf_18
  have Lc_19 := Lib.hid (Lc_18.out.below b19)
  clear Lc_18
  have Ld_19 := Lib.hid (Ld_18.out.below b19)
  clear Ld_18
  clear b19 B18
  have Lt_19 := Lib.hid L19
  clear L19
  go_wp2_with fail
  refine (same_lst (b := true) Lt_19.out Lx_19.out (by simp)).mono ?_
  rintro e w20 ⟨rfl, b20⟩
  have B20 := Lib.hid (below_chain B19.out b20)
  have Lx_20 := Lib.hid (Lx_19.out.below b20)
  clear Lx_19
  have Lf_20 := Lib.hid (Lf_19.out.below b20)
  clear Lf_19
  have Lc_20 := Lib.hid (Lc_19.out.below b20)
  clear Lc_19
  have Ld_20 := Lib.hid (Ld_19.out.below b20)
  clear Ld_19
  have Lt_20 := Lib.hid (Lt_19.out.below b20)
  clear Lt_19
  clear b20 B19
  clear Lt_20 Lx_20
  go_wp2_with fail
  refine (implOver_lst Lf_20.out F4.out.symm).mono ?_
  rintro e w21 ⟨rfl, b21⟩
  have B21 := Lib.hid (below_chain B20.out b21)
  have Lf_21 := Lib.hid (Lf_20.out.below b21)
  clear Lf_20
  have Lc_21 := Lib.hid (Lc_20.out.below b21)
  clear Lc_20
  have Ld_21 := Lib.hid (Ld_20.out.below b21)
  clear Ld_20
  clear b21 B20
  go_wp2_with fail
  refine (specOver_lst Lf_21.out F4.out.symm).mono ?_
  rintro e w22 ⟨rfl, b22⟩
  have B22 := Lib.hid (below_chain B21.out b22)
  have Lf_22 := Lib.hid (Lf_21.out.below b22)
  clear Lf_21
  have Lc_22 := Lib.hid (Lc_21.out.below b22)
  clear Lc_21
  have Ld_22 := Lib.hid (Ld_21.out.below b22)
  clear Ld_21
  clear b22 B21
  clear Lf_22
  go_wp2_with fail
  refine (implSame_lst Lc_22.out Ld_22.out F5.out.symm).mono ?_
  rintro e w23 ⟨rfl, b23⟩
  have B23 := Lib.hid (below_chain B22.out b23)
  have Lc_23 := Lib.hid (Lc_22.out.below b23)
  clear Lc_22
  have Ld_23 := Lib.hid (Ld_22.out.below b23)
  clear Ld_22
  clear b23 B22
  go_wp2_with fail
  refine (same_lst Lc_23.out Ld_23.out F5.out.symm).mono ?_
  rintro e w24 ⟨rfl, b24⟩
  have B24 := Lib.hid (below_chain B23.out b24)
  have Lc_24 := Lib.hid (Lc_23.out.below b24)
  clear Lc_23
  have Ld_24 := Lib.hid (Ld_23.out.below b24)
  clear Ld_23
  clear b24 B23
  clear Lc_24 Ld_24
  have ba := Below.alloc (Below.refl w24.heap.size w24) (Nat.le_refl _) (.cells #[.int .i64 1, .int .i64 0] 32)
  have Q1 := Lib.hid (lst_new1 w24 1 0)
  have BB := Lib.hid (below_chain B24.out ba)
  clear ba
  go_wp2_with fail
  refine (implOver_lst (b := false) Q1.out (by decide)).mono ?_
  rintro e wy ⟨rfl, by_⟩
  have BY := Lib.hid (below_chain BB.out by_)
  clear by_
  go_wp2_with fail
  refine (implOver_lst (b := true) (lst_nil wy) (by decide)).mono ?_
  rintro e wz ⟨rfl, bw⟩
  have BW := Lib.hid (below_chain BY.out bw)
  clear bw
  go_wp2
  go_ret
  exact ⟨rfl, BW.out⟩
end Go.Proofs.Ytjnmpcfclkahlaa.fnFrontiers
