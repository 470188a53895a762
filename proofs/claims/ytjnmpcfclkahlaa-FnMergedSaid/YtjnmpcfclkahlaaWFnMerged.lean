/-
  The walk of FnMerged.
-/
import Derived.Test.YtjnmpcfclkahlaaLst
import Derived.Deep.RegionHeld3
import Derived.Deep.DeepCutAuto
namespace Go.Proofs.Ytjnmpcfclkahlaa.fnMerged
open Go.RowKit Go.Proofs.Ytjnmpcfclkahlaa.hexes

set_option maxRecDepth 100000 in
set_option maxHeartbeats 4000000 in
theorem walk (a0 : Option Addr) (len0 cap0 : Nat) (z0 : List Int) (w : World) (w0 : IsRow .u8 w a0 len0 cap0 z0) :
    Calls Try.prog 4 #[.slice a0 len0 cap0] w fun e w' => e = .returned (.bool true) ∧ Below w.heap.size w w' := by
  have hcame := came_of_row w0
  have HG := Lib.hid (fun W => big_any a0 len0 cap0 W)
  by_cases h1 : 1048576 < len0
  · have hd : decide (1048576 < (len0 : Int)) = true := by simp; omega
    clear hcame w0
    go_enter Try.func4, Try.ntmps4
    go_wp2_with (go_at_call 12; refine (HG.out _).mono ?_; rintro e w1 ⟨rfl, rfl⟩)
    go_ret
    exact ⟨rfl, Below.refl _ _⟩
  have hd : decide (1048576 < (len0 : Int)) = false := by simp; omega
  have HC := Lib.hid hcame
  clear hcame w0
  go_enter Try.func4, Try.ntmps4
  go_wp2_with (go_at_call 12; refine (HG.out _).mono ?_; rintro e w1 ⟨rfl, rfl⟩)
  refine (drawMerge_any _ a0 len0 cap0 (by omega) HC.out).mono ?_
  rintro e w1 ⟨A1, n1, c1, zs, A1_, n1_, c1_, ys, rfl, d1, d1_, b1⟩
  have B1 := Lib.hid (b1)
  clear b1
  have hf1 := d1.few
  have hf1_ := d1_.few
  have hl1 := Lib.hid d1.len
  have hl1_ := Lib.hid d1_.len
  have L1 := d1.lst
  have L1_ := d1_.lst
  clear d1 d1_
  have La_1 := Lib.hid L1
  clear L1
  have Lb_1 := Lib.hid L1_
  clear L1_
  obtain ⟨us, hus⟩ : ∃ us, us = minL (zs ++ ys) := ⟨_, rfl⟩
  obtain ⟨ms, hms⟩ : ∃ ms, ms = minL zs := ⟨_, rfl⟩
  have hul : us.length ≤ 10 := by rw [hus]; have := minL_length (zs ++ ys); rw [List.length_append] at this; have := hl1.out; have := hl1_.out; omega
  have hmsl : ms.length ≤ 10 := by rw [hms]; have := minL_length zs; have := hl1.out; omega
  have T2 : minL (ms ++ ms) = ms := by rw [hms]; exact minL_twice zs
  have T3 : minL (us ++ zs) = us := by rw [hus]; exact minL_again zs ys
  have U := Lib.hid hus
  have M := Lib.hid hms
  have HT2 := Lib.hid T2
  have HT3 := Lib.hid T3
  clear hus hms T2 T3
  go_wp2_with fail
  refine (implMerge_lst La_1.out Lb_1.out U.out.symm (by omega)).mono ?_
  rintro e w2 ⟨A2, n2, c2, rfl, L2, b2⟩
  have B2 := Lib.hid (below_chain B1.out b2)
  have La_2 := Lib.hid (La_1.out.below b2)
  clear La_1
  have Lb_2 := Lib.hid (Lb_1.out.below b2)
  clear Lb_1
  clear b2 B1
  have Lx_2 := Lib.hid L2
  clear L2
  go_wp2_with fail
  refine (implMin_lst La_2.out M.out.symm).mono ?_
  rintro e w3 ⟨A3, n3, c3, rfl, L3, b3⟩
  have B3 := Lib.hid (below_chain B2.out b3)
  have La_3 := Lib.hid (La_2.out.below b3)
  clear La_2
  have Lb_3 := Lib.hid (Lb_2.out.below b3)
  clear Lb_2
  have Lx_3 := Lib.hid (Lx_2.out.below b3)
  clear Lx_2
  clear b3 B2
  have Lm_3 := Lib.hid L3
  clear L3
  go_wp2_with fail
  refine (implMerge_lst Lb_3.out La_3.out ((minL_comm zs ys).trans U.out.symm) (by omega)).mono ?_
  rintro e w4 ⟨A4, n4, c4, rfl, L4, b4⟩
  have B4 := Lib.hid (below_chain B3.out b4)
  have La_4 := Lib.hid (La_3.out.below b4)
  clear La_3
  have Lb_4 := Lib.hid (Lb_3.out.below b4)
  clear Lb_3
  have Lx_4 := Lib.hid (Lx_3.out.below b4)
  clear Lx_3
  have Lm_4 := Lib.hid (Lm_3.out.below b4)
  clear Lm_3
  clear b4 B3
  have Ly_4 := Lib.hid L4
  clear L4
  go_wp2_with fail
  refine (same_lst (b := true) Lx_4.out Ly_4.out (by simp)).mono ?_
  rintro e w5 ⟨rfl, b5⟩
  have B5 := Lib.hid (below_chain B4.out b5)
  have La_5 := Lib.hid (La_4.out.below b5)
  clear La_4
  have Lb_5 := Lib.hid (Lb_4.out.below b5)
  clear Lb_4
  have Lx_5 := Lib.hid (Lx_4.out.below b5)
  clear Lx_4
  have Lm_5 := Lib.hid (Lm_4.out.below b5)
  clear Lm_4
  have Ly_5 := Lib.hid (Ly_4.out.below b5)
  clear Ly_4
  clear b5 B4
  clear Ly_5
  have hx := Lib.hid (Nat.le_trans (Nat.le_of_eq Lx_5.out.len.symm) hul)
  have hm := Lib.hid (Nat.le_trans (Nat.le_of_eq Lm_5.out.len.symm) hmsl)
  go_wp2_with fail
  refine (implMerge_lst Lm_5.out Lm_5.out HT2.out (by have := hm.out; omega)).mono ?_
  rintro e w6 ⟨A6, n6, c6, rfl, L6, b6⟩
  have B6 := Lib.hid (below_chain B5.out b6)
  have La_6 := Lib.hid (La_5.out.below b6)
  clear La_5
  have Lb_6 := Lib.hid (Lb_5.out.below b6)
  clear Lb_5
  have Lx_6 := Lib.hid (Lx_5.out.below b6)
  clear Lx_5
  have Lm_6 := Lib.hid (Lm_5.out.below b6)
  clear Lm_5
  clear b6 B5
  have Ly_6 := Lib.hid L6
  clear L6
  go_wp2_with fail
  refine (same_lst (b := true) Ly_6.out Lm_6.out (by simp)).mono ?_
  rintro e w7 ⟨rfl, b7⟩
  have B7 := Lib.hid (below_chain B6.out b7)
  have La_7 := Lib.hid (La_6.out.below b7)
  clear La_6
  have Lb_7 := Lib.hid (Lb_6.out.below b7)
  clear Lb_6
  have Lx_7 := Lib.hid (Lx_6.out.below b7)
  clear Lx_6
  have Lm_7 := Lib.hid (Lm_6.out.below b7)
  clear Lm_6
  have Ly_7 := Lib.hid (Ly_6.out.below b7)
  clear Ly_6
  clear b7 B6
  clear Ly_7 Lm_7
  go_wp2_with fail
  refine (implMerge_lst Lx_7.out La_7.out HT3.out (by have := hx.out; omega)).mono ?_
  rintro e w8 ⟨A8, n8, c8, rfl, L8, b8⟩
  have B8 := Lib.hid (below_chain B7.out b8)
  have La_8 := Lib.hid (La_7.out.below b8)
  clear La_7
  have Lb_8 := Lib.hid (Lb_7.out.below b8)
  clear Lb_7
  have Lx_8 := Lib.hid (Lx_7.out.below b8)
  clear Lx_7
  clear b8 B7
  have Ly_8 := Lib.hid L8
  clear L8
  go_wp2_with fail
  refine (same_lst (b := true) Ly_8.out Lx_8.out (by simp)).mono ?_
  rintro e w9 ⟨rfl, b9⟩
  have B9 := Lib.hid (below_chain B8.out b9)
  have La_9 := Lib.hid (La_8.out.below b9)
  clear La_8
  have Lb_9 := Lib.hid (Lb_8.out.below b9)
  clear Lb_8
  have Lx_9 := Lib.hid (Lx_8.out.below b9)
  clear Lx_8
  have Ly_9 := Lib.hid (Ly_8.out.below b9)
  clear Ly_8
  clear b9 B8
  clear Ly_9 Lx_9 La_9 Lb_9
  have ba := Below.alloc (Below.refl w9.heap.size w9) (Nat.le_refl _) (.cells #[.int .i64 1, .int .i64 0] 32)
  have bb := ba.alloc (Nat.le_trans ba.size (Nat.le_refl _)) (.cells #[.int .i64 0, .int .i64 1] 32)
  have q1 := (lst_new1 w9 1 0).below (Below.alloc (Below.refl _ _) (Nat.le_refl _) (.cells #[.int .i64 0, .int .i64 1] 32))
  have q2 := lst_new1_at (w9.alloc (.cells #[.int .i64 1, .int .i64 0] 32)) (w9.heap.size + 1) (by simp) 0 1
  have Q1 := Lib.hid q1
  have Q2 := Lib.hid q2
  have BB := Lib.hid (below_chain B9.out bb)
  clear q1 q2 ba bb
  go_wp2_with fail
  refine (implMerge_lst Q1.out Q2.out minL_pair (by omega)).mono ?_
  rintro e wy ⟨Ay, ny, cy, rfl, ly, by_⟩
  have BY := Lib.hid (below_chain BB.out by_)
  have bz := Below.alloc (Below.refl wy.heap.size wy) (Nat.le_refl _) (.cells #[.int .i64 0, .int .i64 1, .int .i64 1, .int .i64 0] 32)
  have LY := Lib.hid (ly.below bz)
  have LZ := Lib.hid (lst_new2 wy 0 1 1 0)
  have BZ := Lib.hid (below_chain BY.out bz)
  clear ly by_ bz
  go_wp2_with fail
  refine (same_lst (b := true) LY.out LZ.out (by simp)).mono ?_
  rintro e wz ⟨rfl, bw⟩
  have BW := Lib.hid (below_chain BZ.out bw)
  clear bw
  go_wp2
  go_ret
  exact ⟨rfl, BW.out⟩
end Go.Proofs.Ytjnmpcfclkahlaa.fnMerged
