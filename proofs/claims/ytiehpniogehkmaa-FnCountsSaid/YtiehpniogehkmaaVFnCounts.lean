/-
  The walk of FnCounts, given the contracts of the program's functions.
-/
import Derived.Test.YtiehpniogehkmaaTab
import Derived.Test.YtiehpniogehkmaaRegE21
import Derived.Deep.RegionHeld3
import Derived.Deep.DeepCutAuto
namespace Go.Proofs.Ytiehpniogehkmaa.hexes
open Go.RowKit
structure E21S (W : World) (b : Nat) (x y : Int) (A1 : Option Addr) (n1 c1 : Nat) (A2 : Option Addr) (n2 c2 : Nat) (A3 : Option Addr) (n3 c3 : Nat) (A4 : Option Addr) (n4 c4 : Nat) (A5 : Option Addr) (n5 c5 : Nat) (A6 : Option Addr) (n6 c6 : Nat) (zs us ss ga gb : List Ct) (w' : World) : Prop where
  bx : Box w' b x y
  lt : Tab w' A1 n1 c1 zs
  lx : Tab w' A2 n2 c2 us
  lk : Tab w' A3 n3 c3 zs
  ly : Tab w' A4 n4 c4 ss
  la : Tab w' A5 n5 c5 ga
  lb : Tab w' A6 n6 c6 gb
  bel : Below W.heap.size W w'
theorem E21S.drew {W : World} {b : Nat} {x y : Int} {A1 : Option Addr} {n1 c1 : Nat} {A2 : Option Addr} {n2 c2 : Nat} {A3 : Option Addr} {n3 c3 : Nat} {A4 : Option Addr} {n4 c4 : Nat} {A5 : Option Addr} {n5 c5 : Nat} {A6 : Option Addr} {n6 c6 : Nat} {zs us ss ga gb : List Ct} {w' : World} (h : E21S W b x y A1 n1 c1 A2 n2 c2 A3 n3 c3 A4 n4 c4 A5 n5 c5 A6 n6 c6 zs us ss ga gb w') : E21S W b x y A1 n1 c1 A2 n2 c2 A3 n3 c3 A4 n4 c4 A5 n5 c5 A6 n6 c6 zs us ss ga gb w'.drew := ⟨⟨h.bx.c0, h.bx.c1⟩, h.lt.drew, h.lx.drew, h.lk.drew, h.ly.drew, h.la.drew, h.lb.drew, h.bel.drew⟩
theorem E21S.below {W : World} {b : Nat} {x y : Int} {A1 : Option Addr} {n1 c1 : Nat} {A2 : Option Addr} {n2 c2 : Nat} {A3 : Option Addr} {n3 c3 : Nat} {A4 : Option Addr} {n4 c4 : Nat} {A5 : Option Addr} {n5 c5 : Nat} {A6 : Option Addr} {n6 c6 : Nat} {zs us ss ga gb : List Ct} {w' w2 : World} (h : E21S W b x y A1 n1 c1 A2 n2 c2 A3 n3 c3 A4 n4 c4 A5 n5 c5 A6 n6 c6 zs us ss ga gb w') (hb : Below w'.heap.size w' w2) : E21S W b x y A1 n1 c1 A2 n2 c2 A3 n3 c3 A4 n4 c4 A5 n5 c5 A6 n6 c6 zs us ss ga gb w2 := ⟨h.bx.below hb, h.lt.below hb, h.lx.below hb, h.lk.below hb, h.ly.below hb, h.la.below hb, h.lb.below hb, below_chain h.bel hb⟩
end Go.Proofs.Ytiehpniogehkmaa.hexes
namespace Go.Proofs.Ytiehpniogehkmaa.fnCounts
open Go.RowKit Go.Proofs.Ytiehpniogehkmaa.hexes

set_option maxRecDepth 1000000 in
set_option maxHeartbeats 8000000 in
theorem walk_of (I : ImplCt) (a0 : Option Addr) (len0 cap0 : Nat) (z0 : List Int) (w : World) (w0 : IsRow .u8 w a0 len0 cap0 z0) :
    Calls Try.prog 3 #[.slice a0 len0 cap0] w fun e w' => e = .returned (.bool true) ∧ Below w.heap.size w w' := by
  have hcame := came_of_row w0
  have HG := Lib.hid (fun W => big_any a0 len0 cap0 W)
  by_cases h1 : 1048576 < len0
  · have hd : decide (1048576 < (len0 : Int)) = true := by simp; omega
    clear hcame w0
    go_enter Try.func3, Try.ntmps3
    go_wp2_with (go_at_call 11; refine (HG.out _).mono ?_; rintro e w1 ⟨rfl, rfl⟩)
    go_ret
    exact ⟨rfl, Below.refl _ _⟩
  have hd : decide (1048576 < (len0 : Int)) = false := by simp; omega
  have HC := Lib.hid hcame
  clear hcame w0
  go_enter Try.func3, Try.ntmps3
  go_wp2_with (go_at_call 11; refine (HG.out _).mono ?_; rintro e w1 ⟨rfl, rfl⟩)
  refine (drawAdj_any _ a0 len0 cap0 (by omega) HC.out).mono ?_
  rintro e w1 ⟨A1, n1, c1, zs, x, y, nn, rfl, wfn, d1, b1⟩
  have WFN := Lib.hid wfn
  clear wfn
  have B1 := Lib.hid (b1)
  clear b1
  have hf1 := d1.few
  have hl1 := Lib.hid d1.len
  have L1 := d1.tab
  clear d1
  have Lt_1 := Lib.hid L1
  clear L1
  obtain ⟨us, hus⟩ : ∃ us, us = adjL zs (x, y) nn := ⟨_, rfl⟩
  obtain ⟨r1, hr1⟩ : ∃ r1, r1 = adjOk zs (x, y) nn := ⟨_, rfl⟩
  obtain ⟨r2, hr2⟩ : ∃ r2, r2 = okCts zs := ⟨_, rfl⟩
  have hul : us.length ≤ 7 := by rw [hus]; have := adjL_len zs (x, y) nn; have := hl1.out; omega
  have U := Lib.hid hus
  have R1 := Lib.hid hr1
  have R2 := Lib.hid hr2
  clear hus hr1 hr2
  have q1 : (r1 != r1) = false := by simp
  have q2 : (r2 != r2) = false := by simp
  have ba := Below.alloc (Below.refl w1.heap.size w1) (Nat.le_refl _) (.cells #[.int .i64 x, .int .i64 y] 26)
  have bx : Box (w1.alloc (.cells #[.int .i64 x, .int .i64 y] 26)) w1.heap.size x y := ⟨alloc_cells rfl rfl, alloc_cells rfl rfl⟩
  obtain ⟨wq, hwq⟩ : ∃ wq, wq = w1.alloc (.cells #[.int .i64 x, .int .i64 y] 26) := ⟨_, rfl⟩
  rw [← hwq] at ba bx
  have z0 := bx.c0
  have z1 := bx.c1
  go_upto_region 4 with fail
  rw [← hwq]
  clear hwq
  obtain ⟨w2, hw2⟩ : ∃ w2, w2 = wq := ⟨_, rfl⟩
  subst hw2
  have b2 := ba
  clear ba
  have B2 := Lib.hid (below_chain B1.out b2)
  have Lt_2 := Lib.hid (Lt_1.out.below b2)
  clear Lt_1
  clear b2 B1
  have Bx_2 := Lib.hid bx
  clear bx
  go_wp2_with fail
  refine (implAdj_tab I Lt_2.out (by omega) U.out.symm R1.out.symm WFN.out).mono ?_
  rintro e w3 ⟨A3, n3, c3, rfl, L3, b3⟩
  have B3 := Lib.hid (below_chain B2.out b3)
  have Lt_3 := Lib.hid (Lt_2.out.below b3)
  clear Lt_2
  have Bx_3 := Lib.hid (Bx_2.out.below b3)
  clear Bx_2
  clear b3 B2
  have Lx_3 := Lib.hid L3
  clear L3
  clear z0 z1
  have z0 := Bx_3.out.c0
  have z1 := Bx_3.out.c1
  go_wp2_with fail
  refine (specAdj_tab Lt_3.out (by omega) U.out.symm R1.out.symm).mono ?_
  rintro e w4 ⟨A4, n4, c4, rfl, L4, b4⟩
  have B4 := Lib.hid (below_chain B3.out b4)
  have Lt_4 := Lib.hid (Lt_3.out.below b4)
  clear Lt_3
  have Bx_4 := Lib.hid (Bx_3.out.below b4)
  clear Bx_3
  have Lx_4 := Lib.hid (Lx_3.out.below b4)
  clear Lx_3
  clear b4 B3
  have Lw_4 := Lib.hid L4
  clear L4
  clear z0 z1
  go_wp2_with fail
  refine (same_tab (b := true) Lx_4.out Lw_4.out (by simp)).mono ?_
  rintro e w5 ⟨rfl, b5⟩
  have B5 := Lib.hid (below_chain B4.out b5)
  have Lt_5 := Lib.hid (Lt_4.out.below b5)
  clear Lt_4
  have Bx_5 := Lib.hid (Bx_4.out.below b5)
  clear Bx_4
  have Lx_5 := Lib.hid (Lx_4.out.below b5)
  clear Lx_4
  have Lw_5 := Lib.hid (Lw_4.out.below b5)
  clear Lw_4
  clear b5 B4
  clear Lw_5
  go_wp2_with fail
  refine (implOk_tab I Lt_5.out R2.out.symm).mono ?_
  rintro e w6 ⟨rfl, b6⟩
  have B6 := Lib.hid (below_chain B5.out b6)
  have Lt_6 := Lib.hid (Lt_5.out.below b6)
  clear Lt_5
  have Bx_6 := Lib.hid (Bx_5.out.below b6)
  clear Bx_5
  have Lx_6 := Lib.hid (Lx_5.out.below b6)
  clear Lx_5
  clear b6 B5
  go_wp2_with fail
  refine (specOk_tab Lt_6.out R2.out.symm).mono ?_
  rintro e w7 ⟨rfl, b7⟩
  have B7 := Lib.hid (below_chain B6.out b7)
  have Lt_7 := Lib.hid (Lt_6.out.below b7)
  clear Lt_6
  have Bx_7 := Lib.hid (Bx_6.out.below b7)
  clear Bx_6
  have Lx_7 := Lib.hid (Lx_6.out.below b7)
  clear Lx_6
  clear b7 B6
  go_wp2_with fail
  refine (drawAddCt_any _ a0 len0 cap0 (by omega) (HC.out.below B7.out)).mono ?_
  rintro e w8 ⟨A8, n8, c8, ga, A8_, n8_, c8_, gb, rfl, d8, d8_, b8⟩
  have B8 := Lib.hid (below_chain B7.out b8)
  have Lt_8 := Lib.hid (Lt_7.out.below b8)
  clear Lt_7
  have Bx_8 := Lib.hid (Bx_7.out.below b8)
  clear Bx_7
  have Lx_8 := Lib.hid (Lx_7.out.below b8)
  clear Lx_7
  clear b8 B7
  have hf8 := d8.few
  have hf8_ := d8_.few
  have hl8 := Lib.hid d8.len
  have hl8_ := Lib.hid d8_.len
  have L8 := d8.tab
  have L8_ := d8_.tab
  clear d8 d8_
  have La_8 := Lib.hid L8
  clear L8
  have Lb_8 := Lib.hid L8_
  clear L8_
  obtain ⟨ss, hss⟩ : ∃ ss, ss = sumsL ga gb := ⟨_, rfl⟩
  obtain ⟨r3, hr3⟩ : ∃ r3, r3 = addOk ga gb := ⟨_, rfl⟩
  have SS := Lib.hid hss
  have R3 := Lib.hid hr3
  clear hss hr3
  have q3 : (r3 != r3) = false := by simp
  go_wp2_with fail
  refine (implAdd_tab I La_8.out Lb_8.out (by omega) SS.out.symm R3.out.symm).mono ?_
  rintro e w9 ⟨A9, n9, c9, rfl, L9, b9⟩
  have B9 := Lib.hid (below_chain B8.out b9)
  have Lt_9 := Lib.hid (Lt_8.out.below b9)
  clear Lt_8
  have Bx_9 := Lib.hid (Bx_8.out.below b9)
  clear Bx_8
  have Lx_9 := Lib.hid (Lx_8.out.below b9)
  clear Lx_8
  have La_9 := Lib.hid (La_8.out.below b9)
  clear La_8
  have Lb_9 := Lib.hid (Lb_8.out.below b9)
  clear Lb_8
  clear b9 B8
  have Ly_9 := Lib.hid L9
  clear L9
  go_wp2_with fail
  refine (specAdd_tab La_9.out Lb_9.out (by omega) SS.out.symm R3.out.symm).mono ?_
  rintro e w10 ⟨A10, n10, c10, rfl, L10, b10⟩
  have B10 := Lib.hid (below_chain B9.out b10)
  have Lt_10 := Lib.hid (Lt_9.out.below b10)
  clear Lt_9
  have Bx_10 := Lib.hid (Bx_9.out.below b10)
  clear Bx_9
  have Lx_10 := Lib.hid (Lx_9.out.below b10)
  clear Lx_9
  have La_10 := Lib.hid (La_9.out.below b10)
  clear La_9
  have Lb_10 := Lib.hid (Lb_9.out.below b10)
  clear Lb_9
  have Ly_10 := Lib.hid (Ly_9.out.below b10)
  clear Ly_9
  clear b10 B9
  have Lw_10 := Lib.hid L10
  clear L10
  go_wp2_with fail
  refine (same_tab (b := true) Ly_10.out Lw_10.out (by simp)).mono ?_
  rintro e w11 ⟨rfl, b11⟩
  have B11 := Lib.hid (below_chain B10.out b11)
  have Lt_11 := Lib.hid (Lt_10.out.below b11)
  clear Lt_10
  have Bx_11 := Lib.hid (Bx_10.out.below b11)
  clear Bx_10
  have Lx_11 := Lib.hid (Lx_10.out.below b11)
  clear Lx_10
  have La_11 := Lib.hid (La_10.out.below b11)
  clear La_10
  have Lb_11 := Lib.hid (Lb_10.out.below b11)
  clear Lb_10
  have Ly_11 := Lib.hid (Ly_10.out.below b11)
  clear Ly_10
  have Lw_11 := Lib.hid (Lw_10.out.below b11)
  clear Lw_10
  clear b11 B10
  clear Lw_11
  go_wp2_with fail
  refine (drawEpochCt_any _ a0 len0 cap0 (by omega) (HC.out.below B11.out)).mono ?_
  rintro e w12 ⟨A12, n12, c12, fs, ex, rfl, d12, b12⟩
  have B12 := Lib.hid (below_chain B11.out b12)
  have Lt_12 := Lib.hid (Lt_11.out.below b12)
  clear Lt_11
  have Bx_12 := Lib.hid (Bx_11.out.below b12)
  clear Bx_11
  have Lx_12 := Lib.hid (Lx_11.out.below b12)
  clear Lx_11
  have La_12 := Lib.hid (La_11.out.below b12)
  clear La_11
  have Lb_12 := Lib.hid (Lb_11.out.below b12)
  clear Lb_11
  have Ly_12 := Lib.hid (Ly_11.out.below b12)
  clear Ly_11
  clear b12 B11
  have L12 := d12.tab
  clear d12
  have Lu_12 := Lib.hid L12
  clear L12
  obtain ⟨fm, hfm⟩ : ∃ fm, fm = minL (posL fs) := ⟨_, rfl⟩
  obtain ⟨v4, hv4⟩ : ∃ v4, v4 = epochL fs ex := ⟨_, rfl⟩
  obtain ⟨v5, hv5⟩ : ∃ v5, v5 = totalL fs := ⟨_, rfl⟩
  have FM := Lib.hid hfm
  have V4 := Lib.hid hv4
  have V5 := Lib.hid hv5
  clear hfm hv4 hv5
  have q4 : (v4 != v4) = false := by simp
  have q5 : (v5 != v5) = false := by simp
  go_wp2_with fail
  refine (implFront_tab I Lu_12.out FM.out.symm).mono ?_
  rintro e w13 ⟨A13, n13, c13, rfl, L13, b13⟩
  have B13 := Lib.hid (below_chain B12.out b13)
  have Lt_13 := Lib.hid (Lt_12.out.below b13)
  clear Lt_12
  have Bx_13 := Lib.hid (Bx_12.out.below b13)
  clear Bx_12
  have Lx_13 := Lib.hid (Lx_12.out.below b13)
  clear Lx_12
  have La_13 := Lib.hid (La_12.out.below b13)
  clear La_12
  have Lb_13 := Lib.hid (Lb_12.out.below b13)
  clear Lb_12
  have Ly_13 := Lib.hid (Ly_12.out.below b13)
  clear Ly_12
  have Lu_13 := Lib.hid (Lu_12.out.below b13)
  clear Lu_12
  clear b13 B12
  have Lf_13 := Lib.hid L13
  clear L13
  go_wp2_with fail
  refine (implAdj_tab I (tab_nil _) (by omega) (us := [((1, 0), 5)]) (r := true) (by decide) (by decide) rfl).mono ?_
  rintro e w14 ⟨A14, n14, c14, rfl, L14, b14⟩
  have B14 := Lib.hid (below_chain B13.out b14)
  have Lt_14 := Lib.hid (Lt_13.out.below b14)
  clear Lt_13
  have Bx_14 := Lib.hid (Bx_13.out.below b14)
  clear Bx_13
  have Lx_14 := Lib.hid (Lx_13.out.below b14)
  clear Lx_13
  have La_14 := Lib.hid (La_13.out.below b14)
  clear La_13
  have Lb_14 := Lib.hid (Lb_13.out.below b14)
  clear Lb_13
  have Ly_14 := Lib.hid (Ly_13.out.below b14)
  clear Ly_13
  have Lu_14 := Lib.hid (Lu_13.out.below b14)
  clear Lu_13
  have Lf_14 := Lib.hid (Lf_13.out.below b14)
  clear Lf_13
  clear b14 B13
  have Lo_14 := Lib.hid L14
  clear L14
  obtain rfl : n14 = 1 := by simpa using Lo_14.out.len.symm
  go_wp2_with fail
  refine (specFront_tab Lu_14.out FM.out.symm).mono ?_
  rintro e w15 ⟨A15, n15, c15, rfl, L15, b15⟩
  have B15 := Lib.hid (below_chain B14.out b15)
  have Lt_15 := Lib.hid (Lt_14.out.below b15)
  clear Lt_14
  have Bx_15 := Lib.hid (Bx_14.out.below b15)
  clear Bx_14
  have Lx_15 := Lib.hid (Lx_14.out.below b15)
  clear Lx_14
  have La_15 := Lib.hid (La_14.out.below b15)
  clear La_14
  have Lb_15 := Lib.hid (Lb_14.out.below b15)
  clear Lb_14
  have Ly_15 := Lib.hid (Ly_14.out.below b15)
  clear Ly_14
  have Lu_15 := Lib.hid (Lu_14.out.below b15)
  clear Lu_14
  have Lf_15 := Lib.hid (Lf_14.out.below b15)
  clear Lf_14
  have Lo_15 := Lib.hid (Lo_14.out.below b15)
  clear Lo_14
  clear b15 B14
  have Lg_15 := Lib.hid L15
  clear L15
  go_wp2_with fail
  refine (same_fr Lf_15.out Lg_15.out ).mono ?_
  rintro e w16 ⟨rfl, b16⟩
  have B16 := Lib.hid (below_chain B15.out b16)
  have Lt_16 := Lib.hid (Lt_15.out.below b16)
  clear Lt_15
  have Bx_16 := Lib.hid (Bx_15.out.below b16)
  clear Bx_15
  have Lx_16 := Lib.hid (Lx_15.out.below b16)
  clear Lx_15
  have La_16 := Lib.hid (La_15.out.below b16)
  clear La_15
  have Lb_16 := Lib.hid (Lb_15.out.below b16)
  clear Lb_15
  have Ly_16 := Lib.hid (Ly_15.out.below b16)
  clear Ly_15
  have Lu_16 := Lib.hid (Lu_15.out.below b16)
  clear Lu_15
  have Lf_16 := Lib.hid (Lf_15.out.below b16)
  clear Lf_15
  have Lo_16 := Lib.hid (Lo_15.out.below b16)
  clear Lo_15
  have Lg_16 := Lib.hid (Lg_15.out.below b16)
  clear Lg_15
  clear b16 B15
  clear Lf_16 Lg_16
  go_wp2_with fail
  refine (implEpoch_tab I Lu_16.out V4.out.symm).mono ?_
  rintro e w17 ⟨rfl, b17⟩
  have B17 := Lib.hid (below_chain B16.out b17)
  have Lt_17 := Lib.hid (Lt_16.out.below b17)
  clear Lt_16
  have Bx_17 := Lib.hid (Bx_16.out.below b17)
  clear Bx_16
  have Lx_17 := Lib.hid (Lx_16.out.below b17)
  clear Lx_16
  have La_17 := Lib.hid (La_16.out.below b17)
  clear La_16
  have Lb_17 := Lib.hid (Lb_16.out.below b17)
  clear Lb_16
  have Ly_17 := Lib.hid (Ly_16.out.below b17)
  clear Ly_16
  have Lu_17 := Lib.hid (Lu_16.out.below b17)
  clear Lu_16
  have Lo_17 := Lib.hid (Lo_16.out.below b17)
  clear Lo_16
  clear b17 B16
  go_wp2_with fail
  refine (specEpoch_tab Lu_17.out V4.out.symm).mono ?_
  rintro e w18 ⟨rfl, b18⟩
  have B18 := Lib.hid (below_chain B17.out b18)
  have Lt_18 := Lib.hid (Lt_17.out.below b18)
  clear Lt_17
  have Bx_18 := Lib.hid (Bx_17.out.below b18)
  clear Bx_17
  have Lx_18 := Lib.hid (Lx_17.out.below b18)
  clear Lx_17
  have La_18 := Lib.hid (La_17.out.below b18)
  clear La_17
  have Lb_18 := Lib.hid (Lb_17.out.below b18)
  clear Lb_17
  have Ly_18 := Lib.hid (Ly_17.out.below b18)
  clear Ly_17
  have Lu_18 := Lib.hid (Lu_17.out.below b18)
  clear Lu_17
  have Lo_18 := Lib.hid (Lo_17.out.below b18)
  clear Lo_17
  clear b18 B17
  go_wp2_with fail
  refine (implTotal_tab I Lu_18.out V5.out.symm).mono ?_
  rintro e w19 ⟨rfl, b19⟩
  have B19 := Lib.hid (below_chain B18.out b19)
  have Lt_19 := Lib.hid (Lt_18.out.below b19)
  clear Lt_18
  have Bx_19 := Lib.hid (Bx_18.out.below b19)
  clear Bx_18
  have Lx_19 := Lib.hid (Lx_18.out.below b19)
  clear Lx_18
  have La_19 := Lib.hid (La_18.out.below b19)
  clear La_18
  have Lb_19 := Lib.hid (Lb_18.out.below b19)
  clear Lb_18
  have Ly_19 := Lib.hid (Ly_18.out.below b19)
  clear Ly_18
  have Lu_19 := Lib.hid (Lu_18.out.below b19)
  clear Lu_18
  have Lo_19 := Lib.hid (Lo_18.out.below b19)
  clear Lo_18
  clear b19 B18
  go_wp2_with fail
  refine (specTotal_tab Lu_19.out V5.out.symm).mono ?_
  rintro e w20 ⟨rfl, b20⟩
  have B20 := Lib.hid (below_chain B19.out b20)
  have Lt_20 := Lib.hid (Lt_19.out.below b20)
  clear Lt_19
  have Bx_20 := Lib.hid (Bx_19.out.below b20)
  clear Bx_19
  have Lx_20 := Lib.hid (Lx_19.out.below b20)
  clear Lx_19
  have La_20 := Lib.hid (La_19.out.below b20)
  clear La_19
  have Lb_20 := Lib.hid (Lb_19.out.below b20)
  clear Lb_19
  have Ly_20 := Lib.hid (Ly_19.out.below b20)
  clear Ly_19
  have Lu_20 := Lib.hid (Lu_19.out.below b20)
  clear Lu_19
  have Lo_20 := Lib.hid (Lo_19.out.below b20)
  clear Lo_19
  clear b20 B19
  clear Lu_20
  cases r1 with
  | false =>
    have huz : us = zs := by rw [U.out]; exact adj_no R1.out.symm
    have HUZ := Lib.hid huz
    clear huz
    go_wp2_with fail
    refine (same_tab (b := true) Lx_20.out Lt_20.out (by rw [HUZ.out]; simp)).mono ?_
    rintro e w21 ⟨rfl, b21⟩
    have B21 := Lib.hid (below_chain B20.out b21)
    have Lt_21 := Lib.hid (Lt_20.out.below b21)
    clear Lt_20
    have Bx_21 := Lib.hid (Bx_20.out.below b21)
    clear Bx_20
    have Lx_21 := Lib.hid (Lx_20.out.below b21)
    clear Lx_20
    have La_21 := Lib.hid (La_20.out.below b21)
    clear La_20
    have Lb_21 := Lib.hid (Lb_20.out.below b21)
    clear Lb_20
    have Ly_21 := Lib.hid (Ly_20.out.below b21)
    clear Ly_20
    have Lo_21 := Lib.hid (Lo_20.out.below b21)
    clear Lo_20
    clear b21 B20
    go_wp2_with fail
    refine (implCnt_tab I (v := 5) Lo_21.out (by decide)).mono ?_
    rintro e w22 ⟨rfl, b22⟩
    have B22 := Lib.hid (below_chain B21.out b22)
    have Lt_22 := Lib.hid (Lt_21.out.below b22)
    clear Lt_21
    have Bx_22 := Lib.hid (Bx_21.out.below b22)
    clear Bx_21
    have Lx_22 := Lib.hid (Lx_21.out.below b22)
    clear Lx_21
    have La_22 := Lib.hid (La_21.out.below b22)
    clear La_21
    have Lb_22 := Lib.hid (Lb_21.out.below b22)
    clear Lb_21
    have Ly_22 := Lib.hid (Ly_21.out.below b22)
    clear Ly_21
    have Lo_22 := Lib.hid (Lo_21.out.below b22)
    clear Lo_21
    clear b22 B21
    go_wp2
    go_ret
    exact ⟨rfl, B22.out⟩
  | true =>
    have hback := adj_back (zs := zs) (s := (x, y)) (n := nn) R1.out.symm
    rw [← U.out] at hback
    obtain ⟨cv, tv, AF⟩ := adjFacts (zs := zs) (s := (x, y)) (nn := nn) (by have := hl1.out; omega) R1.out.symm
    have HAF := Lib.hid AF
    have n1' := AF.n1
    have n2' := AF.n2
    have c2' := AF.c2
    have c3' := AF.c3
    have t2' := AF.t2
    have t3' := AF.t3
    have HBK := Lib.hid hback
    clear AF hback
    have z0 := Bx_20.out.c0
    have z1 := Bx_20.out.c1
    go_wp2_with fail
    refine (implAdj_tab I Lx_20.out (by have := Lx_20.out.len; omega) HBK.out.2 HBK.out.1 (WalkArith.wf_i64 (by omega))).mono ?_
    rintro e w21 ⟨A21, n21, c21, rfl, L21, b21⟩
    have B21 := Lib.hid (below_chain B20.out b21)
    have Lt_21 := Lib.hid (Lt_20.out.below b21)
    clear Lt_20
    have Bx_21 := Lib.hid (Bx_20.out.below b21)
    clear Bx_20
    have Lx_21 := Lib.hid (Lx_20.out.below b21)
    clear Lx_20
    have La_21 := Lib.hid (La_20.out.below b21)
    clear La_20
    have Lb_21 := Lib.hid (Lb_20.out.below b21)
    clear Lb_20
    have Ly_21 := Lib.hid (Ly_20.out.below b21)
    clear Ly_20
    have Lo_21 := Lib.hid (Lo_20.out.below b21)
    clear Lo_20
    clear b21 B20
    have Lk_21 := Lib.hid L21
    clear L21
    clear z0 z1
    have T0 := Lib.hid (show E21S w21 w1.heap.size x y A1 n1 c1 A3 n3 c3 A21 n21 c21 A9 n9 c9 A8 n8 c8 A8_ n8_ c8_ zs us ss ga gb w21 from ⟨Bx_21.out, Lt_21.out, Lx_21.out, Lk_21.out, Ly_21.out, La_21.out, Lb_21.out, Below.refl _ _⟩)
    have hw1 : IntKind.i64.wrap (cv + nn) = cv + nn := IntWalk.i64_in _ (by omega)
    have hw2 : IntKind.i64.wrap (tv + nn) = tv + nn := IntWalk.i64_in _ (by omega)
    have ho1 : ((cv + nn) == (cv + nn)) = true := by simp
    have ho2 : ((tv + nn) == (tv + nn)) = true := by simp
    cases r3 with
    | false =>
      go_wp2_with fail
      refine wp_region_held_drew (S := E21S w21 w1.heap.size x y A1 n1 c1 A3 n3 c3 A21 n21 c21 A9 n9 c9 A8 n8 c8 A8_ n8_ c8_ zs us ss ga gb) (by kernel_rfl) ?_ (fun hHeld => ?_)
      · skip
        exact T0.out.drew
      change wpAnyH _ _ opsE21 _ _ 41 (LE21 0) _ _
      refine tE21_0 (.bool true) (fun _ _ _ h => h) (Or.inl ⟨by rfl, fun W hSw => ?_⟩) hHeld ?_
      · skip
        unfold qE21_0
        go_simp
      try simp only [Act.put, List.setIfInBounds_toArray, List.set_cons_zero, List.set_cons_succ]
      refine tE21_1 (.bool true) (fun _ _ _ h => h) (Or.inl ⟨by rfl, fun W hSw => ?_⟩) hHeld ?_
      · skip
        unfold qE21_1
        go_simp
      try simp only [Act.put, List.setIfInBounds_toArray, List.set_cons_zero, List.set_cons_succ]
      refine tE21_2 (.slice A21 n21 c21) (fun _ _ _ h => h) (Or.inl ⟨by rfl, fun W hSw => ?_⟩) hHeld ?_
      · skip
        unfold qE21_2
        go_simp
      try simp only [Act.put, List.setIfInBounds_toArray, List.set_cons_zero, List.set_cons_succ]
      refine tE21_3 (.slice A1 n1 c1) (fun _ _ _ h => h) (Or.inl ⟨by rfl, fun W hSw => ?_⟩) hHeld ?_
      · skip
        unfold qE21_3
        go_simp
      try simp only [Act.put, List.setIfInBounds_toArray, List.set_cons_zero, List.set_cons_succ]
      refine cE21_4 (fun K hK => ?_)
      rw [if_pos (by rfl)]
      unfold qE21_4
      go_simp
      refine (same_tab (b := true) hHeld.lk hHeld.lt (by simp)).mono ?_
      rintro e w5 ⟨rfl, hbd⟩
      dsimp only
      refine Shut.out hK _ _ ?_ (fun hHeld => ?_)
      · skip
        exact hHeld.below hbd
      clear hK K
      try simp only [Act.put, List.setIfInBounds_toArray, List.set_cons_zero, List.set_cons_succ]
      refine tE21_5 (.bool true) (fun _ _ _ h => h) (Or.inl ⟨by rfl, fun W hSw => ?_⟩) hHeld ?_
      · skip
        unfold qE21_5
        go_simp
      try simp only [Act.put, List.setIfInBounds_toArray, List.set_cons_zero, List.set_cons_succ]
      refine tE21_6 (.bool true) (fun _ _ _ h => h) (Or.inl ⟨by rfl, fun W hSw => ?_⟩) hHeld ?_
      · skip
        unfold qE21_6
        go_simp
      try simp only [Act.put, List.setIfInBounds_toArray, List.set_cons_zero, List.set_cons_succ]
      refine tE21_7 (.slice A3 n3 c3) (fun _ _ _ h => h) (Or.inl ⟨by rfl, fun W hSw => ?_⟩) hHeld ?_
      · skip
        unfold qE21_7
        go_simp
      try simp only [Act.put, List.setIfInBounds_toArray, List.set_cons_zero, List.set_cons_succ]
      refine tE21_8 (.agg #[.int .i64 x, .int .i64 y]) (fun _ _ _ h => h) (Or.inl ⟨by rfl, fun W hSw => ?_⟩) hHeld ?_
      · skip
        unfold qE21_8
        have hb_ := hSw.bx
        obtain ⟨c0_, c1_⟩ := hb_
        go_simp
      try simp only [Act.put, List.setIfInBounds_toArray, List.set_cons_zero, List.set_cons_succ]
      refine tE21_9 (.slice A1 n1 c1) (fun _ _ _ h => h) (Or.inl ⟨by rfl, fun W hSw => ?_⟩) hHeld ?_
      · skip
        unfold qE21_10
        go_simp
      try simp only [Act.put, List.setIfInBounds_toArray, List.set_cons_zero, List.set_cons_succ]
      refine tE21_10 (.agg #[.int .i64 x, .int .i64 y]) (fun _ _ _ h => h) (Or.inl ⟨by rfl, fun W hSw => ?_⟩) hHeld ?_
      · skip
        unfold qE21_11
        have hb_ := hSw.bx
        obtain ⟨c0_, c1_⟩ := hb_
        go_simp
      try simp only [Act.put, List.setIfInBounds_toArray, List.set_cons_zero, List.set_cons_succ]
      refine tE21_11 (.int .i64 nn) (fun _ _ _ h => h) (Or.inl ⟨by rfl, fun W hSw => ?_⟩) hHeld ?_
      · skip
        unfold qE21_13
        go_simp
      try simp only [Act.put, List.setIfInBounds_toArray, List.set_cons_zero, List.set_cons_succ]
      refine cE21_12 (fun K hK => ?_)
      rw [if_pos (by rfl)]
      unfold qE21_9
      go_simp
      refine (implCnt_tab I (v := cv + nn) hHeld.lx (by rw [U.out]; exact HAF.out.c1)).mono ?_
      rintro e w5 ⟨rfl, hbd⟩
      dsimp only
      refine Shut.out hK _ _ ?_ (fun hHeld => ?_)
      · skip
        exact hHeld.below hbd
      clear hK K
      try simp only [Act.put, List.setIfInBounds_toArray, List.set_cons_zero, List.set_cons_succ]
      refine cE21_13 (fun K hK => ?_)
      rw [if_pos (by rfl)]
      unfold qE21_12
      go_simp
      refine (specCnt_tab hHeld.lt HAF.out.c0).mono ?_
      rintro e w5 ⟨rfl, hbd⟩
      dsimp only
      refine Shut.out hK _ _ ?_ (fun hHeld => ?_)
      · skip
        exact hHeld.below hbd
      clear hK K
      try simp only [Act.put, List.setIfInBounds_toArray, List.set_cons_zero, List.set_cons_succ]
      refine tE21_14 (.int .i64 (cv + nn)) (fun _ _ _ h => h) (Or.inl ⟨by rfl, fun W hSw => ?_⟩) hHeld ?_
      · skip
        unfold qE21_14
        go_simp
      try simp only [Act.put, List.setIfInBounds_toArray, List.set_cons_zero, List.set_cons_succ]
      refine tE21_15 (.bool true) (fun _ _ _ h => h) (Or.inl ⟨by rfl, fun W hSw => ?_⟩) hHeld ?_
      · skip
        unfold qE21_15
        go_simp
      try simp only [Act.put, List.setIfInBounds_toArray, List.set_cons_zero, List.set_cons_succ]
      refine tE21_16 (.bool true) (fun _ _ _ h => h) (Or.inl ⟨by rfl, fun W hSw => ?_⟩) hHeld ?_
      · skip
        unfold qE21_16
        go_simp
      try simp only [Act.put, List.setIfInBounds_toArray, List.set_cons_zero, List.set_cons_succ]
      refine tE21_17 (.bool true) (fun _ _ _ h => h) (Or.inl ⟨by rfl, fun W hSw => ?_⟩) hHeld ?_
      · skip
        unfold qE21_17
        go_simp
      try simp only [Act.put, List.setIfInBounds_toArray, List.set_cons_zero, List.set_cons_succ]
      refine tE21_18 (.slice A3 n3 c3) (fun _ _ _ h => h) (Or.inl ⟨by rfl, fun W hSw => ?_⟩) hHeld ?_
      · skip
        unfold qE21_18
        go_simp
      try simp only [Act.put, List.setIfInBounds_toArray, List.set_cons_zero, List.set_cons_succ]
      refine tE21_19 (.slice A1 n1 c1) (fun _ _ _ h => h) (Or.inl ⟨by rfl, fun W hSw => ?_⟩) hHeld ?_
      · skip
        unfold qE21_20
        go_simp
      try simp only [Act.put, List.setIfInBounds_toArray, List.set_cons_zero, List.set_cons_succ]
      refine tE21_20 (.int .i64 nn) (fun _ _ _ h => h) (Or.inl ⟨by rfl, fun W hSw => ?_⟩) hHeld ?_
      · skip
        unfold qE21_22
        go_simp
      try simp only [Act.put, List.setIfInBounds_toArray, List.set_cons_zero, List.set_cons_succ]
      refine cE21_21 (fun K hK => ?_)
      rw [if_pos (by rfl)]
      unfold qE21_19
      go_simp
      refine (implTotal_tab I (v := tv + nn) hHeld.lx (by rw [U.out]; exact HAF.out.t1)).mono ?_
      rintro e w5 ⟨rfl, hbd⟩
      dsimp only
      refine Shut.out hK _ _ ?_ (fun hHeld => ?_)
      · skip
        exact hHeld.below hbd
      clear hK K
      try simp only [Act.put, List.setIfInBounds_toArray, List.set_cons_zero, List.set_cons_succ]
      refine cE21_22 (fun K hK => ?_)
      rw [if_pos (by rfl)]
      unfold qE21_21
      go_simp
      refine (specTotal_tab hHeld.lt HAF.out.t0).mono ?_
      rintro e w5 ⟨rfl, hbd⟩
      dsimp only
      refine Shut.out hK _ _ ?_ (fun hHeld => ?_)
      · skip
        exact hHeld.below hbd
      clear hK K
      try simp only [Act.put, List.setIfInBounds_toArray, List.set_cons_zero, List.set_cons_succ]
      refine tE21_23 (.int .i64 (tv + nn)) (fun _ _ _ h => h) (Or.inl ⟨by rfl, fun W hSw => ?_⟩) hHeld ?_
      · skip
        unfold qE21_23
        go_simp
      try simp only [Act.put, List.setIfInBounds_toArray, List.set_cons_zero, List.set_cons_succ]
      refine tE21_24 (.bool true) (fun _ _ _ h => h) (Or.inl ⟨by rfl, fun W hSw => ?_⟩) hHeld ?_
      · skip
        unfold qE21_24
        go_simp
      try simp only [Act.put, List.setIfInBounds_toArray, List.set_cons_zero, List.set_cons_succ]
      refine tE21_25 (.bool true) (fun _ _ _ h => h) (Or.inl ⟨by rfl, fun W hSw => ?_⟩) hHeld ?_
      · skip
        unfold qE21_25
        go_simp
      try simp only [Act.put, List.setIfInBounds_toArray, List.set_cons_zero, List.set_cons_succ]
      refine tE21_26 (.bool true) (fun _ _ _ h => h) (Or.inl ⟨by rfl, fun W hSw => ?_⟩) hHeld ?_
      · skip
        unfold qE21_26
        go_simp
      try simp only [Act.put, List.setIfInBounds_toArray, List.set_cons_zero, List.set_cons_succ]
      refine tE21_27 (.bool false) (fun _ _ _ h => h) (Or.inl ⟨by rfl, fun W hSw => ?_⟩) hHeld ?_
      · skip
        unfold qE21_27
        go_simp
      try simp only [Act.put, List.setIfInBounds_toArray, List.set_cons_zero, List.set_cons_succ]
      refine tE21_28 (.bool true) (fun _ _ _ h => h) (Or.inl ⟨by rfl, fun W hSw => ?_⟩) hHeld ?_
      · skip
        unfold qE21_28
        go_simp
      try simp only [Act.put, List.setIfInBounds_toArray, List.set_cons_zero, List.set_cons_succ]
      refine tE21_29 (.bool true) (fun _ _ _ h => h) (Or.inl ⟨by rfl, fun W hSw => ?_⟩) hHeld ?_
      · skip
        unfold qE21_29
        go_simp
      try simp only [Act.put, List.setIfInBounds_toArray, List.set_cons_zero, List.set_cons_succ]
      refine tE21_30 undef (fun _ _ _ h => h) (Or.inr ⟨by rfl, rfl⟩) hHeld ?_
      try simp only [Act.put, List.setIfInBounds_toArray, List.set_cons_zero, List.set_cons_succ]
      refine tE21_31 undef (fun _ _ _ h => h) (Or.inr ⟨by rfl, rfl⟩) hHeld ?_
      try simp only [Act.put, List.setIfInBounds_toArray, List.set_cons_zero, List.set_cons_succ]
      refine tE21_32 undef (fun _ _ _ h => h) (Or.inr ⟨by rfl, rfl⟩) hHeld ?_
      try simp only [Act.put, List.setIfInBounds_toArray, List.set_cons_zero, List.set_cons_succ]
      refine tE21_33 undef (fun _ _ _ h => h) (Or.inr ⟨by rfl, rfl⟩) hHeld ?_
      try simp only [Act.put, List.setIfInBounds_toArray, List.set_cons_zero, List.set_cons_succ]
      refine tE21_34 undef (fun _ _ _ h => h) (Or.inr ⟨by rfl, rfl⟩) hHeld ?_
      try simp only [Act.put, List.setIfInBounds_toArray, List.set_cons_zero, List.set_cons_succ]
      refine tE21_35 undef (fun _ _ _ h => h) (Or.inr ⟨by rfl, rfl⟩) hHeld ?_
      try simp only [Act.put, List.setIfInBounds_toArray, List.set_cons_zero, List.set_cons_succ]
      refine tE21_36 undef (fun _ _ _ h => h) (Or.inr ⟨by rfl, rfl⟩) hHeld ?_
      try simp only [Act.put, List.setIfInBounds_toArray, List.set_cons_zero, List.set_cons_succ]
      refine tE21_37 undef (fun _ _ _ h => h) (Or.inr ⟨by rfl, rfl⟩) hHeld ?_
      try simp only [Act.put, List.setIfInBounds_toArray, List.set_cons_zero, List.set_cons_succ]
      refine tE21_38 (Value.bool true) (fun _ _ _ h => h) (Or.inl ⟨by rfl, fun W hSw => ?_⟩) hHeld ?_
      · skip
        unfold qE21_38
        go_simp
      try simp only [Act.put, List.setIfInBounds_toArray, List.set_cons_zero, List.set_cons_succ]
      refine tE21_39 (Value.bool true) (fun _ _ _ h => h) (Or.inl ⟨by rfl, fun W hSw => ?_⟩) hHeld ?_
      · skip
        unfold qE21_39
        go_simp
      try simp only [Act.put, List.setIfInBounds_toArray, List.set_cons_zero, List.set_cons_succ]
      refine tE21_40 (Value.bool true) (fun _ _ _ h => h) (Or.inl ⟨by rfl, fun W hSw => ?_⟩) hHeld ?_
      · skip
        unfold qE21_40
        go_simp
      try simp only [Act.put, List.setIfInBounds_toArray, List.set_cons_zero, List.set_cons_succ]
      refine wpAnyH_done (by kernel_rfl) ?_ _
      have BF := Lib.hid (below_chain B21.out hHeld.bel)
      clear hHeld
      go_wp2
      go_ret
      exact ⟨rfl, BF.out⟩
    | true =>
      obtain ⟨ta, tb, DF⟩ := addFacts (zs := ga) (ys := gb) (by have := hl8.out; omega) (by have := hl8_.out; omega) R3.out.symm
      have HDF := Lib.hid DF
      have a1' := DF.a1
      have a2' := DF.a2
      have b1' := DF.b1
      have b2' := DF.b2
      clear DF
      have hw3 : IntKind.i64.wrap (ta + tb) = ta + tb := IntWalk.i64_in _ (by omega)
      have ho3 : ((ta + tb) == (ta + tb)) = true := by simp
      go_wp2_with fail
      refine wp_region_held_drew (S := E21S w21 w1.heap.size x y A1 n1 c1 A3 n3 c3 A21 n21 c21 A9 n9 c9 A8 n8 c8 A8_ n8_ c8_ zs us ss ga gb) (by kernel_rfl) ?_ (fun hHeld => ?_)
      · skip
        exact T0.out.drew
      change wpAnyH _ _ opsE21 _ _ 41 (LE21 0) _ _
      refine tE21_0 (.bool true) (fun _ _ _ h => h) (Or.inl ⟨by rfl, fun W hSw => ?_⟩) hHeld ?_
      · skip
        unfold qE21_0
        go_simp
      try simp only [Act.put, List.setIfInBounds_toArray, List.set_cons_zero, List.set_cons_succ]
      refine tE21_1 (.bool true) (fun _ _ _ h => h) (Or.inl ⟨by rfl, fun W hSw => ?_⟩) hHeld ?_
      · skip
        unfold qE21_1
        go_simp
      try simp only [Act.put, List.setIfInBounds_toArray, List.set_cons_zero, List.set_cons_succ]
      refine tE21_2 (.slice A21 n21 c21) (fun _ _ _ h => h) (Or.inl ⟨by rfl, fun W hSw => ?_⟩) hHeld ?_
      · skip
        unfold qE21_2
        go_simp
      try simp only [Act.put, List.setIfInBounds_toArray, List.set_cons_zero, List.set_cons_succ]
      refine tE21_3 (.slice A1 n1 c1) (fun _ _ _ h => h) (Or.inl ⟨by rfl, fun W hSw => ?_⟩) hHeld ?_
      · skip
        unfold qE21_3
        go_simp
      try simp only [Act.put, List.setIfInBounds_toArray, List.set_cons_zero, List.set_cons_succ]
      refine cE21_4 (fun K hK => ?_)
      rw [if_pos (by rfl)]
      unfold qE21_4
      go_simp
      refine (same_tab (b := true) hHeld.lk hHeld.lt (by simp)).mono ?_
      rintro e w5 ⟨rfl, hbd⟩
      dsimp only
      refine Shut.out hK _ _ ?_ (fun hHeld => ?_)
      · skip
        exact hHeld.below hbd
      clear hK K
      try simp only [Act.put, List.setIfInBounds_toArray, List.set_cons_zero, List.set_cons_succ]
      refine tE21_5 (.bool true) (fun _ _ _ h => h) (Or.inl ⟨by rfl, fun W hSw => ?_⟩) hHeld ?_
      · skip
        unfold qE21_5
        go_simp
      try simp only [Act.put, List.setIfInBounds_toArray, List.set_cons_zero, List.set_cons_succ]
      refine tE21_6 (.bool true) (fun _ _ _ h => h) (Or.inl ⟨by rfl, fun W hSw => ?_⟩) hHeld ?_
      · skip
        unfold qE21_6
        go_simp
      try simp only [Act.put, List.setIfInBounds_toArray, List.set_cons_zero, List.set_cons_succ]
      refine tE21_7 (.slice A3 n3 c3) (fun _ _ _ h => h) (Or.inl ⟨by rfl, fun W hSw => ?_⟩) hHeld ?_
      · skip
        unfold qE21_7
        go_simp
      try simp only [Act.put, List.setIfInBounds_toArray, List.set_cons_zero, List.set_cons_succ]
      refine tE21_8 (.agg #[.int .i64 x, .int .i64 y]) (fun _ _ _ h => h) (Or.inl ⟨by rfl, fun W hSw => ?_⟩) hHeld ?_
      · skip
        unfold qE21_8
        have hb_ := hSw.bx
        obtain ⟨c0_, c1_⟩ := hb_
        go_simp
      try simp only [Act.put, List.setIfInBounds_toArray, List.set_cons_zero, List.set_cons_succ]
      refine tE21_9 (.slice A1 n1 c1) (fun _ _ _ h => h) (Or.inl ⟨by rfl, fun W hSw => ?_⟩) hHeld ?_
      · skip
        unfold qE21_10
        go_simp
      try simp only [Act.put, List.setIfInBounds_toArray, List.set_cons_zero, List.set_cons_succ]
      refine tE21_10 (.agg #[.int .i64 x, .int .i64 y]) (fun _ _ _ h => h) (Or.inl ⟨by rfl, fun W hSw => ?_⟩) hHeld ?_
      · skip
        unfold qE21_11
        have hb_ := hSw.bx
        obtain ⟨c0_, c1_⟩ := hb_
        go_simp
      try simp only [Act.put, List.setIfInBounds_toArray, List.set_cons_zero, List.set_cons_succ]
      refine tE21_11 (.int .i64 nn) (fun _ _ _ h => h) (Or.inl ⟨by rfl, fun W hSw => ?_⟩) hHeld ?_
      · skip
        unfold qE21_13
        go_simp
      try simp only [Act.put, List.setIfInBounds_toArray, List.set_cons_zero, List.set_cons_succ]
      refine cE21_12 (fun K hK => ?_)
      rw [if_pos (by rfl)]
      unfold qE21_9
      go_simp
      refine (implCnt_tab I (v := cv + nn) hHeld.lx (by rw [U.out]; exact HAF.out.c1)).mono ?_
      rintro e w5 ⟨rfl, hbd⟩
      dsimp only
      refine Shut.out hK _ _ ?_ (fun hHeld => ?_)
      · skip
        exact hHeld.below hbd
      clear hK K
      try simp only [Act.put, List.setIfInBounds_toArray, List.set_cons_zero, List.set_cons_succ]
      refine cE21_13 (fun K hK => ?_)
      rw [if_pos (by rfl)]
      unfold qE21_12
      go_simp
      refine (specCnt_tab hHeld.lt HAF.out.c0).mono ?_
      rintro e w5 ⟨rfl, hbd⟩
      dsimp only
      refine Shut.out hK _ _ ?_ (fun hHeld => ?_)
      · skip
        exact hHeld.below hbd
      clear hK K
      try simp only [Act.put, List.setIfInBounds_toArray, List.set_cons_zero, List.set_cons_succ]
      refine tE21_14 (.int .i64 (cv + nn)) (fun _ _ _ h => h) (Or.inl ⟨by rfl, fun W hSw => ?_⟩) hHeld ?_
      · skip
        unfold qE21_14
        go_simp
      try simp only [Act.put, List.setIfInBounds_toArray, List.set_cons_zero, List.set_cons_succ]
      refine tE21_15 (.bool true) (fun _ _ _ h => h) (Or.inl ⟨by rfl, fun W hSw => ?_⟩) hHeld ?_
      · skip
        unfold qE21_15
        go_simp
      try simp only [Act.put, List.setIfInBounds_toArray, List.set_cons_zero, List.set_cons_succ]
      refine tE21_16 (.bool true) (fun _ _ _ h => h) (Or.inl ⟨by rfl, fun W hSw => ?_⟩) hHeld ?_
      · skip
        unfold qE21_16
        go_simp
      try simp only [Act.put, List.setIfInBounds_toArray, List.set_cons_zero, List.set_cons_succ]
      refine tE21_17 (.bool true) (fun _ _ _ h => h) (Or.inl ⟨by rfl, fun W hSw => ?_⟩) hHeld ?_
      · skip
        unfold qE21_17
        go_simp
      try simp only [Act.put, List.setIfInBounds_toArray, List.set_cons_zero, List.set_cons_succ]
      refine tE21_18 (.slice A3 n3 c3) (fun _ _ _ h => h) (Or.inl ⟨by rfl, fun W hSw => ?_⟩) hHeld ?_
      · skip
        unfold qE21_18
        go_simp
      try simp only [Act.put, List.setIfInBounds_toArray, List.set_cons_zero, List.set_cons_succ]
      refine tE21_19 (.slice A1 n1 c1) (fun _ _ _ h => h) (Or.inl ⟨by rfl, fun W hSw => ?_⟩) hHeld ?_
      · skip
        unfold qE21_20
        go_simp
      try simp only [Act.put, List.setIfInBounds_toArray, List.set_cons_zero, List.set_cons_succ]
      refine tE21_20 (.int .i64 nn) (fun _ _ _ h => h) (Or.inl ⟨by rfl, fun W hSw => ?_⟩) hHeld ?_
      · skip
        unfold qE21_22
        go_simp
      try simp only [Act.put, List.setIfInBounds_toArray, List.set_cons_zero, List.set_cons_succ]
      refine cE21_21 (fun K hK => ?_)
      rw [if_pos (by rfl)]
      unfold qE21_19
      go_simp
      refine (implTotal_tab I (v := tv + nn) hHeld.lx (by rw [U.out]; exact HAF.out.t1)).mono ?_
      rintro e w5 ⟨rfl, hbd⟩
      dsimp only
      refine Shut.out hK _ _ ?_ (fun hHeld => ?_)
      · skip
        exact hHeld.below hbd
      clear hK K
      try simp only [Act.put, List.setIfInBounds_toArray, List.set_cons_zero, List.set_cons_succ]
      refine cE21_22 (fun K hK => ?_)
      rw [if_pos (by rfl)]
      unfold qE21_21
      go_simp
      refine (specTotal_tab hHeld.lt HAF.out.t0).mono ?_
      rintro e w5 ⟨rfl, hbd⟩
      dsimp only
      refine Shut.out hK _ _ ?_ (fun hHeld => ?_)
      · skip
        exact hHeld.below hbd
      clear hK K
      try simp only [Act.put, List.setIfInBounds_toArray, List.set_cons_zero, List.set_cons_succ]
      refine tE21_23 (.int .i64 (tv + nn)) (fun _ _ _ h => h) (Or.inl ⟨by rfl, fun W hSw => ?_⟩) hHeld ?_
      · skip
        unfold qE21_23
        go_simp
      try simp only [Act.put, List.setIfInBounds_toArray, List.set_cons_zero, List.set_cons_succ]
      refine tE21_24 (.bool true) (fun _ _ _ h => h) (Or.inl ⟨by rfl, fun W hSw => ?_⟩) hHeld ?_
      · skip
        unfold qE21_24
        go_simp
      try simp only [Act.put, List.setIfInBounds_toArray, List.set_cons_zero, List.set_cons_succ]
      refine tE21_25 (.bool true) (fun _ _ _ h => h) (Or.inl ⟨by rfl, fun W hSw => ?_⟩) hHeld ?_
      · skip
        unfold qE21_25
        go_simp
      try simp only [Act.put, List.setIfInBounds_toArray, List.set_cons_zero, List.set_cons_succ]
      refine tE21_26 (.bool true) (fun _ _ _ h => h) (Or.inl ⟨by rfl, fun W hSw => ?_⟩) hHeld ?_
      · skip
        unfold qE21_26
        go_simp
      try simp only [Act.put, List.setIfInBounds_toArray, List.set_cons_zero, List.set_cons_succ]
      refine tE21_27 (.bool true) (fun _ _ _ h => h) (Or.inl ⟨by rfl, fun W hSw => ?_⟩) hHeld ?_
      · skip
        unfold qE21_27
        go_simp
      try simp only [Act.put, List.setIfInBounds_toArray, List.set_cons_zero, List.set_cons_succ]
      refine tE21_28 (.bool false) (fun _ _ _ h => h) (Or.inl ⟨by rfl, fun W hSw => ?_⟩) hHeld ?_
      · skip
        unfold qE21_28
        go_simp
      try simp only [Act.put, List.setIfInBounds_toArray, List.set_cons_zero, List.set_cons_succ]
      refine tE21_29 (.bool false) (fun _ _ _ h => h) (Or.inl ⟨by rfl, fun W hSw => ?_⟩) hHeld ?_
      · skip
        unfold qE21_29
        go_simp
      try simp only [Act.put, List.setIfInBounds_toArray, List.set_cons_zero, List.set_cons_succ]
      refine tE21_30 (.slice A9 n9 c9) (fun _ _ _ h => h) (Or.inl ⟨by rfl, fun W hSw => ?_⟩) hHeld ?_
      · skip
        unfold qE21_30
        go_simp
      try simp only [Act.put, List.setIfInBounds_toArray, List.set_cons_zero, List.set_cons_succ]
      refine tE21_31 (.slice A8 n8 c8) (fun _ _ _ h => h) (Or.inl ⟨by rfl, fun W hSw => ?_⟩) hHeld ?_
      · skip
        unfold qE21_32
        go_simp
      try simp only [Act.put, List.setIfInBounds_toArray, List.set_cons_zero, List.set_cons_succ]
      refine tE21_32 (.slice A8_ n8_ c8_) (fun _ _ _ h => h) (Or.inl ⟨by rfl, fun W hSw => ?_⟩) hHeld ?_
      · skip
        unfold qE21_34
        go_simp
      try simp only [Act.put, List.setIfInBounds_toArray, List.set_cons_zero, List.set_cons_succ]
      refine cE21_33 (fun K hK => ?_)
      rw [if_pos (by rfl)]
      unfold qE21_31
      go_simp
      refine (implTotal_tab I (v := ta + tb) hHeld.ly (by rw [SS.out]; exact HDF.out.s0)).mono ?_
      rintro e w5 ⟨rfl, hbd⟩
      dsimp only
      refine Shut.out hK _ _ ?_ (fun hHeld => ?_)
      · skip
        exact hHeld.below hbd
      clear hK K
      try simp only [Act.put, List.setIfInBounds_toArray, List.set_cons_zero, List.set_cons_succ]
      refine cE21_34 (fun K hK => ?_)
      rw [if_pos (by rfl)]
      unfold qE21_33
      go_simp
      refine (specTotal_tab hHeld.la HDF.out.a0).mono ?_
      rintro e w5 ⟨rfl, hbd⟩
      dsimp only
      refine Shut.out hK _ _ ?_ (fun hHeld => ?_)
      · skip
        exact hHeld.below hbd
      clear hK K
      try simp only [Act.put, List.setIfInBounds_toArray, List.set_cons_zero, List.set_cons_succ]
      refine cE21_35 (fun K hK => ?_)
      rw [if_pos (by rfl)]
      unfold qE21_35
      go_simp
      refine (specTotal_tab hHeld.lb HDF.out.b0).mono ?_
      rintro e w5 ⟨rfl, hbd⟩
      dsimp only
      refine Shut.out hK _ _ ?_ (fun hHeld => ?_)
      · skip
        exact hHeld.below hbd
      clear hK K
      try simp only [Act.put, List.setIfInBounds_toArray, List.set_cons_zero, List.set_cons_succ]
      refine tE21_36 (.int .i64 (ta + tb)) (fun _ _ _ h => h) (Or.inl ⟨by rfl, fun W hSw => ?_⟩) hHeld ?_
      · skip
        unfold qE21_36
        go_simp
      try simp only [Act.put, List.setIfInBounds_toArray, List.set_cons_zero, List.set_cons_succ]
      refine tE21_37 (.bool true) (fun _ _ _ h => h) (Or.inl ⟨by rfl, fun W hSw => ?_⟩) hHeld ?_
      · skip
        unfold qE21_37
        go_simp
      try simp only [Act.put, List.setIfInBounds_toArray, List.set_cons_zero, List.set_cons_succ]
      refine tE21_38 (.bool true) (fun _ _ _ h => h) (Or.inl ⟨by rfl, fun W hSw => ?_⟩) hHeld ?_
      · skip
        unfold qE21_38
        go_simp
      try simp only [Act.put, List.setIfInBounds_toArray, List.set_cons_zero, List.set_cons_succ]
      refine tE21_39 (.bool true) (fun _ _ _ h => h) (Or.inl ⟨by rfl, fun W hSw => ?_⟩) hHeld ?_
      · skip
        unfold qE21_39
        go_simp
      try simp only [Act.put, List.setIfInBounds_toArray, List.set_cons_zero, List.set_cons_succ]
      refine tE21_40 (.bool true) (fun _ _ _ h => h) (Or.inl ⟨by rfl, fun W hSw => ?_⟩) hHeld ?_
      · skip
        unfold qE21_40
        go_simp
      try simp only [Act.put, List.setIfInBounds_toArray, List.set_cons_zero, List.set_cons_succ]
      refine wpAnyH_done (by kernel_rfl) ?_ _
      have BF := Lib.hid (below_chain B21.out hHeld.bel)
      clear hHeld
      go_wp2
      go_ret
      exact ⟨rfl, BF.out⟩
end Go.Proofs.Ytiehpniogehkmaa.fnCounts
