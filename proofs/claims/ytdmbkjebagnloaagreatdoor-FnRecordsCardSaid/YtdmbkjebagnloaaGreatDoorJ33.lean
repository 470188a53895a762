/-
  The walk of FnRecords, given the contracts of the program's functions.
-/
import Derived.Test.YtdmbkjebagnloaaGreatDoorJ30
import Derived.Test.YtdmbkjebagnloaaGreatDoorRegF10
import Derived.Test.YtdmbkjebagnloaaGreatDoorRegF16
import Derived.Deep.RegionHeld3

namespace Go.Proofs.YtdmbkjebagnloaaGreatDoor.hexes
open Go.RowKit
structure RcY (W : World) (b o : Nat) (p0 p1 p2 p3 p4 : Int) (o' : Nat) (q0 q1 q2 q3 q4 : Int) (w' : World) : Prop where
  c0 : w'.cell? ⟨b, o, none⟩ = some (.int .i64 p0)
  c1 : w'.cell? ⟨b, o + 1, none⟩ = some (.int .i64 p1)
  c2 : w'.cell? ⟨b, o + 2, none⟩ = some (.int .i64 p2)
  c3 : w'.cell? ⟨b, o + 3, none⟩ = some (.int .i64 p3)
  c4 : w'.cell? ⟨b, o + 4, none⟩ = some (.int .i64 p4)
  d0 : w'.cell? ⟨b, o', none⟩ = some (.int .i64 q0)
  d1 : w'.cell? ⟨b, o' + 1, none⟩ = some (.int .i64 q1)
  d2 : w'.cell? ⟨b, o' + 2, none⟩ = some (.int .i64 q2)
  d3 : w'.cell? ⟨b, o' + 3, none⟩ = some (.int .i64 q3)
  d4 : w'.cell? ⟨b, o' + 4, none⟩ = some (.int .i64 q4)
  bel : Below W.heap.size W w'
theorem RcY.drew {W : World} {b o : Nat} {p0 p1 p2 p3 p4 : Int} {o' : Nat} {q0 q1 q2 q3 q4 : Int} {w' : World} (h : RcY W b o p0 p1 p2 p3 p4 o' q0 q1 q2 q3 q4 w') : RcY W b o p0 p1 p2 p3 p4 o' q0 q1 q2 q3 q4 w'.drew := ⟨h.c0, h.c1, h.c2, h.c3, h.c4, h.d0, h.d1, h.d2, h.d3, h.d4, h.bel.drew⟩
theorem RcY.below {W : World} {b o : Nat} {p0 p1 p2 p3 p4 : Int} {o' : Nat} {q0 q1 q2 q3 q4 : Int} {w' w2 : World} (h : RcY W b o p0 p1 p2 p3 p4 o' q0 q1 q2 q3 q4 w') (hb : Below w'.heap.size w' w2) : RcY W b o p0 p1 p2 p3 p4 o' q0 q1 q2 q3 q4 w2 := ⟨below_keep hb h.c0, below_keep hb h.c1, below_keep hb h.c2, below_keep hb h.c3, below_keep hb h.c4, below_keep hb h.d0, below_keep hb h.d1, below_keep hb h.d2, below_keep hb h.d3, below_keep hb h.d4, below_chain h.bel hb⟩
theorem RTab.drew {w : World} {A : Option Addr} {n c : Nat} {zs : List Rc} (h : RTab w A n c zs) : RTab w.drew A n c zs := ⟨h.few, h.len, h.nil, h.rcs, h.wf⟩
theorem BoxR.drew {w : World} {b : Nat} {p0 p1 p2 p3 p4 : Int} (h : BoxR w b p0 p1 p2 p3 p4) : BoxR w.drew b p0 p1 p2 p3 p4 := ⟨h.c0, h.c1, h.c2, h.c3, h.c4⟩
structure F16S (W : World) (A1 : Option Addr) (n1 c1 : Nat) (z1 : List Rc) (A2 : Option Addr) (n2 c2 : Nat) (z2 : List Rc) (A3 : Option Addr) (n3 c3 : Nat) (z3 : List Rc) (A4 : Option Addr) (n4 c4 : Nat) (z4 : List Rc) (br : Nat) (p0 p1 p2 p3 p4 : Int) (bx : Nat) (x0 x1 x2 x3 x4 : Int) (by_ : Nat) (y0 y1 y2 y3 y4 : Int) (w' : World) : Prop where
  la : RTab w' A1 n1 c1 z1
  lb : RTab w' A2 n2 c2 z2
  ll : RTab w' A3 n3 c3 z3
  lm : RTab w' A4 n4 c4 z4
  br : BoxR w' br p0 p1 p2 p3 p4
  bx : BoxR w' bx x0 x1 x2 x3 x4
  bb : BoxR w' by_ y0 y1 y2 y3 y4
  tab : Lib.TabIs Tryz.prog w' "internal/strconv.uint64pow10" .u64 Lib.pow10Tab
  bel : Below W.heap.size W w'
theorem F16S.drew {W : World} {A1 : Option Addr} {n1 c1 : Nat} {z1 : List Rc} {A2 : Option Addr} {n2 c2 : Nat} {z2 : List Rc} {A3 : Option Addr} {n3 c3 : Nat} {z3 : List Rc} {A4 : Option Addr} {n4 c4 : Nat} {z4 : List Rc} {br : Nat} {p0 p1 p2 p3 p4 : Int} {bx : Nat} {x0 x1 x2 x3 x4 : Int} {by_ : Nat} {y0 y1 y2 y3 y4 : Int} {w' : World} (h : F16S W A1 n1 c1 z1 A2 n2 c2 z2 A3 n3 c3 z3 A4 n4 c4 z4 br p0 p1 p2 p3 p4 bx x0 x1 x2 x3 x4 by_ y0 y1 y2 y3 y4 w') : F16S W A1 n1 c1 z1 A2 n2 c2 z2 A3 n3 c3 z3 A4 n4 c4 z4 br p0 p1 p2 p3 p4 bx x0 x1 x2 x3 x4 by_ y0 y1 y2 y3 y4 w'.drew := ⟨h.la.drew, h.lb.drew, h.ll.drew, h.lm.drew, h.br.drew, h.bx.drew, h.bb.drew, pow10_below h.tab ((Below.refl _ _).drew), h.bel.drew⟩
theorem F16S.below {W : World} {A1 : Option Addr} {n1 c1 : Nat} {z1 : List Rc} {A2 : Option Addr} {n2 c2 : Nat} {z2 : List Rc} {A3 : Option Addr} {n3 c3 : Nat} {z3 : List Rc} {A4 : Option Addr} {n4 c4 : Nat} {z4 : List Rc} {br : Nat} {p0 p1 p2 p3 p4 : Int} {bx : Nat} {x0 x1 x2 x3 x4 : Int} {by_ : Nat} {y0 y1 y2 y3 y4 : Int} {w' w2 : World} (h : F16S W A1 n1 c1 z1 A2 n2 c2 z2 A3 n3 c3 z3 A4 n4 c4 z4 br p0 p1 p2 p3 p4 bx x0 x1 x2 x3 x4 by_ y0 y1 y2 y3 y4 w') (hb : Below w'.heap.size w' w2) : F16S W A1 n1 c1 z1 A2 n2 c2 z2 A3 n3 c3 z3 A4 n4 c4 z4 br p0 p1 p2 p3 p4 bx x0 x1 x2 x3 x4 by_ y0 y1 y2 y3 y4 w2 := ⟨h.la.below hb, h.lb.below hb, h.ll.below hb, h.lm.below hb, h.br.below hb, h.bx.below hb, h.bb.below hb, pow10_below h.tab hb, below_chain h.bel hb⟩
end Go.Proofs.YtdmbkjebagnloaaGreatDoor.hexes
namespace Go.Proofs.YtdmbkjebagnloaaGreatDoor.fnRecords
open Go.RowKit Go.Proofs.YtdmbkjebagnloaaGreatDoor.hexes

set_option maxRecDepth 1000000 in
set_option maxHeartbeats 8000000 in
theorem walk_of (I : ImplRc) (a0 : Option Addr) (len0 cap0 : Nat) (z0 : List Int) (w : World) (w0 : IsRow .u8 w a0 len0 cap0 z0) (htab : Lib.TabIs Tryz.prog w "internal/strconv.uint64pow10" .u64 Lib.pow10Tab) :
    Calls Tryz.prog 3 #[.slice a0 len0 cap0] w fun e w' => e = .returned (.bool true) ∧ Below w.heap.size w w' := by
  have hcame := came_of_row w0
  have HG := Lib.hid (fun W => big_any a0 len0 cap0 W)
  by_cases h1 : 1048576 < len0
  · have hd : decide (1048576 < (len0 : Int)) = true := by simp; omega
    clear hcame w0 htab
    go_enter Tryz.func3, Tryz.ntmps3
    go_wp2_with (go_at_call 4; refine (HG.out _).mono ?_; rintro e w1 ⟨rfl, rfl⟩)
    go_ret
    exact ⟨rfl, Below.refl _ _⟩
  have hd : decide (1048576 < (len0 : Int)) = false := by simp; omega
  have HC := Lib.hid hcame
  have HT := Lib.hid htab
  clear hcame w0 htab
  go_enter Tryz.func3, Tryz.ntmps3
  go_wp2_with (go_at_call 4; refine (HG.out _).mono ?_; rintro e w1 ⟨rfl, rfl⟩)
  refine (drawSortRc_any _ a0 len0 cap0 (by omega) HC.out).mono ?_
  rintro e w1 ⟨A1, n1, c1, zs, rfl, L1, b1⟩
  have B1 := Lib.hid (b1)
  have HC_1 := Lib.hid (HC.out.below b1)
  clear HC
  have HT_1 := Lib.hid (pow10_below HT.out b1)
  clear HT
  clear b1
  have Ll_1 := Lib.hid L1
  clear L1
  have hfew := Ll_1.out.few
  go_wp2_with fail
  refine (sort_tab I Ll_1.out).mono ?_
  rintro e w2 ⟨A2, c2, rfl, L2, b2⟩
  have B2 := Lib.hid (below_chain B1.out b2)
  have HC_2 := Lib.hid (HC_1.out.below b2)
  clear HC_1
  have HT_2 := Lib.hid (pow10_below HT_1.out b2)
  clear HT_1
  have Ll_2 := Lib.hid (Ll_1.out.below b2)
  clear Ll_1
  clear b2 B1
  have Lo_2 := Lib.hid L2
  clear L2
  go_wp2_with fail
  refine (specSort_tab Ll_2.out).mono ?_
  rintro e w3 ⟨A3, c3, rfl, L3, b3⟩
  have B3 := Lib.hid (below_chain B2.out b3)
  have HC_3 := Lib.hid (HC_2.out.below b3)
  clear HC_2
  have HT_3 := Lib.hid (pow10_below HT_2.out b3)
  clear HT_2
  have Ll_3 := Lib.hid (Ll_2.out.below b3)
  clear Ll_2
  have Lo_3 := Lib.hid (Lo_2.out.below b3)
  clear Lo_2
  clear b3 B2
  have Ls_3 := Lib.hid L3
  clear L3
  go_wp2_with fail
  refine (sameRcs_tab Lo_3.out Ls_3.out).mono ?_
  rintro e w4 ⟨rfl, b4⟩
  have B4 := Lib.hid (below_chain B3.out b4)
  have HC_4 := Lib.hid (HC_3.out.below b4)
  clear HC_3
  have HT_4 := Lib.hid (pow10_below HT_3.out b4)
  clear HT_3
  have Ll_4 := Lib.hid (Ll_3.out.below b4)
  clear Ll_3
  have Lo_4 := Lib.hid (Lo_3.out.below b4)
  clear Lo_3
  have Ls_4 := Lib.hid (Ls_3.out.below b4)
  clear Ls_3
  clear b4 B3
  clear Ls_4
  go_wp2_with fail
  refine (bag_tab I (r := true) Lo_4.out Ll_4.out (bagR_perm (sortR_perm zs))).mono ?_
  rintro e w5 ⟨rfl, b5⟩
  have B5 := Lib.hid (below_chain B4.out b5)
  have HC_5 := Lib.hid (HC_4.out.below b5)
  clear HC_4
  have HT_5 := Lib.hid (pow10_below HT_4.out b5)
  clear HT_4
  have Ll_5 := Lib.hid (Ll_4.out.below b5)
  clear Ll_4
  have Lo_5 := Lib.hid (Lo_4.out.below b5)
  clear Lo_4
  clear b5 B4
  obtain ⟨os, hos⟩ : ∃ os, sortR zs = os := ⟨_, rfl⟩
  have ASC := Lib.hid (show AscR os by rw [← hos]; exact sortR_asc zs)
  rw [hos] at Lo_5
  clear hos
  go_wp2
  go_loopw [5] (fun ii wr => ∃ i : Nat, 1 ≤ i ∧ ii = .int .i64 i ∧ Below w5.heap.size w5 wr) (fun ii _ => n1 - (intOf ii).toNat)
  case atStart => exact ⟨1, Nat.le_refl _, rfl, Below.refl _ _⟩
  case round =>
    obtain ⟨i, hi1, rfl, b6⟩ := hrel
    obtain ⟨w6, hw6⟩ : ∃ w6, w6 = wr := ⟨_, rfl⟩
    subst hw6
    by_cases hlt : i < n1
    · have B6 := Lib.hid b6
      have TO := Lib.hid (Lo_5.out.below b6)
      clear b6
      have li : i < os.length := by rw [TO.out.len]; exact hlt
      obtain ⟨j, hj⟩ : ∃ j, i = j + 1 := ⟨i - 1, by omega⟩
      have lj : j < os.length := by omega
      obtain ⟨b', off, q0, q1', q2', q3, q4, hA, xq, d0, d1, d2, d3, d4⟩ := TO.out.rcs.at li
      obtain ⟨b'', off', p0, p1, p2, p3, p4, hA', xp, e0, e1, e2, e3, e4⟩ := TO.out.rcs.at lj
      rw [hA] at hA'
      simp only [Option.some.injEq, Addr.mk.injEq, and_true] at hA'
      obtain ⟨rfl, rfl⟩ := hA'
      obtain ⟨ov, hov⟩ : ∃ ov, ordRc (p0, (p1, p2), p3, p4) (q0, (q1', q2'), q3, q4) = ov := ⟨_, rfl⟩
      have E := Lib.hid (fun W => ord_is I hov W)
      have hle : decide (ov > 0) = false := decide_eq_false (fun h => by
        have h2 := (ordRc_pos _ _).1 (show 0 < ordRc (p0, (p1, p2), p3, p4) (q0, (q1', q2'), q3, q4) by rw [hov]; exact h)
        have h3 := List.pairwise_iff_getElem.1 ASC.out j i lj li (by omega)
        rw [xp, xq] at h3
        exact h3 h2)
      have hsub : (i : Int) - 1 = (j : Int) := by omega
      have hwr : IntKind.i64.wrap (j : Int) = (j : Int) := IntWalk.i64_in _ (by omega)
      have j0 : (0 : Int) ≤ (j : Int) := by omega
      have j1 : (j : Int) < (n1 : Int) := by omega
      have i0 : (0 : Int) ≤ (i : Int) := by omega
      have i1 : (i : Int) < (n1 : Int) := by omega
      have T0 := Lib.hid (show RcY w6 b' (off + j * 5) p0 p1 p2 p3 p4 (off + i * 5) q0 q1' q2' q3 q4 w6 from ⟨e0, e1, e2, e3, e4, d0, d1, d2, d3, d4, Below.refl _ _⟩)
      clear xp xq hov lj li hj d0 d1 d2 d3 d4 e0 e1 e2 e3 e4
      rw [hA]
      go_wp2_with fail
      refine wp_region_held_drew (S := RcY w6 b' (off + j * 5) p0 p1 p2 p3 p4 (off + i * 5) q0 q1' q2' q3 q4) (by kernel_rfl) ?_ (fun hHeld => ?_)
      · skip
        exact T0.out.drew
      change wpAnyH _ _ opsF10 _ _ 11 (LF10 0) _ _
      refine tF10_0 (.slice (some ⟨b', off, none⟩) n1 c2) (fun _ _ _ h => h) (Or.inl ⟨by rfl, fun W hSw => ?_⟩) hHeld ?_
      · skip
        unfold qF10_0
        go_simp
      try simp only [Act.put, List.setIfInBounds_toArray, List.set_cons_zero, List.set_cons_succ]
      refine tF10_1 (.int .i64 (i : Int)) (fun _ _ _ h => h) (Or.inl ⟨by rfl, fun W hSw => ?_⟩) hHeld ?_
      · skip
        unfold qF10_1
        go_simp
      try simp only [Act.put, List.setIfInBounds_toArray, List.set_cons_zero, List.set_cons_succ]
      refine tF10_2 (.int .i64 (j : Int)) (fun _ _ _ h => h) (Or.inl ⟨by rfl, fun W hSw => ?_⟩) hHeld ?_
      · skip
        unfold qF10_2
        go_simp
      try simp only [Act.put, List.setIfInBounds_toArray, List.set_cons_zero, List.set_cons_succ]
      refine tF10_3 (.pointer (some ⟨b', off + j * 5, none⟩)) (fun _ _ _ h => h) (Or.inl ⟨by rfl, fun W hSw => ?_⟩) hHeld ?_
      · skip
        unfold qF10_3
        go_simp
      try simp only [Act.put, List.setIfInBounds_toArray, List.set_cons_zero, List.set_cons_succ]
      refine tF10_4 (.agg #[.int .i64 p0, .int .i64 p1, .int .i64 p2, .int .i64 p3, .int .i64 p4]) (fun _ _ _ h => h) (Or.inl ⟨by rfl, fun W hSw => ?_⟩) hHeld ?_
      · skip
        unfold qF10_4
        obtain ⟨c0, c1, c2, c3, c4, d0, d1, d2, d3, d4, bl⟩ := hSw
        go_simp
      try simp only [Act.put, List.setIfInBounds_toArray, List.set_cons_zero, List.set_cons_succ]
      refine tF10_5 (.slice (some ⟨b', off, none⟩) n1 c2) (fun _ _ _ h => h) (Or.inl ⟨by rfl, fun W hSw => ?_⟩) hHeld ?_
      · skip
        unfold qF10_5
        go_simp
      try simp only [Act.put, List.setIfInBounds_toArray, List.set_cons_zero, List.set_cons_succ]
      refine tF10_6 (.int .i64 (i : Int)) (fun _ _ _ h => h) (Or.inl ⟨by rfl, fun W hSw => ?_⟩) hHeld ?_
      · skip
        unfold qF10_6
        go_simp
      try simp only [Act.put, List.setIfInBounds_toArray, List.set_cons_zero, List.set_cons_succ]
      refine tF10_7 (.pointer (some ⟨b', off + i * 5, none⟩)) (fun _ _ _ h => h) (Or.inl ⟨by rfl, fun W hSw => ?_⟩) hHeld ?_
      · skip
        unfold qF10_7
        go_simp
      try simp only [Act.put, List.setIfInBounds_toArray, List.set_cons_zero, List.set_cons_succ]
      refine tF10_8 (.agg #[.int .i64 q0, .int .i64 q1', .int .i64 q2', .int .i64 q3, .int .i64 q4]) (fun _ _ _ h => h) (Or.inl ⟨by rfl, fun W hSw => ?_⟩) hHeld ?_
      · skip
        unfold qF10_8
        obtain ⟨c0, c1, c2, c3, c4, d0, d1, d2, d3, d4, bl⟩ := hSw
        go_simp
      try simp only [Act.put, List.setIfInBounds_toArray, List.set_cons_zero, List.set_cons_succ]
      refine cF10_9 (fun K hK => ?_)
      rw [if_pos (by rfl)]
      unfold qF10_9
      go_simp
      with_reducible refine (E.out _).mono ?_
      rintro e w99 ⟨rfl, hbd⟩
      dsimp only
      refine Shut.out hK _ _ ?_ (fun hHeld => ?_)
      · skip
        exact hHeld.below hbd
      clear hK K
      try simp only [Act.put, List.setIfInBounds_toArray, List.set_cons_zero, List.set_cons_succ]
      refine tF10_10 (.bool false) (fun _ _ _ h => h) (Or.inl ⟨by rfl, fun W hSw => ?_⟩) hHeld ?_
      · skip
        unfold qF10_10
        go_simp
      try simp only [Act.put, List.setIfInBounds_toArray, List.set_cons_zero, List.set_cons_succ]
      refine wpAnyH_done (by kernel_rfl) ?_ _
      have BF := Lib.hid (below_chain B6.out hHeld.bel)
      clear hHeld T0
      go_wp2
      go_roundw
      case rel => exact ⟨i + 1, by omega, by go_num, BF.out⟩
      case measure => simp [intOf]; omega
    · skip
      have B6 := Lib.hid (below_chain B5.out b6)
      have HC_6 := Lib.hid (HC_5.out.below b6)
      clear HC_5
      have HT_6 := Lib.hid (pow10_below HT_5.out b6)
      clear HT_5
      have Ll_6 := Lib.hid (Ll_5.out.below b6)
      clear Ll_5
      have Lo_6 := Lib.hid (Lo_5.out.below b6)
      clear Lo_5
      clear b6 B5
      clear Lo_6
      go_wp2_with fail
      clear hlt hi1
      refine (drawBag_any _ a0 len0 cap0 (by omega) HC_6.out).mono ?_
      rintro e w7 ⟨A7, n7, c7, ga, A7_, n7_, c7_, gb, rfl, L7, L7_, b7⟩
      have B7 := Lib.hid (below_chain B6.out b7)
      have HC_7 := Lib.hid (HC_6.out.below b7)
      clear HC_6
      have HT_7 := Lib.hid (pow10_below HT_6.out b7)
      clear HT_6
      have Ll_7 := Lib.hid (Ll_6.out.below b7)
      clear Ll_6
      clear b7 B6
      have La_7 := Lib.hid L7
      clear L7
      have Lb_7 := Lib.hid L7_
      clear L7_
      go_wp2_with fail
      refine (drawRcOk_any _ a0 len0 cap0 (by omega) HC_7.out).mono ?_
      rintro e w8 ⟨p0, p1, p2, p3, p4, wfp, rfl, b8⟩
      have B8 := Lib.hid (below_chain B7.out b8)
      have HC_8 := Lib.hid (HC_7.out.below b8)
      clear HC_7
      have HT_8 := Lib.hid (pow10_below HT_7.out b8)
      clear HT_7
      have Ll_8 := Lib.hid (Ll_7.out.below b8)
      clear Ll_7
      have La_8 := Lib.hid (La_7.out.below b8)
      clear La_7
      have Lb_8 := Lib.hid (Lb_7.out.below b8)
      clear Lb_7
      clear b8 B7
      have WP := Lib.hid wfp
      clear wfp
      go_wp2_with fail
      generalize hW9 : w8.alloc _ = w9
      have b9 : Below w8.heap.size w8 w9 := by rw [← hW9]; exact (Below.refl _ _).alloc (Nat.le_refl _) _
      have R9 : BoxR w9 w8.heap.size p0 p1 p2 p3 p4 := by rw [← hW9]; exact ⟨by simp, by simp, by simp, by simp, by simp⟩
      clear hW9
      have B9 := Lib.hid (below_chain B8.out b9)
      have HC_9 := Lib.hid (HC_8.out.below b9)
      clear HC_8
      have HT_9 := Lib.hid (pow10_below HT_8.out b9)
      clear HT_8
      have Ll_9 := Lib.hid (Ll_8.out.below b9)
      clear Ll_8
      have La_9 := Lib.hid (La_8.out.below b9)
      clear La_8
      have Lb_9 := Lib.hid (Lb_8.out.below b9)
      clear Lb_8
      clear b9 B8
      have Br_9 := Lib.hid R9
      clear R9
      refine (drawRcOrd_any _ a0 len0 cap0 (by omega) HC_9.out).mono ?_
      rintro e w10 ⟨x0, x1, x2, x3, x4, y0, y1, y2, y3, y4, wfx, wfy, rfl, b10⟩
      have B10 := Lib.hid (below_chain B9.out b10)
      have HC_10 := Lib.hid (HC_9.out.below b10)
      clear HC_9
      have HT_10 := Lib.hid (pow10_below HT_9.out b10)
      clear HT_9
      have Ll_10 := Lib.hid (Ll_9.out.below b10)
      clear Ll_9
      have La_10 := Lib.hid (La_9.out.below b10)
      clear La_9
      have Lb_10 := Lib.hid (Lb_9.out.below b10)
      clear Lb_9
      have Br_10 := Lib.hid (Br_9.out.below b10)
      clear Br_9
      clear b10 B9
      have WX := Lib.hid wfx
      have WY := Lib.hid wfy
      clear wfx wfy
      go_wp2_with fail
      generalize hW11 : (w10.alloc _).alloc _ = w11
      have b11 : Below w10.heap.size w10 w11 := by rw [← hW11]; exact ((Below.refl _ _).alloc (Nat.le_refl _) _).alloc (by simp) _
      have R11 : BoxR w11 w10.heap.size x0 x1 x2 x3 x4 := by rw [← hW11]; exact ⟨alloc_keep (by simp), alloc_keep (by simp), alloc_keep (by simp), alloc_keep (by simp), alloc_keep (by simp)⟩
      have R11_ : BoxR w11 (w10.heap.size + 1) y0 y1 y2 y3 y4 := by rw [← hW11]; exact ⟨by simp, by simp, by simp, by simp, by simp⟩
      clear hW11
      have B11 := Lib.hid (below_chain B10.out b11)
      have HC_11 := Lib.hid (HC_10.out.below b11)
      clear HC_10
      have HT_11 := Lib.hid (pow10_below HT_10.out b11)
      clear HT_10
      have Ll_11 := Lib.hid (Ll_10.out.below b11)
      clear Ll_10
      have La_11 := Lib.hid (La_10.out.below b11)
      clear La_10
      have Lb_11 := Lib.hid (Lb_10.out.below b11)
      clear Lb_10
      have Br_11 := Lib.hid (Br_10.out.below b11)
      clear Br_10
      clear b11 B10
      have Bx_11 := Lib.hid R11
      clear R11
      have By_11 := Lib.hid R11_
      clear R11_
      refine (drawOfEp_any _ a0 len0 cap0 (by omega) HC_11.out).mono ?_
      rintro e w12 ⟨A12, n12, c12, ms, ep, rfl, L12, b12⟩
      have B12 := Lib.hid (below_chain B11.out b12)
      have HC_12 := Lib.hid (HC_11.out.below b12)
      clear HC_11
      have HT_12 := Lib.hid (pow10_below HT_11.out b12)
      clear HT_11
      have Ll_12 := Lib.hid (Ll_11.out.below b12)
      clear Ll_11
      have La_12 := Lib.hid (La_11.out.below b12)
      clear La_11
      have Lb_12 := Lib.hid (Lb_11.out.below b12)
      clear Lb_11
      have Br_12 := Lib.hid (Br_11.out.below b12)
      clear Br_11
      have Bx_12 := Lib.hid (Bx_11.out.below b12)
      clear Bx_11
      have By_12 := Lib.hid (By_11.out.below b12)
      clear By_11
      clear b12 B11
      have Lm_12 := Lib.hid L12
      clear L12
      obtain ⟨rb, hrb⟩ : ∃ r, bagR ga gb = r := ⟨_, rfl⟩
      obtain ⟨ro, hro⟩ : ∃ r, okRc (p0, (p1, p2), p3, p4) = r := ⟨_, rfl⟩
      obtain ⟨rt, hrt⟩ : ∃ r, rcText (p0, (p1, p2), p3, p4) = r := ⟨_, rfl⟩
      obtain ⟨ov, hov⟩ : ∃ r, ordRc (x0, (x1, x2), x3, x4) (y0, (y1, y2), y3, y4) = r := ⟨_, rfl⟩
      obtain ⟨ou, hou⟩ : ∃ r, ordRc (y0, (y1, y2), y3, y4) (x0, (x1, x2), x3, x4) = r := ⟨_, rfl⟩
      obtain ⟨us, hus⟩ : ∃ us, ofEpR ms ep = us := ⟨_, rfl⟩
      obtain ⟨um, hum⟩ : ∃ m, us.length = m := ⟨_, rfl⟩
      obtain ⟨cs, hcs⟩ : ∃ cs, cntR zs = cs := ⟨_, rfl⟩
      obtain ⟨cm, hcm⟩ : ∃ m, cs.length = m := ⟨_, rfl⟩
      have hcmb : cm ≤ 4194304 := by have h1 := cntR_len zs zs.length; rw [List.take_length, hcs, hcm] at h1; have h2 := Ll_12.out.len; omega
      have hsw : ov = -ou := by rw [← hov, ← hou]; exact ordRc_swap _ _
      have hbd1 := ordRc_bd (y0, (y1, y2), y3, y4) (x0, (x1, x2), x3, x4)
      rw [hou] at hbd1
      have hneg : IntKind.i64.wrap (-ou) = ov := by rw [hsw]; exact IntWalk.i64_in _ (by omega)
      have HRB := Lib.hid hrb
      have HRO := Lib.hid hro
      have HRT := Lib.hid hrt
      have HOV := Lib.hid hov
      have HOU := Lib.hid hou
      have HUS := Lib.hid hus
      have HUM := Lib.hid hum
      have HCS := Lib.hid hcs
      have HCM := Lib.hid hcm
      have k1 : (rb == rb) = true := by simp
      have k2 : (ro == ro) = true := by simp
      have k3 : (ov == ov) = true := by simp
      clear hrb hro hrt hov hou hus hum hcs hcm hsw hbd1
      have T0 := Lib.hid (show F16S w12 A7 n7 c7 ga A7_ n7_ c7_ gb A1 n1 c1 zs A12 n12 c12 ms w8.heap.size p0 p1 p2 p3 p4 w10.heap.size x0 x1 x2 x3 x4 (w10.heap.size + 1) y0 y1 y2 y3 y4 w12 from ⟨La_12.out, Lb_12.out, Ll_12.out, Lm_12.out, Br_12.out, Bx_12.out, By_12.out, HT_12.out, Below.refl _ _⟩)
      go_wp2_with fail
      refine wp_region_held_drew (S := F16S w12 A7 n7 c7 ga A7_ n7_ c7_ gb A1 n1 c1 zs A12 n12 c12 ms w8.heap.size p0 p1 p2 p3 p4 w10.heap.size x0 x1 x2 x3 x4 (w10.heap.size + 1) y0 y1 y2 y3 y4) (by kernel_rfl) ?_ (fun hHeld => ?_)
      · skip
        exact T0.out.drew
      change wpAnyH _ _ opsF16 _ _ 62 (LF16 0) _ _
      refine tF16_0 (.slice A7 n7 c7) (fun _ _ _ h => h) (Or.inl ⟨by rfl, fun W hSw => ?_⟩) hHeld ?_
      · skip
        unfold qF16_0
        go_simp
      try simp only [Act.put, List.setIfInBounds_toArray, List.set_cons_zero, List.set_cons_succ]
      refine tF16_1 (.slice A7_ n7_ c7_) (fun _ _ _ h => h) (Or.inl ⟨by rfl, fun W hSw => ?_⟩) hHeld ?_
      · skip
        unfold qF16_1
        go_simp
      try simp only [Act.put, List.setIfInBounds_toArray, List.set_cons_zero, List.set_cons_succ]
      refine tF16_2 (.slice A7 n7 c7) (fun _ _ _ h => h) (Or.inl ⟨by rfl, fun W hSw => ?_⟩) hHeld ?_
      · skip
        unfold qF16_3
        go_simp
      try simp only [Act.put, List.setIfInBounds_toArray, List.set_cons_zero, List.set_cons_succ]
      refine tF16_3 (.slice A7_ n7_ c7_) (fun _ _ _ h => h) (Or.inl ⟨by rfl, fun W hSw => ?_⟩) hHeld ?_
      · skip
        unfold qF16_4
        go_simp
      try simp only [Act.put, List.setIfInBounds_toArray, List.set_cons_zero, List.set_cons_succ]
      refine cF16_4 (fun K hK => ?_)
      rw [if_pos (by rfl)]
      unfold qF16_2
      go_simp
      refine (bag_tab I hHeld.la hHeld.lb HRB.out).mono ?_
      rintro e w61 ⟨rfl, hbd⟩
      dsimp only
      refine Shut.out hK _ _ ?_ (fun hHeld => ?_)
      · skip
        exact hHeld.below hbd
      clear hK K
      try simp only [Act.put, List.setIfInBounds_toArray, List.set_cons_zero, List.set_cons_succ]
      refine cF16_5 (fun K hK => ?_)
      rw [if_pos (by rfl)]
      unfold qF16_5
      go_simp
      refine (specBag_tab hHeld.la hHeld.lb HRB.out).mono ?_
      rintro e w62 ⟨rfl, hbd⟩
      dsimp only
      refine Shut.out hK _ _ ?_ (fun hHeld => ?_)
      · skip
        exact hHeld.below hbd
      clear hK K
      try simp only [Act.put, List.setIfInBounds_toArray, List.set_cons_zero, List.set_cons_succ]
      refine tF16_6 (.bool true) (fun _ _ _ h => h) (Or.inl ⟨by rfl, fun W hSw => ?_⟩) hHeld ?_
      · skip
        unfold qF16_6
        go_simp
      try simp only [Act.put, List.setIfInBounds_toArray, List.set_cons_zero, List.set_cons_succ]
      refine tF16_7 (.bool true) (fun _ _ _ h => h) (Or.inl ⟨by rfl, fun W hSw => ?_⟩) hHeld ?_
      · skip
        unfold qF16_7
        go_simp
      try simp only [Act.put, List.setIfInBounds_toArray, List.set_cons_zero, List.set_cons_succ]
      refine tF16_8 (.agg #[.int .i64 p0, .int .i64 p1, .int .i64 p2, .int .i64 p3, .int .i64 p4]) (fun _ _ _ h => h) (Or.inl ⟨by rfl, fun W hSw => ?_⟩) hHeld ?_
      · skip
        unfold qF16_8
        have hb_ := hSw.br
        obtain ⟨c0_, c1_, c2_, c3_, c4_⟩ := hb_
        go_simp
      try simp only [Act.put, List.setIfInBounds_toArray, List.set_cons_zero, List.set_cons_succ]
      refine tF16_9 (.agg #[.int .i64 p0, .int .i64 p1, .int .i64 p2, .int .i64 p3, .int .i64 p4]) (fun _ _ _ h => h) (Or.inl ⟨by rfl, fun W hSw => ?_⟩) hHeld ?_
      · skip
        unfold qF16_10
        have hb_ := hSw.br
        obtain ⟨c0_, c1_, c2_, c3_, c4_⟩ := hb_
        go_simp
      try simp only [Act.put, List.setIfInBounds_toArray, List.set_cons_zero, List.set_cons_succ]
      refine cF16_10 (fun K hK => ?_)
      rw [if_pos (by rfl)]
      unfold qF16_9
      go_simp
      refine (ok_is I HRO.out _).mono ?_
      rintro e w63 ⟨rfl, hbd⟩
      dsimp only
      refine Shut.out hK _ _ ?_ (fun hHeld => ?_)
      · skip
        exact hHeld.below hbd
      clear hK K
      try simp only [Act.put, List.setIfInBounds_toArray, List.set_cons_zero, List.set_cons_succ]
      refine cF16_11 (fun K hK => ?_)
      rw [if_pos (by rfl)]
      unfold qF16_11
      go_simp
      refine (specRcOk_is HRO.out _).mono ?_
      rintro e w64 ⟨rfl, hbd⟩
      dsimp only
      refine Shut.out hK _ _ ?_ (fun hHeld => ?_)
      · skip
        exact hHeld.below hbd
      clear hK K
      try simp only [Act.put, List.setIfInBounds_toArray, List.set_cons_zero, List.set_cons_succ]
      refine tF16_12 (.bool true) (fun _ _ _ h => h) (Or.inl ⟨by rfl, fun W hSw => ?_⟩) hHeld ?_
      · skip
        unfold qF16_12
        go_simp
      try simp only [Act.put, List.setIfInBounds_toArray, List.set_cons_zero, List.set_cons_succ]
      refine tF16_13 (.bool true) (fun _ _ _ h => h) (Or.inl ⟨by rfl, fun W hSw => ?_⟩) hHeld ?_
      · skip
        unfold qF16_13
        go_simp
      try simp only [Act.put, List.setIfInBounds_toArray, List.set_cons_zero, List.set_cons_succ]
      refine tF16_14 (.bool true) (fun _ _ _ h => h) (Or.inl ⟨by rfl, fun W hSw => ?_⟩) hHeld ?_
      · skip
        unfold qF16_14
        go_simp
      try simp only [Act.put, List.setIfInBounds_toArray, List.set_cons_zero, List.set_cons_succ]
      refine tF16_15 (.agg #[.int .i64 p0, .int .i64 p1, .int .i64 p2, .int .i64 p3, .int .i64 p4]) (fun _ _ _ h => h) (Or.inl ⟨by rfl, fun W hSw => ?_⟩) hHeld ?_
      · skip
        unfold qF16_15
        have hb_ := hSw.br
        obtain ⟨c0_, c1_, c2_, c3_, c4_⟩ := hb_
        go_simp
      try simp only [Act.put, List.setIfInBounds_toArray, List.set_cons_zero, List.set_cons_succ]
      refine tF16_16 (.agg #[.int .i64 p0, .int .i64 p1, .int .i64 p2, .int .i64 p3, .int .i64 p4]) (fun _ _ _ h => h) (Or.inl ⟨by rfl, fun W hSw => ?_⟩) hHeld ?_
      · skip
        unfold qF16_17
        have hb_ := hSw.br
        obtain ⟨c0_, c1_, c2_, c3_, c4_⟩ := hb_
        go_simp
      try simp only [Act.put, List.setIfInBounds_toArray, List.set_cons_zero, List.set_cons_succ]
      refine cF16_17 (fun K hK => ?_)
      rw [if_pos (by rfl)]
      unfold qF16_16
      go_simp
      refine (text_is I WP.out HRT.out _ hHeld.tab).mono ?_
      rintro e w65 ⟨rfl, hbd⟩
      dsimp only
      refine Shut.out hK _ _ ?_ (fun hHeld => ?_)
      · skip
        exact hHeld.below hbd
      clear hK K
      try simp only [Act.put, List.setIfInBounds_toArray, List.set_cons_zero, List.set_cons_succ]
      refine cF16_18 (fun K hK => ?_)
      rw [if_pos (by rfl)]
      unfold qF16_18
      go_simp
      refine (specText_is WP.out HRT.out _).mono ?_
      rintro e w66 ⟨rfl, hbd⟩
      dsimp only
      refine Shut.out hK _ _ ?_ (fun hHeld => ?_)
      · skip
        exact hHeld.below hbd
      clear hK K
      try simp only [Act.put, List.setIfInBounds_toArray, List.set_cons_zero, List.set_cons_succ]
      refine tF16_19 (.bool true) (fun _ _ _ h => h) (Or.inl ⟨by rfl, fun W hSw => ?_⟩) hHeld ?_
      · skip
        unfold qF16_19
        go_simp
      try simp only [Act.put, List.setIfInBounds_toArray, List.set_cons_zero, List.set_cons_succ]
      refine tF16_20 (.bool true) (fun _ _ _ h => h) (Or.inl ⟨by rfl, fun W hSw => ?_⟩) hHeld ?_
      · skip
        unfold qF16_20
        go_simp
      try simp only [Act.put, List.setIfInBounds_toArray, List.set_cons_zero, List.set_cons_succ]
      refine tF16_21 (.bool true) (fun _ _ _ h => h) (Or.inl ⟨by rfl, fun W hSw => ?_⟩) hHeld ?_
      · skip
        unfold qF16_21
        go_simp
      try simp only [Act.put, List.setIfInBounds_toArray, List.set_cons_zero, List.set_cons_succ]
      refine tF16_22 (.agg #[.int .i64 x0, .int .i64 x1, .int .i64 x2, .int .i64 x3, .int .i64 x4]) (fun _ _ _ h => h) (Or.inl ⟨by rfl, fun W hSw => ?_⟩) hHeld ?_
      · skip
        unfold qF16_22
        have hb_ := hSw.bx
        obtain ⟨c0_, c1_, c2_, c3_, c4_⟩ := hb_
        go_simp
      try simp only [Act.put, List.setIfInBounds_toArray, List.set_cons_zero, List.set_cons_succ]
      refine tF16_23 (.agg #[.int .i64 y0, .int .i64 y1, .int .i64 y2, .int .i64 y3, .int .i64 y4]) (fun _ _ _ h => h) (Or.inl ⟨by rfl, fun W hSw => ?_⟩) hHeld ?_
      · skip
        unfold qF16_23
        have hb_ := hSw.bb
        obtain ⟨c0_, c1_, c2_, c3_, c4_⟩ := hb_
        go_simp
      try simp only [Act.put, List.setIfInBounds_toArray, List.set_cons_zero, List.set_cons_succ]
      refine tF16_24 (.agg #[.int .i64 x0, .int .i64 x1, .int .i64 x2, .int .i64 x3, .int .i64 x4]) (fun _ _ _ h => h) (Or.inl ⟨by rfl, fun W hSw => ?_⟩) hHeld ?_
      · skip
        unfold qF16_25
        have hb_ := hSw.bx
        obtain ⟨c0_, c1_, c2_, c3_, c4_⟩ := hb_
        go_simp
      try simp only [Act.put, List.setIfInBounds_toArray, List.set_cons_zero, List.set_cons_succ]
      refine tF16_25 (.agg #[.int .i64 y0, .int .i64 y1, .int .i64 y2, .int .i64 y3, .int .i64 y4]) (fun _ _ _ h => h) (Or.inl ⟨by rfl, fun W hSw => ?_⟩) hHeld ?_
      · skip
        unfold qF16_26
        have hb_ := hSw.bb
        obtain ⟨c0_, c1_, c2_, c3_, c4_⟩ := hb_
        go_simp
      try simp only [Act.put, List.setIfInBounds_toArray, List.set_cons_zero, List.set_cons_succ]
      refine cF16_26 (fun K hK => ?_)
      rw [if_pos (by rfl)]
      unfold qF16_24
      go_simp
      refine (ord_is I HOV.out _).mono ?_
      rintro e w67 ⟨rfl, hbd⟩
      dsimp only
      refine Shut.out hK _ _ ?_ (fun hHeld => ?_)
      · skip
        exact hHeld.below hbd
      clear hK K
      try simp only [Act.put, List.setIfInBounds_toArray, List.set_cons_zero, List.set_cons_succ]
      refine cF16_27 (fun K hK => ?_)
      rw [if_pos (by rfl)]
      unfold qF16_27
      go_simp
      refine (specRcOrd_is HOV.out _).mono ?_
      rintro e w68 ⟨rfl, hbd⟩
      dsimp only
      refine Shut.out hK _ _ ?_ (fun hHeld => ?_)
      · skip
        exact hHeld.below hbd
      clear hK K
      try simp only [Act.put, List.setIfInBounds_toArray, List.set_cons_zero, List.set_cons_succ]
      refine tF16_28 (.bool true) (fun _ _ _ h => h) (Or.inl ⟨by rfl, fun W hSw => ?_⟩) hHeld ?_
      · skip
        unfold qF16_28
        go_simp
      try simp only [Act.put, List.setIfInBounds_toArray, List.set_cons_zero, List.set_cons_succ]
      refine tF16_29 (.bool true) (fun _ _ _ h => h) (Or.inl ⟨by rfl, fun W hSw => ?_⟩) hHeld ?_
      · skip
        unfold qF16_29
        go_simp
      try simp only [Act.put, List.setIfInBounds_toArray, List.set_cons_zero, List.set_cons_succ]
      refine tF16_30 (.bool true) (fun _ _ _ h => h) (Or.inl ⟨by rfl, fun W hSw => ?_⟩) hHeld ?_
      · skip
        unfold qF16_30
        go_simp
      try simp only [Act.put, List.setIfInBounds_toArray, List.set_cons_zero, List.set_cons_succ]
      refine tF16_31 (.agg #[.int .i64 x0, .int .i64 x1, .int .i64 x2, .int .i64 x3, .int .i64 x4]) (fun _ _ _ h => h) (Or.inl ⟨by rfl, fun W hSw => ?_⟩) hHeld ?_
      · skip
        unfold qF16_31
        have hb_ := hSw.bx
        obtain ⟨c0_, c1_, c2_, c3_, c4_⟩ := hb_
        go_simp
      try simp only [Act.put, List.setIfInBounds_toArray, List.set_cons_zero, List.set_cons_succ]
      refine tF16_32 (.agg #[.int .i64 y0, .int .i64 y1, .int .i64 y2, .int .i64 y3, .int .i64 y4]) (fun _ _ _ h => h) (Or.inl ⟨by rfl, fun W hSw => ?_⟩) hHeld ?_
      · skip
        unfold qF16_32
        have hb_ := hSw.bb
        obtain ⟨c0_, c1_, c2_, c3_, c4_⟩ := hb_
        go_simp
      try simp only [Act.put, List.setIfInBounds_toArray, List.set_cons_zero, List.set_cons_succ]
      refine tF16_33 (.agg #[.int .i64 y0, .int .i64 y1, .int .i64 y2, .int .i64 y3, .int .i64 y4]) (fun _ _ _ h => h) (Or.inl ⟨by rfl, fun W hSw => ?_⟩) hHeld ?_
      · skip
        unfold qF16_34
        have hb_ := hSw.bb
        obtain ⟨c0_, c1_, c2_, c3_, c4_⟩ := hb_
        go_simp
      try simp only [Act.put, List.setIfInBounds_toArray, List.set_cons_zero, List.set_cons_succ]
      refine tF16_34 (.agg #[.int .i64 x0, .int .i64 x1, .int .i64 x2, .int .i64 x3, .int .i64 x4]) (fun _ _ _ h => h) (Or.inl ⟨by rfl, fun W hSw => ?_⟩) hHeld ?_
      · skip
        unfold qF16_35
        have hb_ := hSw.bx
        obtain ⟨c0_, c1_, c2_, c3_, c4_⟩ := hb_
        go_simp
      try simp only [Act.put, List.setIfInBounds_toArray, List.set_cons_zero, List.set_cons_succ]
      refine cF16_35 (fun K hK => ?_)
      rw [if_pos (by rfl)]
      unfold qF16_33
      go_simp
      refine (ord_is I HOV.out _).mono ?_
      rintro e w69 ⟨rfl, hbd⟩
      dsimp only
      refine Shut.out hK _ _ ?_ (fun hHeld => ?_)
      · skip
        exact hHeld.below hbd
      clear hK K
      try simp only [Act.put, List.setIfInBounds_toArray, List.set_cons_zero, List.set_cons_succ]
      refine cF16_36 (fun K hK => ?_)
      rw [if_pos (by rfl)]
      unfold qF16_36
      go_simp
      refine (ord_is I HOU.out _).mono ?_
      rintro e w70 ⟨rfl, hbd⟩
      dsimp only
      refine Shut.out hK _ _ ?_ (fun hHeld => ?_)
      · skip
        exact hHeld.below hbd
      clear hK K
      try simp only [Act.put, List.setIfInBounds_toArray, List.set_cons_zero, List.set_cons_succ]
      refine tF16_37 (.int .i64 ov) (fun _ _ _ h => h) (Or.inl ⟨by rfl, fun W hSw => ?_⟩) hHeld ?_
      · skip
        unfold qF16_37
        go_simp
      try simp only [Act.put, List.setIfInBounds_toArray, List.set_cons_zero, List.set_cons_succ]
      refine tF16_38 (.bool true) (fun _ _ _ h => h) (Or.inl ⟨by rfl, fun W hSw => ?_⟩) hHeld ?_
      · skip
        unfold qF16_38
        go_simp
      try simp only [Act.put, List.setIfInBounds_toArray, List.set_cons_zero, List.set_cons_succ]
      refine tF16_39 (.bool true) (fun _ _ _ h => h) (Or.inl ⟨by rfl, fun W hSw => ?_⟩) hHeld ?_
      · skip
        unfold qF16_39
        go_simp
      try simp only [Act.put, List.setIfInBounds_toArray, List.set_cons_zero, List.set_cons_succ]
      refine tF16_40 (.bool true) (fun _ _ _ h => h) (Or.inl ⟨by rfl, fun W hSw => ?_⟩) hHeld ?_
      · skip
        unfold qF16_40
        go_simp
      try simp only [Act.put, List.setIfInBounds_toArray, List.set_cons_zero, List.set_cons_succ]
      refine tF16_41 (.slice A12 n12 c12) (fun _ _ _ h => h) (Or.inl ⟨by rfl, fun W hSw => ?_⟩) hHeld ?_
      · skip
        unfold qF16_41
        go_simp
      try simp only [Act.put, List.setIfInBounds_toArray, List.set_cons_zero, List.set_cons_succ]
      refine tF16_42 (.int .i64 ep) (fun _ _ _ h => h) (Or.inl ⟨by rfl, fun W hSw => ?_⟩) hHeld ?_
      · skip
        unfold qF16_42
        go_simp
      try simp only [Act.put, List.setIfInBounds_toArray, List.set_cons_zero, List.set_cons_succ]
      refine tF16_43 (.slice A12 n12 c12) (fun _ _ _ h => h) (Or.inl ⟨by rfl, fun W hSw => ?_⟩) hHeld ?_
      · skip
        unfold qF16_44
        go_simp
      try simp only [Act.put, List.setIfInBounds_toArray, List.set_cons_zero, List.set_cons_succ]
      refine tF16_44 (.int .i64 ep) (fun _ _ _ h => h) (Or.inl ⟨by rfl, fun W hSw => ?_⟩) hHeld ?_
      · skip
        unfold qF16_45
        go_simp
      try simp only [Act.put, List.setIfInBounds_toArray, List.set_cons_zero, List.set_cons_succ]
      refine cF16_45 (fun K hK => ?_)
      rw [if_pos (by rfl)]
      unfold qF16_43
      go_simp
      refine (ofEp_tab I hHeld.lm HUS.out HUM.out).mono ?_
      rintro e w71 ⟨A71, c71, rfl, L71, hbd⟩
      have T71 := Lib.hid L71
      clear L71
      dsimp only
      refine Shut.out hK _ _ ?_ (fun hHeld => ?_)
      · skip
        exact hHeld.below hbd
      clear hK K
      try simp only [Act.put, List.setIfInBounds_toArray, List.set_cons_zero, List.set_cons_succ]
      refine cF16_46 (fun K hK => ?_)
      rw [if_pos (by rfl)]
      unfold qF16_46
      go_simp
      refine (specOfEp_tab hHeld.lm HUS.out HUM.out).mono ?_
      rintro e w72 ⟨A72, c72, rfl, L72, hbd⟩
      have T72 := Lib.hid L72
      have T71b := Lib.hid (T71.out.below hbd)
      clear L72 T71
      dsimp only
      refine Shut.out hK _ _ ?_ (fun hHeld => ?_)
      · skip
        exact hHeld.below hbd
      clear hK K
      try simp only [Act.put, List.setIfInBounds_toArray, List.set_cons_zero, List.set_cons_succ]
      refine cF16_47 (fun K hK => ?_)
      rw [if_pos (by rfl)]
      unfold qF16_47
      go_simp
      refine (sameRcs_tab T71b.out T72.out).mono ?_
      rintro e w75 ⟨rfl, hbd⟩
      dsimp only
      refine Shut.out hK _ _ ?_ (fun hHeld => ?_)
      · skip
        exact hHeld.below hbd
      clear hK K
      try simp only [Act.put, List.setIfInBounds_toArray, List.set_cons_zero, List.set_cons_succ]
      refine tF16_48 (.bool true) (fun _ _ _ h => h) (Or.inl ⟨by rfl, fun W hSw => ?_⟩) hHeld ?_
      · skip
        unfold qF16_48
        go_simp
      try simp only [Act.put, List.setIfInBounds_toArray, List.set_cons_zero, List.set_cons_succ]
      refine tF16_49 (.bool true) (fun _ _ _ h => h) (Or.inl ⟨by rfl, fun W hSw => ?_⟩) hHeld ?_
      · skip
        unfold qF16_49
        go_simp
      try simp only [Act.put, List.setIfInBounds_toArray, List.set_cons_zero, List.set_cons_succ]
      refine tF16_50 (.slice A1 n1 c1) (fun _ _ _ h => h) (Or.inl ⟨by rfl, fun W hSw => ?_⟩) hHeld ?_
      · skip
        unfold qF16_50
        go_simp
      try simp only [Act.put, List.setIfInBounds_toArray, List.set_cons_zero, List.set_cons_succ]
      refine tF16_51 (.slice A1 n1 c1) (fun _ _ _ h => h) (Or.inl ⟨by rfl, fun W hSw => ?_⟩) hHeld ?_
      · skip
        unfold qF16_52
        go_simp
      try simp only [Act.put, List.setIfInBounds_toArray, List.set_cons_zero, List.set_cons_succ]
      refine cF16_52 (fun K hK => ?_)
      rw [if_pos (by rfl)]
      unfold qF16_51
      go_simp
      refine (cnt_tab I hHeld.ll HCS.out HCM.out).mono ?_
      rintro e w73 ⟨A73, c73, rfl, _, L73, hbd⟩
      have T73 := Lib.hid L73
      clear L73
      dsimp only
      refine Shut.out hK _ _ ?_ (fun hHeld => ?_)
      · skip
        exact hHeld.below hbd
      clear hK K
      try simp only [Act.put, List.setIfInBounds_toArray, List.set_cons_zero, List.set_cons_succ]
      refine cF16_53 (fun K hK => ?_)
      rw [if_pos (by rfl)]
      unfold qF16_53
      go_simp
      refine (specCnt_tab5 hHeld.ll HCS.out HCM.out).mono ?_
      rintro e w74 ⟨A74, c74, rfl, _, L74, hbd⟩
      have T74 := Lib.hid L74
      have T73b := Lib.hid (T73.out.below hbd)
      clear L74 T73
      dsimp only
      refine Shut.out hK _ _ ?_ (fun hHeld => ?_)
      · skip
        exact hHeld.below hbd
      clear hK K
      try simp only [Act.put, List.setIfInBounds_toArray, List.set_cons_zero, List.set_cons_succ]
      refine cF16_54 (fun K hK => ?_)
      rw [if_pos (by rfl)]
      unfold qF16_54
      go_simp
      refine (sameCts_is HCM.out hcmb T73b.out T74.out).mono ?_
      rintro e w76 ⟨rfl, hbd⟩
      dsimp only
      refine Shut.out hK _ _ ?_ (fun hHeld => ?_)
      · skip
        exact hHeld.below hbd
      clear hK K
      try simp only [Act.put, List.setIfInBounds_toArray, List.set_cons_zero, List.set_cons_succ]
      refine tF16_55 (.bool true) (fun _ _ _ h => h) (Or.inl ⟨by rfl, fun W hSw => ?_⟩) hHeld ?_
      · skip
        unfold qF16_55
        go_simp
      try simp only [Act.put, List.setIfInBounds_toArray, List.set_cons_zero, List.set_cons_succ]
      refine tF16_56 (.bool true) (fun _ _ _ h => h) (Or.inl ⟨by rfl, fun W hSw => ?_⟩) hHeld ?_
      · skip
        unfold qF16_56
        go_simp
      try simp only [Act.put, List.setIfInBounds_toArray, List.set_cons_zero, List.set_cons_succ]
      refine tF16_57 (.agg #[.int .i64 0, .int .i64 0, .int .i64 0, .int .i64 7, .int .i64 0]) (fun _ _ _ h => h) (Or.inl ⟨by rfl, fun W hSw => ?_⟩) hHeld ?_
      · skip
        unfold qF16_57
        go_simp
      try simp only [Act.put, List.setIfInBounds_toArray, List.set_cons_zero, List.set_cons_succ]
      refine cF16_58 (fun K hK => ?_)
      rw [if_pos (by rfl)]
      unfold qF16_58
      go_simp
      refine (text_is I (p0 := 0) (p1 := 0) (p2 := 0) (p3 := 7) (p4 := 0) ⟨rfl, rfl, rfl, rfl, rfl⟩ text7 _ hHeld.tab).mono ?_
      rintro e w77 ⟨rfl, hbd⟩
      dsimp only
      refine Shut.out hK _ _ ?_ (fun hHeld => ?_)
      · skip
        exact hHeld.below hbd
      clear hK K
      try simp only [Act.put, List.setIfInBounds_toArray, List.set_cons_zero, List.set_cons_succ]
      refine tF16_59 (.bool true) (fun _ _ _ h => h) (Or.inl ⟨by rfl, fun W hSw => ?_⟩) hHeld ?_
      · skip
        unfold qF16_59
        go_simp
      try simp only [Act.put, List.setIfInBounds_toArray, List.set_cons_zero, List.set_cons_succ]
      refine tF16_60 (.bool true) (fun _ _ _ h => h) (Or.inl ⟨by rfl, fun W hSw => ?_⟩) hHeld ?_
      · skip
        unfold qF16_60
        go_simp
      try simp only [Act.put, List.setIfInBounds_toArray, List.set_cons_zero, List.set_cons_succ]
      refine tF16_61 (.bool true) (fun _ _ _ h => h) (Or.inl ⟨by rfl, fun W hSw => ?_⟩) hHeld ?_
      · skip
        unfold qF16_61
        go_simp
      try simp only [Act.put, List.setIfInBounds_toArray, List.set_cons_zero, List.set_cons_succ]
      refine wpAnyH_done (by kernel_rfl) ?_ _
      have BF := Lib.hid (below_chain B12.out hHeld.bel)
      clear hHeld
      go_wp2
      go_ret
      exact ⟨rfl, BF.out⟩
end Go.Proofs.YtdmbkjebagnloaaGreatDoor.fnRecords

