/-
  The walk of FnExactAddCounts, given the contract of impl.AddCounts.
-/
import Derived.Test.YtiehpniogehkmaaCtCame
import Derived.Test.YtiehpniogehkmaaSpecAdd
import Derived.Deep.RegionHeld3
import Derived.Deep.DeepCutAuto
namespace Go.Proofs.Ytiehpniogehkmaa.fnExactAddCounts
open Go.RowKit Go.Proofs.Ytiehpniogehkmaa.hexes

set_option maxRecDepth 1000000 in
set_option maxHeartbeats 8000000 in
theorem walk_of (A : Option Addr) (n c : Nat) (zs : List Ct) (A' : Option Addr) (n' c' : Nat) (ys : List Ct) (w : World) (hZ : IsCts w A n zs) (hY : IsCts w A' n' ys)
    (I0 : zs.length = n → ys.length = n' → n + n' ≤ 1048576 → ∀ (A : Option Addr) (c : Nat), (A = none → c = 0) → ∀ (A' : Option Addr) (c' : Nat), (A' = none → c' = 0) → ∀ W : World, Cts W A zs → Cts W A' ys → Calls Try.prog 19 #[.slice A n c, .slice A' n' c'] W (fun e w' => ∃ v, e = .returned (.tuple #[v, .bool (addOk zs ys)]) ∧ w'.ownsRow W.heap.size 62 3 v (sumsL zs ys).length (ctCells (sumsL zs ys)) ∧ Below W.heap.size W w')) :
    Calls Try.prog 7 #[.slice A n c, .slice A' n' c'] w fun e w' => e = .returned (.bool true) ∧ Below w.heap.size w w' := by
  have Z := Lib.hid hZ.len
  have maxZ := hZ.max
  have S := Lib.hid hZ.cts
  have Y := Lib.hid hY.len
  have maxY := hY.max
  have S' := Lib.hid hY.cts
  clear hZ hY
  by_cases hn0 : (1048576 : Int) < (n : Int)
  · have C0 := Lib.hid (fun W => szCt_over A n c (1048576) (by omega) (by omega) maxZ hn0 W)
    go_enter Try.func7, Try.ntmps7
    go_wp2_with fail
    refine (C0.out _).mono ?_
    rintro e w1 ⟨rfl, rfl⟩
    go_wp2
    go_ret
    exact ⟨rfl, (Below.refl _ _)⟩
  have C0 := Lib.hid (fun W => szCt_in A n c (1048576) (by omega) (by omega) maxZ hn0 W)
  have hd0 : decide ((1048576 : Int) - (n : Int) < 0) = false := by simp; omega
  by_cases hn1 : ((1048576 : Int) - (n : Int) : Int) < (n' : Int)
  · have C1 := Lib.hid (fun W => szCt_over A' n' c' ((1048576 : Int) - (n : Int)) (by omega) (by omega) maxY hn1 W)
    go_enter Try.func7, Try.ntmps7
    go_wp2_with fail
    refine (C0.out _).mono ?_
    rintro e w1 ⟨rfl, rfl⟩
    go_wp2_with fail
    refine (C1.out _).mono ?_
    rintro e w1 ⟨rfl, rfl⟩
    go_wp2
    go_ret
    exact ⟨rfl, (Below.refl _ _)⟩
  have C1 := Lib.hid (fun W => szCt_in A' n' c' ((1048576 : Int) - (n : Int)) (by omega) (by omega) maxY hn1 W)
  have hd1 : decide ((1048576 : Int) - (n : Int) - (n' : Int) < 0) = false := by simp; omega
  have le0 : n ≤ 1048576 := by omega
  have le1 : n' ≤ 1048576 := by omega
  have sum : n + n' ≤ 1048576 := by omega
  have I := Lib.hid (I0 Z.out Y.out (by omega))
  clear I0
  have SP := Lib.hid (show ∀ (A : Option Addr) (c : Nat), (A = none → c = 0) → ∀ (A' : Option Addr) (c' : Nat), (A' = none → c' = 0) → ∀ W : World, Cts W A zs → Cts W A' ys → Calls Try.prog 20 #[.slice A n c, .slice A' n' c'] W (fun e w' => ∃ v, e = .returned (.tuple #[v, .bool (addOk zs ys)]) ∧ w'.ownsRow W.heap.size 62 3 v (sumsL zs ys).length (ctCells (sumsL zs ys)) ∧ Below W.heap.size W w') from fun A c hA A' c' _ W h h' => specAdd_any n n' zs ys Z.out Y.out A A' c c' hA W h h' (by omega))
  obtain ⟨us, hus⟩ : ∃ us, us = sumsL zs ys := ⟨_, rfl⟩
  obtain ⟨m, hm⟩ : ∃ m, m = us.length := ⟨_, rfl⟩
  have hml : m ≤ 2097153 := by rw [hm, hus]; have := sumsL_len zs ys; have := Z.out; have := Y.out; omega
  have HU := Lib.hid hus
  have HM := Lib.hid hm
  clear hus hm
  obtain ⟨r, hr⟩ : ∃ r, r = addOk zs ys := ⟨_, rfl⟩
  have HR := Lib.hid hr
  clear hr
  have hrr : (r != r) = false := by simp
  go_enter Try.func7, Try.ntmps7
  go_wp2_with fail
  refine (C0.out _).mono ?_
  rintro e w0 ⟨rfl, rfl⟩
  go_wp2_with fail
  refine (C1.out _).mono ?_
  rintro e w0 ⟨rfl, rfl⟩
  go_wp2_with fail
  refine (toCtS_row n zs Z.out A c _ S.out le0).mono ?_
  rintro e w1 ⟨A1, c1, rfl, r1, b1⟩
  have sz1 := b1.size
  have B1 := Lib.hid (b1)
  clear b1
  have ox1 := Lib.hid r1
  clear r1
  go_wp2_with fail
  refine (toCtS_row n' ys Y.out A' c' _ (S'.out.below B1.out) le1).mono ?_
  rintro e w2 ⟨A2, c2, rfl, r2, b2⟩
  have sz2 := b2.size
  have B2 := Lib.hid (below_chain B1.out b2)
  have X1_2 := Lib.hid (ox1.out.below b2)
  clear ox1
  clear b2 B1
  have ox2 := Lib.hid r2
  clear r2
  go_wp2_with fail
  refine (SP.out A1 c1 X1_2.out.nil A2 c2 ox2.out.nil _ X1_2.out.ct ox2.out.ct).mono ?_
  rintro e w3 ⟨v3, rfl, o3, b3⟩
  rw [← HU.out, ← HM.out] at o3
  rw [← HR.out]
  obtain ⟨A3, c3, rfl, r3⟩ := row_of o3
  clear o3
  have sz3 := b3.size
  have B3 := Lib.hid (below_chain B2.out b3)
  have X1_3 := Lib.hid (X1_2.out.below b3)
  clear X1_2
  have X2_3 := Lib.hid (ox2.out.below b3)
  clear ox2
  clear b3 B2
  have ox3 := Lib.hid r3
  clear r3
  clear X1_3
  clear X2_3
  go_wp2_with fail
  refine (toCtS_row n zs Z.out A c _ (S.out.below B3.out) le0).mono ?_
  rintro e w4 ⟨A4, c4, rfl, r4, b4⟩
  have sz4 := b4.size
  have B4 := Lib.hid (below_chain B3.out b4)
  have X3_4 := Lib.hid (ox3.out.below b4)
  clear ox3
  clear b4 B3
  have ox4 := Lib.hid r4
  clear r4
  go_wp2_with fail
  refine (toCtS_row n' ys Y.out A' c' _ (S'.out.below B4.out) le1).mono ?_
  rintro e w5 ⟨A5, c5, rfl, r5, b5⟩
  have sz5 := b5.size
  have B5 := Lib.hid (below_chain B4.out b5)
  have X3_5 := Lib.hid (X3_4.out.below b5)
  clear X3_4
  have X4_5 := Lib.hid (ox4.out.below b5)
  clear ox4
  clear b5 B4
  have ox5 := Lib.hid r5
  clear r5
  go_wp2_with fail
  refine (I.out A4 c4 X4_5.out.nil A5 c5 ox5.out.nil _ X4_5.out.ct ox5.out.ct).mono ?_
  rintro e w6 ⟨v6, rfl, o6, b6⟩
  rw [← HU.out, ← HM.out] at o6
  rw [← HR.out]
  obtain ⟨A6, c6, rfl, r6⟩ := row_of o6
  clear o6
  have sz6 := b6.size
  have B6 := Lib.hid (below_chain B5.out b6)
  have X3_6 := Lib.hid (X3_5.out.below b6)
  clear X3_5
  have X4_6 := Lib.hid (X4_5.out.below b6)
  clear X4_5
  have X5_6 := Lib.hid (ox5.out.below b6)
  clear ox5
  clear b6 B5
  have ox6 := Lib.hid r6
  clear r6
  go_wp2_with fail
  refine (eqCtS_row ox6.out X3_6.out (by omega)).mono ?_
  rintro e w7 ⟨rfl, b7⟩
  have sz7 := b7.size
  have B7 := Lib.hid (below_chain B6.out b7)
  have X3_7 := Lib.hid (X3_6.out.below b7)
  clear X3_6
  have X4_7 := Lib.hid (X4_6.out.below b7)
  clear X4_6
  have X5_7 := Lib.hid (X5_6.out.below b7)
  clear X5_6
  have X6_7 := Lib.hid (ox6.out.below b7)
  clear ox6
  clear b7 B6
  go_wp2_with fail
  refine (toCtS_row n zs Z.out A c _ (S.out.below B7.out) le0).mono ?_
  rintro e w8 ⟨A8, c8, rfl, r8, b8⟩
  have sz8 := b8.size
  have B8 := Lib.hid (below_chain B7.out b8)
  have X3_8 := Lib.hid (X3_7.out.below b8)
  clear X3_7
  have X4_8 := Lib.hid (X4_7.out.below b8)
  clear X4_7
  have X5_8 := Lib.hid (X5_7.out.below b8)
  clear X5_7
  have X6_8 := Lib.hid (X6_7.out.below b8)
  clear X6_7
  clear b8 B7
  have ox8 := Lib.hid r8
  clear r8
  go_wp2_with fail
  refine (eqCtS_row X4_8.out ox8.out (by omega)).mono ?_
  rintro e w9 ⟨rfl, b9⟩
  have sz9 := b9.size
  have B9 := Lib.hid (below_chain B8.out b9)
  have X3_9 := Lib.hid (X3_8.out.below b9)
  clear X3_8
  have X4_9 := Lib.hid (X4_8.out.below b9)
  clear X4_8
  have X5_9 := Lib.hid (X5_8.out.below b9)
  clear X5_8
  have X6_9 := Lib.hid (X6_8.out.below b9)
  clear X6_8
  have X8_9 := Lib.hid (ox8.out.below b9)
  clear ox8
  clear b9 B8
  clear X8_9
  go_wp2_with fail
  refine (toCtS_row n' ys Y.out A' c' _ (S'.out.below B9.out) le1).mono ?_
  rintro e w10 ⟨A10, c10, rfl, r10, b10⟩
  have sz10 := b10.size
  have B10 := Lib.hid (below_chain B9.out b10)
  have X3_10 := Lib.hid (X3_9.out.below b10)
  clear X3_9
  have X4_10 := Lib.hid (X4_9.out.below b10)
  clear X4_9
  have X5_10 := Lib.hid (X5_9.out.below b10)
  clear X5_9
  have X6_10 := Lib.hid (X6_9.out.below b10)
  clear X6_9
  clear b10 B9
  have ox10 := Lib.hid r10
  clear r10
  go_wp2_with fail
  refine (eqCtS_row X5_10.out ox10.out (by omega)).mono ?_
  rintro e w11 ⟨rfl, b11⟩
  have sz11 := b11.size
  have B11 := Lib.hid (below_chain B10.out b11)
  have X3_11 := Lib.hid (X3_10.out.below b11)
  clear X3_10
  have X4_11 := Lib.hid (X4_10.out.below b11)
  clear X4_10
  have X5_11 := Lib.hid (X5_10.out.below b11)
  clear X5_10
  have X6_11 := Lib.hid (X6_10.out.below b11)
  clear X6_10
  have X10_11 := Lib.hid (ox10.out.below b11)
  clear ox10
  clear b11 B10
  clear X10_11
  go_wp2_with fail
  refine (markCtS_row 1 X4_11.out (by omega) (by omega)).mono ?_
  rintro e w12 ⟨rfl, om12, g12⟩
  have sz12 := g12.size
  have B12 := Lib.hid (below_wrote B11.out g12 (by omega))
  have X3_12 := Lib.hid (X3_11.out.wrote g12 (by omega))
  clear X3_11
  have X5_12 := Lib.hid (X5_11.out.wrote g12 (by omega))
  clear X5_11
  have X6_12 := Lib.hid (X6_11.out.wrote g12 (by omega))
  clear X6_11
  have X4_12 := Lib.hid om12
  clear X4_11 om12 g12 B11
  go_wp2_with fail
  refine (markCtS_row (1 + 3 * n) X5_12.out (by omega) (by omega)).mono ?_
  rintro e w13 ⟨rfl, om13, g13⟩
  have sz13 := g13.size
  have B13 := Lib.hid (below_wrote B12.out g13 (by omega))
  have X3_13 := Lib.hid (X3_12.out.wrote g13 (by omega))
  clear X3_12
  have X4_13 := Lib.hid (X4_12.out.wrote g13 (by omega))
  clear X4_12
  have X6_13 := Lib.hid (X6_12.out.wrote g13 (by omega))
  clear X6_12
  have X5_13 := Lib.hid om13
  clear X5_12 om13 g13 B12
  go_wp2_with fail
  refine (eqCtS_row X6_13.out X3_13.out (by omega)).mono ?_
  rintro e w14 ⟨rfl, b14⟩
  have sz14 := b14.size
  have B14 := Lib.hid (below_chain B13.out b14)
  have X3_14 := Lib.hid (X3_13.out.below b14)
  clear X3_13
  have X4_14 := Lib.hid (X4_13.out.below b14)
  clear X4_13
  have X5_14 := Lib.hid (X5_13.out.below b14)
  clear X5_13
  have X6_14 := Lib.hid (X6_13.out.below b14)
  clear X6_13
  clear b14 B13
  clear X4_14
  clear X5_14
  go_wp2_with fail
  refine (markCtS_row 1 X6_14.out (by omega) (by omega)).mono ?_
  rintro e w15 ⟨rfl, om15, g15⟩
  have sz15 := g15.size
  have B15 := Lib.hid (below_wrote B14.out g15 (by omega))
  have X3_15 := Lib.hid (X3_14.out.wrote g15 (by omega))
  clear X3_14
  have X6_15 := Lib.hid om15
  clear X6_14 om15 g15 B14
  go_wp2_with fail
  refine (heldCtS_row 1 X6_15.out (by omega) (by omega)).mono ?_
  rintro e w0 ⟨rfl, rfl⟩
  go_wp2_with fail
  refine (toCtS_row n zs Z.out A c _ (S.out.below B15.out) le0).mono ?_
  rintro e w16 ⟨A16, c16, rfl, r16, b16⟩
  have sz16 := b16.size
  have B16 := Lib.hid (below_chain B15.out b16)
  have X3_16 := Lib.hid (X3_15.out.below b16)
  clear X3_15
  have X6_16 := Lib.hid (X6_15.out.below b16)
  clear X6_15
  clear b16 B15
  have ox16 := Lib.hid r16
  clear r16
  go_wp2_with fail
  refine (toCtS_row n' ys Y.out A' c' _ (S'.out.below B16.out) le1).mono ?_
  rintro e w17 ⟨A17, c17, rfl, r17, b17⟩
  have sz17 := b17.size
  have B17 := Lib.hid (below_chain B16.out b17)
  have X3_17 := Lib.hid (X3_16.out.below b17)
  clear X3_16
  have X6_17 := Lib.hid (X6_16.out.below b17)
  clear X6_16
  have X16_17 := Lib.hid (ox16.out.below b17)
  clear ox16
  clear b17 B16
  have ox17 := Lib.hid r17
  clear r17
  go_wp2_with fail
  refine (I.out A16 c16 X16_17.out.nil A17 c17 ox17.out.nil _ X16_17.out.ct ox17.out.ct).mono ?_
  rintro e w18 ⟨v18, rfl, o18, b18⟩
  rw [← HU.out, ← HM.out] at o18
  rw [← HR.out]
  obtain ⟨A18, c18, rfl, r18⟩ := row_of o18
  clear o18
  have sz18 := b18.size
  have B18 := Lib.hid (below_chain B17.out b18)
  have X3_18 := Lib.hid (X3_17.out.below b18)
  clear X3_17
  have X6_18 := Lib.hid (X6_17.out.below b18)
  clear X6_17
  have X16_18 := Lib.hid (X16_17.out.below b18)
  clear X16_17
  have X17_18 := Lib.hid (ox17.out.below b18)
  clear ox17
  clear b18 B17
  have ox18 := Lib.hid r18
  clear r18
  clear X16_18
  clear X17_18
  go_wp2_with fail
  refine (eqCtS_row ox18.out X3_18.out (by omega)).mono ?_
  rintro e w19 ⟨rfl, b19⟩
  have sz19 := b19.size
  have B19 := Lib.hid (below_chain B18.out b19)
  have X3_19 := Lib.hid (X3_18.out.below b19)
  clear X3_18
  have X6_19 := Lib.hid (X6_18.out.below b19)
  clear X6_18
  have X18_19 := Lib.hid (ox18.out.below b19)
  clear ox18
  clear b19 B18
  go_wp2_with fail
  refine (heldCtS_row 1 X6_19.out (by omega) (by omega)).mono ?_
  rintro e w0 ⟨rfl, rfl⟩
  go_wp2
  go_ret
  exact ⟨rfl, B19.out⟩
end Go.Proofs.Ytiehpniogehkmaa.fnExactAddCounts
