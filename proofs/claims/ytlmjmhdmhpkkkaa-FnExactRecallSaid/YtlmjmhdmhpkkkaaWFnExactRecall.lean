/-
  The walk of FnExactRecall.
-/
import Derived.Test.YtlmjmhdmhpkkkaaCeLaw
import Derived.Test.YtlmjmhdmhpkkkaaSpecRec
import Derived.Test.YtlmjmhdmhpkkkaaImplRec
import Derived.Deep.RegionHeld3
import Derived.Deep.DeepCutAuto
namespace Go.Proofs.Ytlmjmhdmhpkkkaa.fnExactRecall
open Go.RowKit Go.Proofs.Ytlmjmhdmhpkkkaa.hexes

set_option maxRecDepth 1000000 in
set_option maxHeartbeats 8000000 in
theorem walk (kd : Int) (_hkd : (Lit.int .i64 kd).wf = true) (A : Option Addr) (n c : Nat) (zs : List Ce) (x0 x1 x2 x3 : Int) (_hx0 : (Lit.int .i64 x0).wf = true) (_hx1 : (Lit.int .i64 x1).wf = true) (_hx2 : (Lit.int .i64 x2).wf = true) (_hx3 : (Lit.int .i64 x3).wf = true) (w : World) (hZ : IsCes w A n zs) :
    Calls Try.prog 9 #[.int .i64 kd, .slice A n c, .agg #[.int .i64 x0, .int .i64 x1, .int .i64 x2, .int .i64 x3]] w fun e w' => e = .returned (.bool true) ∧ Below w.heap.size w w' := by
  have Z := Lib.hid hZ.len
  have maxZ := hZ.max
  have S := Lib.hid hZ.ces
  clear hZ
  by_cases hn0 : (1048576 : Int) < (n : Int)
  · have C0 := Lib.hid (fun W => szCe_over A n c 1048576 (by omega) (by omega) maxZ hn0 W)
    go_enter Try.func9, Try.ntmps9
    go_wp2_with fail
    refine (C0.out _).mono ?_
    rintro e w1 ⟨rfl, rfl⟩
    go_wp2
    go_ret
    exact ⟨rfl, ((Below.refl _ _).alloc (Nat.le_refl _) _)⟩
  have C0 := Lib.hid (fun W => szCe_in A n c 1048576 (by omega) (by omega) maxZ hn0 W)
  have hd0 : decide ((1048576 : Int) - (n : Int) < 0) = false := by simp; omega
  have le0 : n ≤ 1048576 := by omega
  have I := Lib.hid (show ∀ (A : Option Addr) (c : Nat), (A = none → c = 0) → n ≤ c → ∀ W : World, Ces W A zs → Calls Try.prog 13 #[.int .i64 kd, .slice A n c, .agg #[.int .i64 x0, .int .i64 x1, .int .i64 x2, .int .i64 x3]] W (fun e w' => ∃ v, e = .returned (.tuple #[v, .bool ((recC kd zs (x0, x1, x2, x3)).2)]) ∧ w'.ownsRow W.heap.size 26 4 v ((recC kd zs (x0, x1, x2, x3)).1).length (ceCells ((recC kd zs (x0, x1, x2, x3)).1)) ∧ Below W.heap.size W w') from fun A c hA hc W h => implRec_any kd n zs Z.out A c hA hc x0 x1 x2 x3 W h (by omega))
  have SP := Lib.hid (show ∀ (A : Option Addr) (c : Nat), (A = none → c = 0) → n ≤ c → ∀ W : World, Ces W A zs → Calls Try.prog 14 #[.int .i64 kd, .slice A n c, .agg #[.int .i64 x0, .int .i64 x1, .int .i64 x2, .int .i64 x3]] W (fun e w' => ∃ v, e = .returned (.tuple #[v, .bool ((recC kd zs (x0, x1, x2, x3)).2)]) ∧ w'.ownsRow W.heap.size 26 4 v ((recC kd zs (x0, x1, x2, x3)).1).length (ceCells ((recC kd zs (x0, x1, x2, x3)).1)) ∧ Below W.heap.size W w') from fun A c hA hc W h => specRec_any kd n zs Z.out A c hA hc x0 x1 x2 x3 W h (by omega))
  obtain ⟨us, hus⟩ : ∃ us, us = (recC kd zs (x0, x1, x2, x3)).1 := ⟨_, rfl⟩
  obtain ⟨m, hm⟩ : ∃ m, m = us.length := ⟨_, rfl⟩
  have hml : m ≤ 2097153 := by rw [hm, hus]; have := recC_len kd zs (x0, x1, x2, x3); have := Z.out; omega
  have HU := Lib.hid hus
  have HM := Lib.hid hm
  clear hus hm
  obtain ⟨r, hr⟩ : ∃ r, r = (recC kd zs (x0, x1, x2, x3)).2 := ⟨_, rfl⟩
  have HR := Lib.hid hr
  clear hr
  have hrr : (r != r) = false := by simp
  go_enter Try.func9, Try.ntmps9
  go_wp2_with fail
  refine (C0.out _).mono ?_
  rintro e w0 ⟨rfl, rfl⟩
  generalize hW : w.alloc _ = w1
  have b1 : Below w.heap.size w w1 := by rw [← hW]; exact (Below.refl _ _).alloc (Nat.le_refl _) _
  have bx : XB w.heap.size x0 x1 x2 x3 w1 := by rw [← hW]; exact ⟨by simp, by simp, by simp, by simp⟩
  have hwb : w.heap.size < w1.heap.size := by rw [← hW]; simp
  clear hW
  have sz1 := b1.size
  have B1 := Lib.hid (b1)
  clear b1
  have obx := Lib.hid bx
  clear bx
  go_upto_region 5 with fail
  have k0 := obx.out.c0
  have k1 := obx.out.c1
  have k2 := obx.out.c2
  have k3 := obx.out.c3
  have k4 := (S.out.below B1.out)
  go_cut [8, 9] (fun t u wx => ∃ A5 c5, t = .slice A5 m c5 ∧ u = .bool r ∧ Row wx w1.heap.size wx.heap.size 26 4 A5 m c5 (ceCells us) ∧ Below w1.heap.size w1 wx)
  case first =>
    have k5 := Below.refl w1.heap.size w1
    go_region_held3 (fun w' => w'.cell? ⟨w.heap.size, 0, none⟩ = some (.int .i64 x0) ∧ w'.cell? ⟨w.heap.size, 1, none⟩ = some (.int .i64 x1) ∧ w'.cell? ⟨w.heap.size, 2, none⟩ = some (.int .i64 x2) ∧ w'.cell? ⟨w.heap.size, 3, none⟩ = some (.int .i64 x3) ∧ Ces w' A zs ∧ Below w1.heap.size w1 w')
      (((try go_split_ands); refine ⟨?_, ?_, ?_, ?_, ?_, ?_⟩ <;> (repeat (first | with_reducible assumption | with_reducible refine drew_keep ?_ | with_reducible refine below_keep hbd ?_ | with_reducible refine ces_drew ?_ | with_reducible refine Ces.below ?_ hbd | with_reducible refine Below.drew ?_ | with_reducible refine below_chain ?_ hbd))))
      (first | (go_at_call 34; (try go_split_ands); (with_reducible refine (toCeS_row n zs Z.out A c _ (by assumption) le0).mono ?_); rintro e w5 ⟨A5, c5, rfl, s5, hbd⟩) | (go_at_call 32; (with_reducible refine (toCell_any x0 x1 x2 x3 _).mono ?_); rintro e w6 ⟨rfl, hbd⟩) | (go_at_call 14; (try go_split_ands); (have hsz7 := Below.size (B := w1.heap.size) (w := w1) (by assumption)); (first | (with_reducible refine (SP.out A5 c5 s5.nil s5.cap _ (s5.below hbd).ce).mono ?_) | (with_reducible refine (SP.out A5 c5 s5.nil s5.cap _ s5.ce).mono ?_)); rintro e w7 ⟨v7, rfl, o7, hbd⟩; rw [← HU.out, ← HM.out] at o7; rw [← HR.out]; obtain ⟨A7, c7, rfl, r7⟩ := row_of o7))
    all_goals (
      go_wp2_with fail
      go_meet
      refine ⟨A7, c7, rfl, rfl, Row.base r7 hsz7, ?_⟩
      (try go_split_ands)
      assumption)
  case rest =>
  obtain ⟨A2, c2, rfl, rfl, r2, b2⟩ := hcut
  clear k0 k1 k2 k3 k4
  obtain ⟨w2, hw2⟩ : ∃ w2, w2 = wc := ⟨_, rfl⟩
  subst hw2
  have sz2 := b2.size
  have B2 := Lib.hid (below_chain B1.out b2)
  have XB_2 := Lib.hid (obx.out.below b2)
  clear obx
  clear b2 B1
  have ox2 := Lib.hid r2
  clear r2
  go_wp2_with fail
  refine (toCeS_row n zs Z.out A c _ (S.out.below B2.out) le0).mono ?_
  rintro e w3 ⟨A3, c3, rfl, r3, b3⟩
  have sz3 := b3.size
  have B3 := Lib.hid (below_chain B2.out b3)
  have XB_3 := Lib.hid (XB_2.out.below b3)
  clear XB_2
  have X2_3 := Lib.hid (ox2.out.below b3)
  clear ox2
  clear b3 B2
  have ox3 := Lib.hid r3
  clear r3
  have bx0 := XB_3.out.c0
  have bx1 := XB_3.out.c1
  have bx2 := XB_3.out.c2
  have bx3 := XB_3.out.c3
  go_wp2_with fail
  refine (toCell_any x0 x1 x2 x3 _).mono ?_
  rintro e w4 ⟨rfl, b4⟩
  clear bx0 bx1 bx2 bx3
  have sz4 := b4.size
  have B4 := Lib.hid (below_chain B3.out b4)
  have XB_4 := Lib.hid (XB_3.out.below b4)
  clear XB_3
  have X2_4 := Lib.hid (X2_3.out.below b4)
  clear X2_3
  have X3_4 := Lib.hid (ox3.out.below b4)
  clear ox3
  clear b4 B3
  go_wp2_with fail
  refine (I.out A3 c3 X3_4.out.nil X3_4.out.cap _ X3_4.out.ce).mono ?_
  rintro e w5 ⟨v5, rfl, o5, b5⟩
  rw [← HU.out, ← HM.out] at o5
  rw [← HR.out]
  obtain ⟨A5, c5, rfl, r5⟩ := row_of o5
  clear o5
  have sz5 := b5.size
  have B5 := Lib.hid (below_chain B4.out b5)
  have XB_5 := Lib.hid (XB_4.out.below b5)
  clear XB_4
  have X2_5 := Lib.hid (X2_4.out.below b5)
  clear X2_4
  have X3_5 := Lib.hid (X3_4.out.below b5)
  clear X3_4
  clear b5 B4
  have ox5 := Lib.hid r5
  clear r5
  go_wp2_with fail
  refine (eqCeS_row ox5.out X2_5.out (by omega)).mono ?_
  rintro e w6 ⟨rfl, b6⟩
  have sz6 := b6.size
  have B6 := Lib.hid (below_chain B5.out b6)
  have XB_6 := Lib.hid (XB_5.out.below b6)
  clear XB_5
  have X2_6 := Lib.hid (X2_5.out.below b6)
  clear X2_5
  have X3_6 := Lib.hid (X3_5.out.below b6)
  clear X3_5
  have X5_6 := Lib.hid (ox5.out.below b6)
  clear ox5
  clear b6 B5
  go_wp2_with fail
  refine (toCeS_row n zs Z.out A c _ (S.out.below B6.out) le0).mono ?_
  rintro e w7 ⟨A7, c7, rfl, r7, b7⟩
  have sz7 := b7.size
  have B7 := Lib.hid (below_chain B6.out b7)
  have XB_7 := Lib.hid (XB_6.out.below b7)
  clear XB_6
  have X2_7 := Lib.hid (X2_6.out.below b7)
  clear X2_6
  have X3_7 := Lib.hid (X3_6.out.below b7)
  clear X3_6
  have X5_7 := Lib.hid (X5_6.out.below b7)
  clear X5_6
  clear b7 B6
  have ox7 := Lib.hid r7
  clear r7
  go_wp2_with fail
  refine (eqCeS_row X3_7.out ox7.out (by omega)).mono ?_
  rintro e w8 ⟨rfl, b8⟩
  have sz8 := b8.size
  have B8 := Lib.hid (below_chain B7.out b8)
  have XB_8 := Lib.hid (XB_7.out.below b8)
  clear XB_7
  have X2_8 := Lib.hid (X2_7.out.below b8)
  clear X2_7
  have X3_8 := Lib.hid (X3_7.out.below b8)
  clear X3_7
  have X5_8 := Lib.hid (X5_7.out.below b8)
  clear X5_7
  have X7_8 := Lib.hid (ox7.out.below b8)
  clear ox7
  clear b8 B7
  clear X7_8
  go_wp2_with fail
  refine (markCeS_row 1 X3_8.out (by omega) (by omega)).mono ?_
  rintro e w9 ⟨rfl, om9, g9⟩
  have sz9 := g9.size
  have B9 := Lib.hid (below_wrote B8.out g9 (by omega))
  have XB_9 := Lib.hid (XB_8.out.wrote g9 (by omega))
  clear XB_8
  have X2_9 := Lib.hid (X2_8.out.wrote g9 (by omega))
  clear X2_8
  have X5_9 := Lib.hid (X5_8.out.wrote g9 (by omega))
  clear X5_8
  have X3_9 := Lib.hid om9
  clear X3_8 om9 g9 B8
  go_wp2_with fail
  refine (eqCeS_row X5_9.out X2_9.out (by omega)).mono ?_
  rintro e w10 ⟨rfl, b10⟩
  have sz10 := b10.size
  have B10 := Lib.hid (below_chain B9.out b10)
  have XB_10 := Lib.hid (XB_9.out.below b10)
  clear XB_9
  have X2_10 := Lib.hid (X2_9.out.below b10)
  clear X2_9
  have X3_10 := Lib.hid (X3_9.out.below b10)
  clear X3_9
  have X5_10 := Lib.hid (X5_9.out.below b10)
  clear X5_9
  clear b10 B9
  clear X3_10
  go_wp2_with fail
  refine (markCeS_row 1 X5_10.out (by omega) (by omega)).mono ?_
  rintro e w11 ⟨rfl, om11, g11⟩
  have sz11 := g11.size
  have B11 := Lib.hid (below_wrote B10.out g11 (by omega))
  have XB_11 := Lib.hid (XB_10.out.wrote g11 (by omega))
  clear XB_10
  have X2_11 := Lib.hid (X2_10.out.wrote g11 (by omega))
  clear X2_10
  have X5_11 := Lib.hid om11
  clear X5_10 om11 g11 B10
  go_wp2_with fail
  refine (heldCeS_row 1 X5_11.out (by omega) (by omega)).mono ?_
  rintro e w0 ⟨rfl, rfl⟩
  go_upto_region 24 with fail
  have k0 := XB_11.out.c0
  have k1 := XB_11.out.c1
  have k2 := XB_11.out.c2
  have k3 := XB_11.out.c3
  have k4 := (S.out.below B11.out)
  go_cut [16, 17] (fun t u wx => ∃ A5 c5, t = .slice A5 m c5 ∧ u = .bool r ∧ Row wx w11.heap.size wx.heap.size 26 4 A5 m c5 (ceCells us) ∧ Below w11.heap.size w11 wx)
  case first =>
    have k5 := Below.refl w11.heap.size w11
    go_region_held3 (fun w' => w'.cell? ⟨w.heap.size, 0, none⟩ = some (.int .i64 x0) ∧ w'.cell? ⟨w.heap.size, 1, none⟩ = some (.int .i64 x1) ∧ w'.cell? ⟨w.heap.size, 2, none⟩ = some (.int .i64 x2) ∧ w'.cell? ⟨w.heap.size, 3, none⟩ = some (.int .i64 x3) ∧ Ces w' A zs ∧ Below w11.heap.size w11 w')
      (((try go_split_ands); refine ⟨?_, ?_, ?_, ?_, ?_, ?_⟩ <;> (repeat (first | with_reducible assumption | with_reducible refine drew_keep ?_ | with_reducible refine below_keep hbd ?_ | with_reducible refine ces_drew ?_ | with_reducible refine Ces.below ?_ hbd | with_reducible refine Below.drew ?_ | with_reducible refine below_chain ?_ hbd))))
      (first | (go_at_call 34; (try go_split_ands); (with_reducible refine (toCeS_row n zs Z.out A c _ (by assumption) le0).mono ?_); rintro e w5 ⟨A5, c5, rfl, s5, hbd⟩) | (go_at_call 32; (with_reducible refine (toCell_any x0 x1 x2 x3 _).mono ?_); rintro e w6 ⟨rfl, hbd⟩) | (go_at_call 13; (try go_split_ands); (have hsz7 := Below.size (B := w11.heap.size) (w := w11) (by assumption)); (first | (with_reducible refine (I.out A5 c5 s5.nil s5.cap _ (s5.below hbd).ce).mono ?_) | (with_reducible refine (I.out A5 c5 s5.nil s5.cap _ s5.ce).mono ?_)); rintro e w7 ⟨v7, rfl, o7, hbd⟩; rw [← HU.out, ← HM.out] at o7; rw [← HR.out]; obtain ⟨A7, c7, rfl, r7⟩ := row_of o7))
    all_goals (
      go_wp2_with fail
      go_meet
      refine ⟨A7, c7, rfl, rfl, Row.base r7 hsz7, ?_⟩
      (try go_split_ands)
      assumption)
  case rest =>
  obtain ⟨A12, c12, rfl, rfl, r12, b12⟩ := hcut
  clear k0 k1 k2 k3 k4
  obtain ⟨w12, hw12⟩ : ∃ w12, w12 = wc := ⟨_, rfl⟩
  subst hw12
  have sz12 := b12.size
  have B12 := Lib.hid (below_chain B11.out b12)
  have XB_12 := Lib.hid (XB_11.out.below b12)
  clear XB_11
  have X2_12 := Lib.hid (X2_11.out.below b12)
  clear X2_11
  have X5_12 := Lib.hid (X5_11.out.below b12)
  clear X5_11
  clear b12 B11
  have ox12 := Lib.hid r12
  clear r12
  go_wp2_with fail
  refine (eqCeS_row ox12.out X2_12.out (by omega)).mono ?_
  rintro e w13 ⟨rfl, b13⟩
  have sz13 := b13.size
  have B13 := Lib.hid (below_chain B12.out b13)
  have XB_13 := Lib.hid (XB_12.out.below b13)
  clear XB_12
  have X2_13 := Lib.hid (X2_12.out.below b13)
  clear X2_12
  have X5_13 := Lib.hid (X5_12.out.below b13)
  clear X5_12
  have X12_13 := Lib.hid (ox12.out.below b13)
  clear ox12
  clear b13 B12
  go_wp2_with fail
  refine (heldCeS_row 1 X5_13.out (by omega) (by omega)).mono ?_
  rintro e w0 ⟨rfl, rfl⟩
  go_wp2
  go_ret
  exact ⟨rfl, B13.out⟩
end Go.Proofs.Ytlmjmhdmhpkkkaa.fnExactRecall
