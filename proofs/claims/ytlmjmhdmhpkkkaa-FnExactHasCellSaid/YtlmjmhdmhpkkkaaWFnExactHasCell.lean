/-
  The walk of FnExactHasCell.
-/
import Derived.Test.YtlmjmhdmhpkkkaaCeLaw
import Derived.Test.YtlmjmhdmhpkkkaaSpecCe1
import Derived.Test.YtlmjmhdmhpkkkaaImplCe2
import Derived.Deep.RegionHeld3
import Derived.Deep.DeepCutAuto
namespace Go.Proofs.Ytlmjmhdmhpkkkaa.fnExactHasCell
open Go.RowKit Go.Proofs.Ytlmjmhdmhpkkkaa.hexes

set_option maxRecDepth 1000000 in
set_option maxHeartbeats 8000000 in
theorem walk (A : Option Addr) (n c : Nat) (zs : List Ce) (x0 x1 x2 x3 : Int) (_hx0 : (Lit.int .i64 x0).wf = true) (_hx1 : (Lit.int .i64 x1).wf = true) (_hx2 : (Lit.int .i64 x2).wf = true) (_hx3 : (Lit.int .i64 x3).wf = true) (w : World) (hZ : IsCes w A n zs) :
    Calls Try.prog 7 #[.slice A n c, .agg #[.int .i64 x0, .int .i64 x1, .int .i64 x2, .int .i64 x3]] w fun e w' => e = .returned (.bool true) ∧ Below w.heap.size w w' := by
  have Z := Lib.hid hZ.len
  have maxZ := hZ.max
  have S := Lib.hid hZ.ces
  clear hZ
  by_cases hn0 : (1048576 : Int) < (n : Int)
  · have C0 := Lib.hid (fun W => szCe_over A n c 1048576 (by omega) (by omega) maxZ hn0 W)
    go_enter Try.func7, Try.ntmps7
    go_wp2_with fail
    refine (C0.out _).mono ?_
    rintro e w1 ⟨rfl, rfl⟩
    go_wp2
    go_ret
    exact ⟨rfl, ((Below.refl _ _).alloc (Nat.le_refl _) _)⟩
  have C0 := Lib.hid (fun W => szCe_in A n c 1048576 (by omega) (by omega) maxZ hn0 W)
  have hd0 : decide ((1048576 : Int) - (n : Int) < 0) = false := by simp; omega
  have le0 : n ≤ 1048576 := by omega
  have I := Lib.hid (show ∀ (A : Option Addr) (c : Nat), (A = none → c = 0) → n ≤ c → ∀ W : World, Ces W A zs → Calls Try.prog 26 #[.slice A n c, .agg #[.int .i64 x0, .int .i64 x1, .int .i64 x2, .int .i64 x3]] W (fun e w' => e = .returned (.bool (hasC zs (x0, x1, x2, x3))) ∧ Below W.heap.size W w') from fun A c _ _ W h => implHas_any n zs Z.out A c x0 x1 x2 x3 W h (by omega))
  have SP := Lib.hid (show ∀ (A : Option Addr) (c : Nat), (A = none → c = 0) → n ≤ c → ∀ W : World, Ces W A zs → Calls Try.prog 38 #[.slice A n c, .agg #[.int .i64 x0, .int .i64 x1, .int .i64 x2, .int .i64 x3]] W (fun e w' => e = .returned (.bool (hasC zs (x0, x1, x2, x3))) ∧ Below W.heap.size W w') from fun A c _ _ W h => specHas_any n zs Z.out A c x0 x1 x2 x3 W h (by omega))
  obtain ⟨r, hr⟩ : ∃ r, r = hasC zs (x0, x1, x2, x3) := ⟨_, rfl⟩
  have HR := Lib.hid hr
  clear hr
  have hrr : (r != r) = false := by simp
  go_enter Try.func7, Try.ntmps7
  go_wp2_with fail
  refine (C0.out _).mono ?_
  rintro e w0 ⟨rfl, rfl⟩
  generalize hW : w.alloc _ = w1
  have b1 : Below w.heap.size w w1 := by rw [← hW]; exact (Below.refl _ _).alloc (Nat.le_refl _) _
  have bx : XB w.heap.size x0 x1 x2 x3 w1 := by rw [← hW]; exact ⟨by simp, by simp, by simp, by simp⟩
  have hwb : w.heap.size < w1.heap.size := by rw [← hW]; simp
  clear hW
  have sz1 := b1.size
  have B1 := Lib.hid (b1)
  clear b1
  have obx := Lib.hid bx
  clear bx
  go_upto_region 5 with fail
  have k0 := obx.out.c0
  have k1 := obx.out.c1
  have k2 := obx.out.c2
  have k3 := obx.out.c3
  have k4 := (S.out.below B1.out)
  go_cut [6] (fun t wx => t = .bool r ∧ Below w1.heap.size w1 wx)
  case first =>
    have k5 := Below.refl w1.heap.size w1
    go_region_held3 (fun w' => w'.cell? ⟨w.heap.size, 0, none⟩ = some (.int .i64 x0) ∧ w'.cell? ⟨w.heap.size, 1, none⟩ = some (.int .i64 x1) ∧ w'.cell? ⟨w.heap.size, 2, none⟩ = some (.int .i64 x2) ∧ w'.cell? ⟨w.heap.size, 3, none⟩ = some (.int .i64 x3) ∧ Ces w' A zs ∧ Below w1.heap.size w1 w')
      (((try go_split_ands); refine ⟨?_, ?_, ?_, ?_, ?_, ?_⟩ <;> (repeat (first | with_reducible assumption | with_reducible refine drew_keep ?_ | with_reducible refine below_keep hbd ?_ | with_reducible refine ces_drew ?_ | with_reducible refine Ces.below ?_ hbd | with_reducible refine Below.drew ?_ | with_reducible refine below_chain ?_ hbd))))
      (first | (go_at_call 34; (try go_split_ands); (with_reducible refine (toCeS_row n zs Z.out A c _ (by assumption) le0).mono ?_); rintro e w5 ⟨A5, c5, rfl, s5, hbd⟩) | (go_at_call 32; (with_reducible refine (toCell_any x0 x1 x2 x3 _).mono ?_); rintro e w6 ⟨rfl, hbd⟩) | (go_at_call 38; (try go_split_ands); (have hsz7 := Below.size (B := w1.heap.size) (w := w1) (by assumption)); (first | (with_reducible refine (SP.out A5 c5 s5.nil s5.cap _ (s5.below hbd).ce).mono ?_) | (with_reducible refine (SP.out A5 c5 s5.nil s5.cap _ s5.ce).mono ?_)); rintro e w7 ⟨rfl, hbd⟩; rw [← HR.out]))
    all_goals (
      go_wp2_with fail
      go_meet
      refine ⟨rfl, ?_⟩
      (try go_split_ands)
      assumption)
  case rest =>
  obtain ⟨rfl, b2⟩ := hcut
  clear k0 k1 k2 k3 k4
  obtain ⟨w2, hw2⟩ : ∃ w2, w2 = wc := ⟨_, rfl⟩
  subst hw2
  have sz2 := b2.size
  have B2 := Lib.hid (below_chain B1.out b2)
  have XB_2 := Lib.hid (obx.out.below b2)
  clear obx
  clear b2 B1
  go_wp2_with fail
  refine (toCeS_row n zs Z.out A c _ (S.out.below B2.out) le0).mono ?_
  rintro e w3 ⟨A3, c3, rfl, r3, b3⟩
  have sz3 := b3.size
  have B3 := Lib.hid (below_chain B2.out b3)
  have XB_3 := Lib.hid (XB_2.out.below b3)
  clear XB_2
  clear b3 B2
  have ox3 := Lib.hid r3
  clear r3
  have bx0 := XB_3.out.c0
  have bx1 := XB_3.out.c1
  have bx2 := XB_3.out.c2
  have bx3 := XB_3.out.c3
  go_wp2_with fail
  refine (toCell_any x0 x1 x2 x3 _).mono ?_
  rintro e w4 ⟨rfl, b4⟩
  clear bx0 bx1 bx2 bx3
  have sz4 := b4.size
  have B4 := Lib.hid (below_chain B3.out b4)
  have XB_4 := Lib.hid (XB_3.out.below b4)
  clear XB_3
  have X3_4 := Lib.hid (ox3.out.below b4)
  clear ox3
  clear b4 B3
  go_wp2_with fail
  refine (I.out A3 c3 X3_4.out.nil X3_4.out.cap _ X3_4.out.ce).mono ?_
  rintro e w5 ⟨rfl, b5⟩
  rw [← HR.out]
  have sz5 := b5.size
  have B5 := Lib.hid (below_chain B4.out b5)
  have XB_5 := Lib.hid (XB_4.out.below b5)
  clear XB_4
  have X3_5 := Lib.hid (X3_4.out.below b5)
  clear X3_4
  clear b5 B4
  go_wp2_with fail
  refine (toCeS_row n zs Z.out A c _ (S.out.below B5.out) le0).mono ?_
  rintro e w6 ⟨A6, c6, rfl, r6, b6⟩
  have sz6 := b6.size
  have B6 := Lib.hid (below_chain B5.out b6)
  have XB_6 := Lib.hid (XB_5.out.below b6)
  clear XB_5
  have X3_6 := Lib.hid (X3_5.out.below b6)
  clear X3_5
  clear b6 B5
  have ox6 := Lib.hid r6
  clear r6
  go_wp2_with fail
  refine (eqCeS_row X3_6.out ox6.out (by omega)).mono ?_
  rintro e w7 ⟨rfl, b7⟩
  have sz7 := b7.size
  have B7 := Lib.hid (below_chain B6.out b7)
  have XB_7 := Lib.hid (XB_6.out.below b7)
  clear XB_6
  have X3_7 := Lib.hid (X3_6.out.below b7)
  clear X3_6
  have X6_7 := Lib.hid (ox6.out.below b7)
  clear ox6
  clear b7 B6
  clear X6_7
  go_wp2
  go_ret
  exact ⟨rfl, B7.out⟩
end Go.Proofs.Ytlmjmhdmhpkkkaa.fnExactHasCell
