/-
  The walk of FnExactCellsOf.
-/
import Derived.Test.YtlmjmhdmhpkkkaaCeLaw
import Derived.Test.YtlmjmhdmhpkkkaaSpecCe1
import Derived.Test.YtlmjmhdmhpkkkaaImplLeast
import Derived.Deep.RegionHeld3
import Derived.Deep.DeepCutAuto
namespace Go.Proofs.Ytlmjmhdmhpkkkaa.fnExactCellsOf
open Go.RowKit Go.Proofs.Ytlmjmhdmhpkkkaa.hexes

set_option maxRecDepth 1000000 in
set_option maxHeartbeats 8000000 in
theorem walk (A : Option Addr) (n c : Nat) (zs : List Ce) (o : Int) (_ho : (Lit.int .i64 o).wf = true) (ep : Int) (_hep : (Lit.int .i64 ep).wf = true) (w : World) (hZ : IsCes w A n zs) :
    Calls Try.prog 10 #[.slice A n c, .int .i64 o, .int .i64 ep] w fun e w' => e = .returned (.bool true) ∧ Below w.heap.size w w' := by
  have Z := Lib.hid hZ.len
  have maxZ := hZ.max
  have S := Lib.hid hZ.ces
  clear hZ
  by_cases hn0 : (1048576 : Int) < (n : Int)
  · have C0 := Lib.hid (fun W => szCe_over A n c 1048576 (by omega) (by omega) maxZ hn0 W)
    go_enter Try.func10, Try.ntmps10
    go_wp2_with fail
    refine (C0.out _).mono ?_
    rintro e w1 ⟨rfl, rfl⟩
    go_wp2
    go_ret
    exact ⟨rfl, (Below.refl _ _)⟩
  have C0 := Lib.hid (fun W => szCe_in A n c 1048576 (by omega) (by omega) maxZ hn0 W)
  have hd0 : decide ((1048576 : Int) - (n : Int) < 0) = false := by simp; omega
  have le0 : n ≤ 1048576 := by omega
  have I := Lib.hid (show ∀ (A : Option Addr) (c : Nat), (A = none → c = 0) → n ≤ c → ∀ W : World, Ces W A zs → Calls Try.prog 27 #[.slice A n c, .int .i64 o, .int .i64 ep] W (fun e w' => ∃ v, e = .returned v ∧ w'.ownsRow W.heap.size 26 4 v (ofC zs o ep).length (ceCells (ofC zs o ep)) ∧ Below W.heap.size W w') from fun A c _ _ W h => implOf_any n zs Z.out A c o ep W h (by omega))
  have SP := Lib.hid (show ∀ (A : Option Addr) (c : Nat), (A = none → c = 0) → n ≤ c → ∀ W : World, Ces W A zs → Calls Try.prog 28 #[.slice A n c, .int .i64 o, .int .i64 ep] W (fun e w' => ∃ v, e = .returned v ∧ w'.ownsRow W.heap.size 26 4 v (ofC zs o ep).length (ceCells (ofC zs o ep)) ∧ Below W.heap.size W w') from fun A c _ _ W h => specOf_any n zs Z.out A c o ep W h (by omega))
  obtain ⟨us, hus⟩ : ∃ us, us = ofC zs o ep := ⟨_, rfl⟩
  obtain ⟨m, hm⟩ : ∃ m, m = us.length := ⟨_, rfl⟩
  have hml : m ≤ 2097153 := by rw [hm, hus]; have := of_len zs o ep; have := Z.out; omega
  have HU := Lib.hid hus
  have HM := Lib.hid hm
  clear hus hm
  go_enter Try.func10, Try.ntmps10
  go_wp2_with fail
  refine (C0.out _).mono ?_
  rintro e w0 ⟨rfl, rfl⟩
  go_wp2_with fail
  refine (toCeS_row n zs Z.out A c _ S.out le0).mono ?_
  rintro e w1 ⟨A1, c1, rfl, r1, b1⟩
  have sz1 := b1.size
  have B1 := Lib.hid (b1)
  clear b1
  have ox1 := Lib.hid r1
  clear r1
  go_wp2_with fail
  refine (SP.out A1 c1 ox1.out.nil ox1.out.cap _ ox1.out.ce).mono ?_
  rintro e w2 ⟨v2, rfl, o2, b2⟩
  rw [← HU.out, ← HM.out] at o2
  obtain ⟨A2, c2, rfl, r2⟩ := row_of o2
  clear o2
  have sz2 := b2.size
  have B2 := Lib.hid (below_chain B1.out b2)
  have X1_2 := Lib.hid (ox1.out.below b2)
  clear ox1
  clear b2 B1
  have ox2 := Lib.hid r2
  clear r2
  clear X1_2
  go_wp2_with fail
  refine (toCeS_row n zs Z.out A c _ (S.out.below B2.out) le0).mono ?_
  rintro e w3 ⟨A3, c3, rfl, r3, b3⟩
  have sz3 := b3.size
  have B3 := Lib.hid (below_chain B2.out b3)
  have X2_3 := Lib.hid (ox2.out.below b3)
  clear ox2
  clear b3 B2
  have ox3 := Lib.hid r3
  clear r3
  go_wp2_with fail
  refine (I.out A3 c3 ox3.out.nil ox3.out.cap _ ox3.out.ce).mono ?_
  rintro e w4 ⟨v4, rfl, o4, b4⟩
  rw [← HU.out, ← HM.out] at o4
  obtain ⟨A4, c4, rfl, r4⟩ := row_of o4
  clear o4
  have sz4 := b4.size
  have B4 := Lib.hid (below_chain B3.out b4)
  have X2_4 := Lib.hid (X2_3.out.below b4)
  clear X2_3
  have X3_4 := Lib.hid (ox3.out.below b4)
  clear ox3
  clear b4 B3
  have ox4 := Lib.hid r4
  clear r4
  go_wp2_with fail
  refine (eqCeS_row ox4.out X2_4.out (by omega)).mono ?_
  rintro e w5 ⟨rfl, b5⟩
  have sz5 := b5.size
  have B5 := Lib.hid (below_chain B4.out b5)
  have X2_5 := Lib.hid (X2_4.out.below b5)
  clear X2_4
  have X3_5 := Lib.hid (X3_4.out.below b5)
  clear X3_4
  have X4_5 := Lib.hid (ox4.out.below b5)
  clear ox4
  clear b5 B4
  go_wp2_with fail
  refine (toCeS_row n zs Z.out A c _ (S.out.below B5.out) le0).mono ?_
  rintro e w6 ⟨A6, c6, rfl, r6, b6⟩
  have sz6 := b6.size
  have B6 := Lib.hid (below_chain B5.out b6)
  have X2_6 := Lib.hid (X2_5.out.below b6)
  clear X2_5
  have X3_6 := Lib.hid (X3_5.out.below b6)
  clear X3_5
  have X4_6 := Lib.hid (X4_5.out.below b6)
  clear X4_5
  clear b6 B5
  have ox6 := Lib.hid r6
  clear r6
  go_wp2_with fail
  refine (eqCeS_row X3_6.out ox6.out (by omega)).mono ?_
  rintro e w7 ⟨rfl, b7⟩
  have sz7 := b7.size
  have B7 := Lib.hid (below_chain B6.out b7)
  have X2_7 := Lib.hid (X2_6.out.below b7)
  clear X2_6
  have X3_7 := Lib.hid (X3_6.out.below b7)
  clear X3_6
  have X4_7 := Lib.hid (X4_6.out.below b7)
  clear X4_6
  have X6_7 := Lib.hid (ox6.out.below b7)
  clear ox6
  clear b7 B6
  clear X6_7
  go_wp2_with fail
  refine (markCeS_row 1 X3_7.out (by omega) (by omega)).mono ?_
  rintro e w8 ⟨rfl, om8, g8⟩
  have sz8 := g8.size
  have B8 := Lib.hid (below_wrote B7.out g8 (by omega))
  have X2_8 := Lib.hid (X2_7.out.wrote g8 (by omega))
  clear X2_7
  have X4_8 := Lib.hid (X4_7.out.wrote g8 (by omega))
  clear X4_7
  have X3_8 := Lib.hid om8
  clear X3_7 om8 g8 B7
  go_wp2_with fail
  refine (eqCeS_row X4_8.out X2_8.out (by omega)).mono ?_
  rintro e w9 ⟨rfl, b9⟩
  have sz9 := b9.size
  have B9 := Lib.hid (below_chain B8.out b9)
  have X2_9 := Lib.hid (X2_8.out.below b9)
  clear X2_8
  have X3_9 := Lib.hid (X3_8.out.below b9)
  clear X3_8
  have X4_9 := Lib.hid (X4_8.out.below b9)
  clear X4_8
  clear b9 B8
  clear X3_9
  go_wp2_with fail
  refine (markCeS_row 1 X4_9.out (by omega) (by omega)).mono ?_
  rintro e w10 ⟨rfl, om10, g10⟩
  have sz10 := g10.size
  have B10 := Lib.hid (below_wrote B9.out g10 (by omega))
  have X2_10 := Lib.hid (X2_9.out.wrote g10 (by omega))
  clear X2_9
  have X4_10 := Lib.hid om10
  clear X4_9 om10 g10 B9
  go_wp2_with fail
  refine (heldCeS_row 1 X4_10.out (by omega) (by omega)).mono ?_
  rintro e w0 ⟨rfl, rfl⟩
  go_wp2_with fail
  refine (toCeS_row n zs Z.out A c _ (S.out.below B10.out) le0).mono ?_
  rintro e w11 ⟨A11, c11, rfl, r11, b11⟩
  have sz11 := b11.size
  have B11 := Lib.hid (below_chain B10.out b11)
  have X2_11 := Lib.hid (X2_10.out.below b11)
  clear X2_10
  have X4_11 := Lib.hid (X4_10.out.below b11)
  clear X4_10
  clear b11 B10
  have ox11 := Lib.hid r11
  clear r11
  go_wp2_with fail
  refine (I.out A11 c11 ox11.out.nil ox11.out.cap _ ox11.out.ce).mono ?_
  rintro e w12 ⟨v12, rfl, o12, b12⟩
  rw [← HU.out, ← HM.out] at o12
  obtain ⟨A12, c12, rfl, r12⟩ := row_of o12
  clear o12
  have sz12 := b12.size
  have B12 := Lib.hid (below_chain B11.out b12)
  have X2_12 := Lib.hid (X2_11.out.below b12)
  clear X2_11
  have X4_12 := Lib.hid (X4_11.out.below b12)
  clear X4_11
  have X11_12 := Lib.hid (ox11.out.below b12)
  clear ox11
  clear b12 B11
  have ox12 := Lib.hid r12
  clear r12
  clear X11_12
  go_wp2_with fail
  refine (eqCeS_row ox12.out X2_12.out (by omega)).mono ?_
  rintro e w13 ⟨rfl, b13⟩
  have sz13 := b13.size
  have B13 := Lib.hid (below_chain B12.out b13)
  have X2_13 := Lib.hid (X2_12.out.below b13)
  clear X2_12
  have X4_13 := Lib.hid (X4_12.out.below b13)
  clear X4_12
  have X12_13 := Lib.hid (ox12.out.below b13)
  clear ox12
  clear b13 B12
  go_wp2_with fail
  refine (heldCeS_row 1 X4_13.out (by omega) (by omega)).mono ?_
  rintro e w0 ⟨rfl, rfl⟩
  go_wp2
  go_ret
  exact ⟨rfl, B13.out⟩
end Go.Proofs.Ytlmjmhdmhpkkkaa.fnExactCellsOf
