/-
  The walk of FnExactSameBag, given the contract of impl.SameBag.
-/
import Derived.Test.YtdmbkjebagnloaaRcCame
import Derived.Test.YtdmbkjebagnloaaSpecRcBag
import Derived.Deep.RegionHeld3
import Derived.Deep.DeepCutAuto
namespace Go.Proofs.Ytdmbkjebagnloaa.fnExactSameBag
open Go.RowKit Go.Proofs.Ytdmbkjebagnloaa.hexes

set_option maxRecDepth 1000000 in
set_option maxHeartbeats 8000000 in
theorem walk_of (A : Option Addr) (n c : Nat) (zs : List Rc) (A' : Option Addr) (n' c' : Nat) (ys : List Rc) (w : World) (hZ : IsRcs w A n zs) (hY : IsRcs w A' n' ys)
    (I0 : zs.length = n → ys.length = n' → n + n' ≤ 1048576 → (∀ z ∈ zs, wfRc z) → (∀ z ∈ ys, wfRc z) → ∀ (A : Option Addr) (c : Nat), (A = none → c = 0) → ∀ (A' : Option Addr) (c' : Nat), (A' = none → c' = 0) → ∀ W : World, Rcs W A zs → Rcs W A' ys → Calls Try.prog 29 #[.slice A n c, .slice A' n' c'] W (fun e w' => e = .returned (.bool (bagR zs ys)) ∧ Below W.heap.size W w')) :
    Calls Try.prog 7 #[.slice A n c, .slice A' n' c'] w fun e w' => e = .returned (.bool true) ∧ Below w.heap.size w w' := by
  have Z := Lib.hid hZ.len
  have maxZ := hZ.max
  have S := Lib.hid hZ.rcs
  have Y := Lib.hid hY.len
  have maxY := hY.max
  have S' := Lib.hid hY.rcs
  have WFZ := Lib.hid hZ.wf
  have WFY := Lib.hid hY.wf
  clear hZ hY
  by_cases hn0 : (1048576 : Int) < (n : Int)
  · have C0 := Lib.hid (fun W => szRc_over A n c (1048576) (by omega) (by omega) maxZ hn0 W)
    go_enter Try.func7, Try.ntmps7
    go_wp2_with fail
    refine (C0.out _).mono ?_
    rintro e w1 ⟨rfl, rfl⟩
    go_wp2
    go_ret
    exact ⟨rfl, (Below.refl _ _)⟩
  have C0 := Lib.hid (fun W => szRc_in A n c (1048576) (by omega) (by omega) maxZ hn0 W)
  have hd0 : decide ((1048576 : Int) - (n : Int) < 0) = false := by simp; omega
  by_cases hn1 : ((1048576 : Int) - (n : Int) : Int) < (n' : Int)
  · have C1 := Lib.hid (fun W => szRc_over A' n' c' ((1048576 : Int) - (n : Int)) (by omega) (by omega) maxY hn1 W)
    go_enter Try.func7, Try.ntmps7
    go_wp2_with fail
    refine (C0.out _).mono ?_
    rintro e w1 ⟨rfl, rfl⟩
    go_wp2_with fail
    refine (C1.out _).mono ?_
    rintro e w1 ⟨rfl, rfl⟩
    go_wp2
    go_ret
    exact ⟨rfl, (Below.refl _ _)⟩
  have C1 := Lib.hid (fun W => szRc_in A' n' c' ((1048576 : Int) - (n : Int)) (by omega) (by omega) maxY hn1 W)
  have hd1 : decide ((1048576 : Int) - (n : Int) - (n' : Int) < 0) = false := by simp; omega
  have le0 : n ≤ 1048576 := by omega
  have le1 : n' ≤ 1048576 := by omega
  have sum : n + n' ≤ 1048576 := by omega
  have I := Lib.hid (I0 Z.out Y.out (by omega) WFZ.out WFY.out)
  clear I0
  have SP := Lib.hid (show ∀ (A : Option Addr) (c : Nat), (A = none → c = 0) → ∀ (A' : Option Addr) (c' : Nat), (A' = none → c' = 0) → ∀ W : World, Rcs W A zs → Rcs W A' ys → Calls Try.prog 28 #[.slice A n c, .slice A' n' c'] W (fun e w' => e = .returned (.bool (bagR zs ys)) ∧ Below W.heap.size W w') from fun A c hA A' c' hA' W h h' => specBag_any n n' zs ys Z.out Y.out A A' c c' hA hA' W h h' (by omega) (by omega))
  obtain ⟨r, hr⟩ : ∃ r, r = bagR zs ys := ⟨_, rfl⟩
  have HR := Lib.hid hr
  clear hr
  have hrr : (r != r) = false := by simp
  go_enter Try.func7, Try.ntmps7
  go_wp2_with fail
  refine (C0.out _).mono ?_
  rintro e w0 ⟨rfl, rfl⟩
  go_wp2_with fail
  refine (C1.out _).mono ?_
  rintro e w0 ⟨rfl, rfl⟩
  go_wp2_with fail
  refine (toRcS_row n zs Z.out A c _ S.out le0).mono ?_
  rintro e w1 ⟨A1, c1, rfl, r1, b1⟩
  have sz1 := b1.size
  have B1 := Lib.hid (b1)
  clear b1
  have ox1 := Lib.hid r1
  clear r1
  go_wp2_with fail
  refine (toRcS_row n' ys Y.out A' c' _ (S'.out.below B1.out) le1).mono ?_
  rintro e w2 ⟨A2, c2, rfl, r2, b2⟩
  have sz2 := b2.size
  have B2 := Lib.hid (below_chain B1.out b2)
  have X1_2 := Lib.hid (ox1.out.below b2)
  clear ox1
  clear b2 B1
  have ox2 := Lib.hid r2
  clear r2
  go_wp2_with fail
  refine (SP.out A1 c1 X1_2.out.nil A2 c2 ox2.out.nil _ X1_2.out.rc ox2.out.rc).mono ?_
  rintro e w3 ⟨rfl, b3⟩
  rw [← HR.out]
  have sz3 := b3.size
  have B3 := Lib.hid (below_chain B2.out b3)
  have X1_3 := Lib.hid (X1_2.out.below b3)
  clear X1_2
  have X2_3 := Lib.hid (ox2.out.below b3)
  clear ox2
  clear b3 B2
  clear X1_3
  clear X2_3
  go_wp2_with fail
  refine (toRcS_row n zs Z.out A c _ (S.out.below B3.out) le0).mono ?_
  rintro e w4 ⟨A4, c4, rfl, r4, b4⟩
  have sz4 := b4.size
  have B4 := Lib.hid (below_chain B3.out b4)
  clear b4 B3
  have ox4 := Lib.hid r4
  clear r4
  go_wp2_with fail
  refine (toRcS_row n' ys Y.out A' c' _ (S'.out.below B4.out) le1).mono ?_
  rintro e w5 ⟨A5, c5, rfl, r5, b5⟩
  have sz5 := b5.size
  have B5 := Lib.hid (below_chain B4.out b5)
  have X4_5 := Lib.hid (ox4.out.below b5)
  clear ox4
  clear b5 B4
  have ox5 := Lib.hid r5
  clear r5
  go_wp2_with fail
  refine (I.out A4 c4 X4_5.out.nil A5 c5 ox5.out.nil _ X4_5.out.rc ox5.out.rc).mono ?_
  rintro e w6 ⟨rfl, b6⟩
  rw [← HR.out]
  have sz6 := b6.size
  have B6 := Lib.hid (below_chain B5.out b6)
  have X4_6 := Lib.hid (X4_5.out.below b6)
  clear X4_5
  have X5_6 := Lib.hid (ox5.out.below b6)
  clear ox5
  clear b6 B5
  go_wp2_with fail
  refine (toRcS_row n zs Z.out A c _ (S.out.below B6.out) le0).mono ?_
  rintro e w7 ⟨A7, c7, rfl, r7, b7⟩
  have sz7 := b7.size
  have B7 := Lib.hid (below_chain B6.out b7)
  have X4_7 := Lib.hid (X4_6.out.below b7)
  clear X4_6
  have X5_7 := Lib.hid (X5_6.out.below b7)
  clear X5_6
  clear b7 B6
  have ox7 := Lib.hid r7
  clear r7
  go_wp2_with fail
  refine (eqRcS_row X4_7.out ox7.out (by omega)).mono ?_
  rintro e w8 ⟨rfl, b8⟩
  have sz8 := b8.size
  have B8 := Lib.hid (below_chain B7.out b8)
  have X4_8 := Lib.hid (X4_7.out.below b8)
  clear X4_7
  have X5_8 := Lib.hid (X5_7.out.below b8)
  clear X5_7
  have X7_8 := Lib.hid (ox7.out.below b8)
  clear ox7
  clear b8 B7
  clear X7_8
  go_wp2_with fail
  refine (toRcS_row n' ys Y.out A' c' _ (S'.out.below B8.out) le1).mono ?_
  rintro e w9 ⟨A9, c9, rfl, r9, b9⟩
  have sz9 := b9.size
  have B9 := Lib.hid (below_chain B8.out b9)
  have X4_9 := Lib.hid (X4_8.out.below b9)
  clear X4_8
  have X5_9 := Lib.hid (X5_8.out.below b9)
  clear X5_8
  clear b9 B8
  have ox9 := Lib.hid r9
  clear r9
  go_wp2_with fail
  refine (eqRcS_row X5_9.out ox9.out (by omega)).mono ?_
  rintro e w10 ⟨rfl, b10⟩
  have sz10 := b10.size
  have B10 := Lib.hid (below_chain B9.out b10)
  have X4_10 := Lib.hid (X4_9.out.below b10)
  clear X4_9
  have X5_10 := Lib.hid (X5_9.out.below b10)
  clear X5_9
  have X9_10 := Lib.hid (ox9.out.below b10)
  clear ox9
  clear b10 B9
  clear X9_10
  go_wp2
  go_ret
  exact ⟨rfl, B10.out⟩
end Go.Proofs.Ytdmbkjebagnloaa.fnExactSameBag
