/-
  The walk of FnExactEpochCount, given the contract of impl.EpochCount.
-/
import Derived.Test.YtiehpniogehkmaaCtCame
import Derived.Test.YtiehpniogehkmaaSpecAdd
import Derived.Deep.RegionHeld3
import Derived.Deep.DeepCutAuto
namespace Go.Proofs.Ytiehpniogehkmaa.fnExactEpochCount
open Go.RowKit Go.Proofs.Ytiehpniogehkmaa.hexes

set_option maxRecDepth 1000000 in
set_option maxHeartbeats 8000000 in
theorem walk_of (A : Option Addr) (n c : Nat) (zs : List Ct) (nn : Int) (_hn : (Lit.int .i64 nn).wf = true) (w : World) (hZ : IsCts w A n zs)
    (I0 : zs.length = n → n ≤ 1048576 → ∀ (A : Option Addr) (c : Nat), (A = none → c = 0) → ∀ W : World, Cts W A zs → Calls Try.prog 25 #[.slice A n c, .int .i64 nn] W (fun e w' => e = .returned (.int .i64 (epochL zs nn)) ∧ Below W.heap.size W w')) :
    Calls Try.prog 10 #[.slice A n c, .int .i64 nn] w fun e w' => e = .returned (.bool true) ∧ Below w.heap.size w w' := by
  have Z := Lib.hid hZ.len
  have maxZ := hZ.max
  have S := Lib.hid hZ.cts
  clear hZ
  by_cases hn0 : (1048576 : Int) < (n : Int)
  · have C0 := Lib.hid (fun W => szCt_over A n c (1048576) (by omega) (by omega) maxZ hn0 W)
    go_enter Try.func10, Try.ntmps10
    go_wp2_with fail
    refine (C0.out _).mono ?_
    rintro e w1 ⟨rfl, rfl⟩
    go_wp2
    go_ret
    exact ⟨rfl, (Below.refl _ _)⟩
  have C0 := Lib.hid (fun W => szCt_in A n c (1048576) (by omega) (by omega) maxZ hn0 W)
  have hd0 : decide ((1048576 : Int) - (n : Int) < 0) = false := by simp; omega
  have le0 : n ≤ 1048576 := by omega
  have I := Lib.hid (I0 Z.out (by omega))
  clear I0
  have SP := Lib.hid (show ∀ (A : Option Addr) (c : Nat), (A = none → c = 0) → ∀ W : World, Cts W A zs → Calls Try.prog 26 #[.slice A n c, .int .i64 nn] W (fun e w' => e = .returned (.int .i64 (epochL zs nn)) ∧ Below W.heap.size W w') from fun A c _ W h => (specEpoch_any n zs Z.out A c nn W h (by omega)).mono fun _ _ ⟨he, hw⟩ => ⟨he, hw ▸ Below.refl _ _⟩)
  obtain ⟨r, hr⟩ : ∃ r, r = epochL zs nn := ⟨_, rfl⟩
  have HR := Lib.hid hr
  clear hr
  have hrr : (r != r) = false := by simp
  go_enter Try.func10, Try.ntmps10
  go_wp2_with fail
  refine (C0.out _).mono ?_
  rintro e w0 ⟨rfl, rfl⟩
  go_wp2_with fail
  refine (toCtS_row n zs Z.out A c _ S.out le0).mono ?_
  rintro e w1 ⟨A1, c1, rfl, r1, b1⟩
  have sz1 := b1.size
  have B1 := Lib.hid (b1)
  clear b1
  have ox1 := Lib.hid r1
  clear r1
  go_wp2_with fail
  refine (SP.out A1 c1 ox1.out.nil _ ox1.out.ct).mono ?_
  rintro e w2 ⟨rfl, b2⟩
  rw [← HR.out]
  have sz2 := b2.size
  have B2 := Lib.hid (below_chain B1.out b2)
  have X1_2 := Lib.hid (ox1.out.below b2)
  clear ox1
  clear b2 B1
  clear X1_2
  go_wp2_with fail
  refine (toCtS_row n zs Z.out A c _ (S.out.below B2.out) le0).mono ?_
  rintro e w3 ⟨A3, c3, rfl, r3, b3⟩
  have sz3 := b3.size
  have B3 := Lib.hid (below_chain B2.out b3)
  clear b3 B2
  have ox3 := Lib.hid r3
  clear r3
  go_wp2_with fail
  refine (I.out A3 c3 ox3.out.nil _ ox3.out.ct).mono ?_
  rintro e w4 ⟨rfl, b4⟩
  rw [← HR.out]
  have sz4 := b4.size
  have B4 := Lib.hid (below_chain B3.out b4)
  have X3_4 := Lib.hid (ox3.out.below b4)
  clear ox3
  clear b4 B3
  go_wp2_with fail
  refine (toCtS_row n zs Z.out A c _ (S.out.below B4.out) le0).mono ?_
  rintro e w5 ⟨A5, c5, rfl, r5, b5⟩
  have sz5 := b5.size
  have B5 := Lib.hid (below_chain B4.out b5)
  have X3_5 := Lib.hid (X3_4.out.below b5)
  clear X3_4
  clear b5 B4
  have ox5 := Lib.hid r5
  clear r5
  go_wp2_with fail
  refine (eqCtS_row X3_5.out ox5.out (by omega)).mono ?_
  rintro e w6 ⟨rfl, b6⟩
  have sz6 := b6.size
  have B6 := Lib.hid (below_chain B5.out b6)
  have X3_6 := Lib.hid (X3_5.out.below b6)
  clear X3_5
  have X5_6 := Lib.hid (ox5.out.below b6)
  clear ox5
  clear b6 B5
  clear X5_6
  go_wp2
  go_ret
  exact ⟨rfl, B6.out⟩
end Go.Proofs.Ytiehpniogehkmaa.fnExactEpochCount
