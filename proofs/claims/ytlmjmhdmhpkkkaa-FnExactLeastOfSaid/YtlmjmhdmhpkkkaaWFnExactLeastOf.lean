/-
  The walk of FnExactLeastOf.
-/
import Derived.Test.YtlmjmhdmhpkkkaaCeLaw
import Derived.Test.YtlmjmhdmhpkkkaaSpecCe1
import Derived.Test.YtlmjmhdmhpkkkaaImplLeast
import Derived.Deep.RegionHeld3
import Derived.Deep.DeepCutAuto
namespace Go.Proofs.Ytlmjmhdmhpkkkaa.fnExactLeastOf
open Go.RowKit Go.Proofs.Ytlmjmhdmhpkkkaa.hexes

set_option maxRecDepth 1000000 in
set_option maxHeartbeats 8000000 in
theorem walk (A : Option Addr) (n c : Nat) (zs : List Ce) (o : Int) (_ho : (Lit.int .i64 o).wf = true) (ep : Int) (_hep : (Lit.int .i64 ep).wf = true) (ky : Int) (_hky : (Lit.int .i64 ky).wf = true) (w : World) (hZ : IsCes w A n zs) :
    Calls Try.prog 8 #[.slice A n c, .int .i64 o, .int .i64 ep, .int .i64 ky] w fun e w' => e = .returned (.bool true) ∧ Below w.heap.size w w' := by
  have Z := Lib.hid hZ.len
  have maxZ := hZ.max
  have S := Lib.hid hZ.ces
  clear hZ
  by_cases hn0 : (1048576 : Int) < (n : Int)
  · have C0 := Lib.hid (fun W => szCe_over A n c 1048576 (by omega) (by omega) maxZ hn0 W)
    go_enter Try.func8, Try.ntmps8
    go_wp2_with fail
    refine (C0.out _).mono ?_
    rintro e w1 ⟨rfl, rfl⟩
    go_wp2
    go_ret
    exact ⟨rfl, (Below.refl _ _)⟩
  have C0 := Lib.hid (fun W => szCe_in A n c 1048576 (by omega) (by omega) maxZ hn0 W)
  have hd0 : decide ((1048576 : Int) - (n : Int) < 0) = false := by simp; omega
  have le0 : n ≤ 1048576 := by omega
  have I := Lib.hid (show ∀ (A : Option Addr) (c : Nat), (A = none → c = 0) → n ≤ c → ∀ W : World, Ces W A zs → Calls Try.prog 21 #[.slice A n c, .int .i64 o, .int .i64 ep, .int .i64 ky] W (fun e w' => e = .returned (.tuple #[.int .i64 ((leastC zs o ep ky).1), .bool ((leastC zs o ep ky).2)]) ∧ Below W.heap.size W w') from fun A c _ _ W h => implLeast_any n zs Z.out A c o ep ky W h (by omega))
  have SP := Lib.hid (show ∀ (A : Option Addr) (c : Nat), (A = none → c = 0) → n ≤ c → ∀ W : World, Ces W A zs → Calls Try.prog 22 #[.slice A n c, .int .i64 o, .int .i64 ep, .int .i64 ky] W (fun e w' => e = .returned (.tuple #[.int .i64 ((leastC zs o ep ky).1), .bool ((leastC zs o ep ky).2)]) ∧ Below W.heap.size W w') from fun A c _ _ W h => specLeast_any n zs Z.out A c o ep ky W h (by omega))
  obtain ⟨r, hr⟩ : ∃ r, r = (leastC zs o ep ky).1 := ⟨_, rfl⟩
  have HR := Lib.hid hr
  obtain ⟨r2, hr2⟩ : ∃ r, r = (leastC zs o ep ky).2 := ⟨_, rfl⟩
  have HR2 := Lib.hid hr2
  clear hr hr2
  have hrr : (r != r) = false := by simp
  have hrr2 : (r2 != r2) = false := by simp
  go_enter Try.func8, Try.ntmps8
  go_wp2_with fail
  refine (C0.out _).mono ?_
  rintro e w0 ⟨rfl, rfl⟩
  go_wp2_with fail
  refine (toCeS_row n zs Z.out A c _ S.out le0).mono ?_
  rintro e w1 ⟨A1, c1, rfl, r1, b1⟩
  have sz1 := b1.size
  have B1 := Lib.hid (b1)
  clear b1
  have ox1 := Lib.hid r1
  clear r1
  go_wp2_with fail
  refine (SP.out A1 c1 ox1.out.nil ox1.out.cap _ ox1.out.ce).mono ?_
  rintro e w2 ⟨rfl, b2⟩
  rw [← HR.out, ← HR2.out]
  have sz2 := b2.size
  have B2 := Lib.hid (below_chain B1.out b2)
  have X1_2 := Lib.hid (ox1.out.below b2)
  clear ox1
  clear b2 B1
  clear X1_2
  go_wp2_with fail
  refine (toCeS_row n zs Z.out A c _ (S.out.below B2.out) le0).mono ?_
  rintro e w3 ⟨A3, c3, rfl, r3, b3⟩
  have sz3 := b3.size
  have B3 := Lib.hid (below_chain B2.out b3)
  clear b3 B2
  have ox3 := Lib.hid r3
  clear r3
  go_wp2_with fail
  refine (I.out A3 c3 ox3.out.nil ox3.out.cap _ ox3.out.ce).mono ?_
  rintro e w4 ⟨rfl, b4⟩
  rw [← HR.out, ← HR2.out]
  have sz4 := b4.size
  have B4 := Lib.hid (below_chain B3.out b4)
  have X3_4 := Lib.hid (ox3.out.below b4)
  clear ox3
  clear b4 B3
  go_wp2_with fail
  refine (toCeS_row n zs Z.out A c _ (S.out.below B4.out) le0).mono ?_
  rintro e w5 ⟨A5, c5, rfl, r5, b5⟩
  have sz5 := b5.size
  have B5 := Lib.hid (below_chain B4.out b5)
  have X3_5 := Lib.hid (X3_4.out.below b5)
  clear X3_4
  clear b5 B4
  have ox5 := Lib.hid r5
  clear r5
  go_wp2_with fail
  refine (eqCeS_row X3_5.out ox5.out (by omega)).mono ?_
  rintro e w6 ⟨rfl, b6⟩
  have sz6 := b6.size
  have B6 := Lib.hid (below_chain B5.out b6)
  have X3_6 := Lib.hid (X3_5.out.below b6)
  clear X3_5
  have X5_6 := Lib.hid (ox5.out.below b6)
  clear ox5
  clear b6 B5
  clear X5_6
  go_wp2
  go_ret
  exact ⟨rfl, B6.out⟩
end Go.Proofs.Ytlmjmhdmhpkkkaa.fnExactLeastOf
