/-
  The walk of FnExactFrontierOk.
-/
import Derived.Test.YtjnmpcfclkahlaaLawKit
import Derived.Test.YtjnmpcfclkahlaaImplMerge
namespace Go.Proofs.Ytjnmpcfclkahlaa.fnExactFrontierOk
open Go.RowKit Go.Proofs.Ytjnmpcfclkahlaa.hexes

set_option maxRecDepth 100000 in
set_option maxHeartbeats 1000000 in
theorem walk (A : Option Addr) (n c : Nat) (zs : List (Int × Int)) (w : World) (h : IsSts w A n zs) :
    Calls Try.prog 6 #[.slice A n c] w fun e w' => e = .returned (.bool true) ∧ Below w.heap.size w w' := by
  have Z := Lib.hid h.len
  have hmax := h.max
  have S := Lib.hid h.sts
  clear h
  by_cases hn : (1048576 : Int) < (n : Int)
  · have C := Lib.hid (szS_over A n c 1048576 (by omega) (by omega) hmax hn w)
    go_enter Try.func6, Try.ntmps6
    go_wp2_with fail
    refine C.out.mono ?_
    rintro e w1 ⟨rfl, rfl⟩
    go_wp2
    go_ret
    exact ⟨rfl, Below.refl _ _⟩
  · have C := Lib.hid (szS_in A n c 1048576 (by omega) (by omega) hmax hn w)
    have hn1 : n ≤ 1048576 := by omega
    have hd : decide ((1048576 : Int) - (n : Int) < 0) = false := by simp; omega
    obtain ⟨r, hr⟩ : ∃ r, r = okFrontL zs := ⟨_, rfl⟩
    have HR := Lib.hid hr
    clear hr
    go_enter Try.func6, Try.ntmps6
    go_wp2_with fail
    refine C.out.mono ?_
    rintro e w0 ⟨rfl, rfl⟩
    go_wp2_with fail
    refine (toStS_sts n zs Z.out A c _ S.out hn1).mono ?_
    rintro e w1 ⟨A1, c1, rfl, _o1, s1, b1⟩
    go_wp2_with fail
    refine (specFOk_any n zs Z.out A1 c1 _ s1 (by omega)).mono ?_
    rintro e w2 ⟨rfl, b2⟩
    rw [← HR.out]
    have B2 := Lib.hid (below_chain b1 b2)
    clear s1 b1 b2
    go_wp2_with fail
    refine (toStS_sts n zs Z.out A c _ (S.out.below B2.out) hn1).mono ?_
    rintro e w3 ⟨A3, c3, rfl, _o3, s3, b3⟩
    have B3 := Lib.hid (below_chain B2.out b3)
    have S3 := Lib.hid s3
    clear b3 s3
    go_wp2_with fail
    refine (implFOk_any n zs Z.out A3 c3 (own_nil _o3) _ S3.out (by omega)).mono ?_
    rintro e w4 ⟨rfl, b4⟩
    rw [← HR.out]
    have B4 := Lib.hid (below_chain B3.out b4)
    have S4 := Lib.hid (S3.out.below b4)
    clear b4 S3
    have hrr : (r != r) = false := by simp
    go_wp2_with fail
    refine (toStS_sts n zs Z.out A c _ (S.out.below B4.out) hn1).mono ?_
    rintro e w5 ⟨A5, c5, rfl, _o5, s5, b5⟩
    have B5 := Lib.hid (below_chain B4.out b5)
    have S5 := Lib.hid (S4.out.below b5)
    have T5 := Lib.hid s5
    clear b5 s5 S4
    go_wp2_with fail
    refine (eqStS_refl n zs Z.out A3 A5 c3 c5 _ S5.out T5.out (by omega)).mono ?_
    rintro e w6 ⟨rfl, b6⟩
    have B6 := Lib.hid (below_chain B5.out b6)
    clear b6
    go_wp2
    go_ret
    exact ⟨rfl, B6.out⟩
end Go.Proofs.Ytjnmpcfclkahlaa.fnExactFrontierOk
