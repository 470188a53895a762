/-
  The walk of FnExactSameFront.
-/
import Derived.Test.YtjnmpcfclkahlaaLawKit
import Derived.Test.YtjnmpcfclkahlaaImplFront
namespace Go.Proofs.Ytjnmpcfclkahlaa.fnExactSameFront
open Go.RowKit Go.Proofs.Ytjnmpcfclkahlaa.hexes

set_option maxRecDepth 100000 in
set_option maxHeartbeats 1000000 in
theorem walk (A : Option Addr) (n c : Nat) (zs : List (Int × Int)) (A' : Option Addr) (n' c' : Nat) (ys : List (Int × Int)) (w : World) (h : IsSts w A n zs) (h' : IsSts w A' n' ys) :
    Calls Try.prog 10 #[.slice A n c, .slice A' n' c'] w fun e w' => e = .returned (.bool true) ∧ Below w.heap.size w w' := by
  have Z := Lib.hid h.len
  have Y := Lib.hid h'.len
  have hmax := h.max
  have hmax' := h'.max
  have S := Lib.hid h.sts
  have T := Lib.hid h'.sts
  clear h h'
  by_cases hn : (1048576 : Int) < (n : Int)
  · have C := Lib.hid (szS_over A n c 1048576 (by omega) (by omega) hmax hn w)
    go_enter Try.func10, Try.ntmps10
    go_wp2_with fail
    refine C.out.mono ?_
    rintro e w1 ⟨rfl, rfl⟩
    go_wp2
    go_ret
    exact ⟨rfl, Below.refl _ _⟩
  have C := Lib.hid (szS_in A n c 1048576 (by omega) (by omega) hmax hn w)
  have hd : decide ((1048576 : Int) - (n : Int) < 0) = false := by simp; omega
  by_cases hm : (1048576 : Int) - (n : Int) < (n' : Int)
  · have C' := Lib.hid (szS_over A' n' c' (1048576 - (n : Int)) (by omega) (by omega) hmax' hm w)
    go_enter Try.func10, Try.ntmps10
    go_wp2_with fail
    refine C.out.mono ?_
    rintro e w1 ⟨rfl, rfl⟩
    go_wp2_with fail
    refine C'.out.mono ?_
    rintro e w1 ⟨rfl, rfl⟩
    go_wp2
    go_ret
    exact ⟨rfl, Below.refl _ _⟩
  · have C' := Lib.hid (szS_in A' n' c' (1048576 - (n : Int)) (by omega) (by omega) hmax' hm w)
    have hd' : decide ((1048576 : Int) - (n : Int) - (n' : Int) < 0) = false := by simp; omega
    have hn1 : n ≤ 1048576 := by omega
    have hm1 : n' ≤ 1048576 := by omega
    obtain ⟨r, hr⟩ : ∃ r, r = decide (zs = ys) := ⟨_, rfl⟩
    have HR := Lib.hid hr
    clear hr
    go_enter Try.func10, Try.ntmps10
    go_wp2_with fail
    refine C.out.mono ?_
    rintro e w0 ⟨rfl, rfl⟩
    go_wp2_with fail
    refine C'.out.mono ?_
    rintro e w0 ⟨rfl, rfl⟩
    go_wp2_with fail
    refine (toStS_sts n zs Z.out A c _ S.out hn1).mono ?_
    rintro e w1 ⟨A1, c1, rfl, _, s1, b1⟩
    go_wp2_with fail
    refine (toStS_sts n' ys Y.out A' c' _ (T.out.below b1) hm1).mono ?_
    rintro e w2 ⟨A2, c2, rfl, _, s2, b2⟩
    have B2 := Lib.hid (below_chain b1 b2)
    go_wp2_with fail
    refine (specSame_any n n' zs ys Z.out Y.out A1 A2 c1 c2 _ (s1.below b2) s2 (by omega)).mono ?_
    rintro e w3 ⟨rfl, b3⟩
    rw [← HR.out]
    have B3 := Lib.hid (below_chain B2.out b3)
    clear s1 s2 b1 b2 b3 B2
    go_wp2_with fail
    refine (toStS_sts n zs Z.out A c _ (S.out.below B3.out) hn1).mono ?_
    rintro e w4 ⟨A4, c4, rfl, _, s4, b4⟩
    have B4 := Lib.hid (below_chain B3.out b4)
    have S4 := Lib.hid s4
    clear b4 s4
    go_wp2_with fail
    refine (toStS_sts n' ys Y.out A' c' _ (T.out.below B4.out) hm1).mono ?_
    rintro e w5 ⟨A5, c5, rfl, _, s5, b5⟩
    have B5 := Lib.hid (below_chain B4.out b5)
    have S5 := Lib.hid (S4.out.below b5)
    have T5 := Lib.hid s5
    clear b5 s5 S4
    go_wp2_with fail
    refine (implSame_any n n' zs ys Z.out Y.out A4 A5 c4 c5 _ S5.out T5.out (by omega)).mono ?_
    rintro e w6 ⟨rfl, b6⟩
    rw [← HR.out]
    have B6 := Lib.hid (below_chain B5.out b6)
    have S6 := Lib.hid (S5.out.below b6)
    have T6 := Lib.hid (T5.out.below b6)
    have hrr : (r != r) = false := by simp
    clear b6 S5 T5
    go_wp2_with fail
    refine (toStS_sts n zs Z.out A c _ (S.out.below B6.out) hn1).mono ?_
    rintro e w7 ⟨A7, c7, rfl, _, s7, b7⟩
    have B7 := Lib.hid (below_chain B6.out b7)
    have S7 := Lib.hid (S6.out.below b7)
    have T7 := Lib.hid (T6.out.below b7)
    have U7 := Lib.hid s7
    clear b7 s7 S6 T6
    go_wp2_with fail
    refine (eqStS_refl n zs Z.out A4 A7 c4 c7 _ S7.out U7.out (by omega)).mono ?_
    rintro e w8 ⟨rfl, b8⟩
    have B8 := Lib.hid (below_chain B7.out b8)
    have T8 := Lib.hid (T7.out.below b8)
    clear b8 S7 T7 U7
    go_wp2_with fail
    refine (toStS_sts n' ys Y.out A' c' _ (T.out.below B8.out) hm1).mono ?_
    rintro e w9 ⟨A9, c9, rfl, _, s9, b9⟩
    have B9 := Lib.hid (below_chain B8.out b9)
    have T9 := Lib.hid (T8.out.below b9)
    have U9 := Lib.hid s9
    clear b9 s9 T8
    go_wp2_with fail
    refine (eqStS_refl n' ys Y.out A5 A9 c5 c9 _ T9.out U9.out (by omega)).mono ?_
    rintro e w10 ⟨rfl, b10⟩
    have B10 := Lib.hid (below_chain B9.out b10)
    clear b10
    go_wp2
    go_ret
    exact ⟨rfl, B10.out⟩
end Go.Proofs.Ytjnmpcfclkahlaa.fnExactSameFront
