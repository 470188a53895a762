/-
  The walk of FnExactAhead.
-/
import Derived.Test.YtjnmpcfclkahlaaLawKit
import Derived.Test.YtjnmpcfclkahlaaImplFront
import Derived.Deep.RegionHeld3
import Derived.Deep.DeepCutAuto
namespace Go.Proofs.Ytjnmpcfclkahlaa.fnExactAhead
open Go.RowKit Go.Proofs.Ytjnmpcfclkahlaa.hexes

theorem sts_drew {w : World} {A : Option Addr} {zs : List (Int × Int)} (h : Sts w A zs) : Sts w.drew A zs := h

set_option maxRecDepth 100000 in
set_option maxHeartbeats 1000000 in
theorem walk (A : Option Addr) (n c : Nat) (zs : List (Int × Int)) (x y : Int) (_ : (Lit.int .i64 x).wf = true) (_ : (Lit.int .i64 y).wf = true) (w : World) (h : IsSts w A n zs) :
    Calls Try.prog 7 #[.slice A n c, .agg #[.int .i64 x, .int .i64 y]] w fun e w' => e = .returned (.bool true) ∧ Below w.heap.size w w' := by
  have Z := Lib.hid h.len
  have hmax := h.max
  have S := Lib.hid h.sts
  clear h
  by_cases hn : (1048576 : Int) < (n : Int)
  · have C := Lib.hid (fun W => szS_over A n c 1048576 (by omega) (by omega) hmax hn W)
    go_enter Try.func7, Try.ntmps7
    go_wp2_with fail
    refine (C.out _).mono ?_
    rintro e w1 ⟨rfl, rfl⟩
    go_wp2
    go_ret
    exact ⟨rfl, (Below.refl _ _).alloc (Nat.le_refl _) _⟩
  · have C := Lib.hid (fun W => szS_in A n c 1048576 (by omega) (by omega) hmax hn W)
    have hn1 : n ≤ 1048576 := by omega
    have hd : decide ((1048576 : Int) - (n : Int) < 0) = false := by simp; omega
    obtain ⟨r, hr⟩ : ∃ r, r = aheadL zs x y := ⟨_, rfl⟩
    have HR := Lib.hid hr
    clear hr
    go_enter Try.func7, Try.ntmps7
    go_wp2_with fail
    refine (C.out _).mono ?_
    rintro e w0 ⟨rfl, rfl⟩
    generalize hW : w.alloc _ = W
    have BW : Below w.heap.size w W := by rw [← hW]; exact (Below.refl _ _).alloc (Nat.le_refl _) _
    have k0 : W.cell? ⟨w.heap.size, 0, none⟩ = some (.int .i64 x) := by rw [← hW]; simp
    have k1 : W.cell? ⟨w.heap.size, 1, none⟩ = some (.int .i64 y) := by rw [← hW]; simp
    have k2 := S.out.below BW
    have HBW := Lib.hid BW
    clear hW BW
    go_upto_region 5 with fail
    go_cut [6] (fun t wx => t = .bool r ∧ Below W.heap.size W wx)
    case first =>
      have k3 := Below.refl W.heap.size W
      go_region_held3 (fun w' => w'.cell? ⟨w.heap.size, 0, none⟩ = some (.int .i64 x) ∧ w'.cell? ⟨w.heap.size, 1, none⟩ = some (.int .i64 y) ∧ Sts w' A zs ∧ Below W.heap.size W w')
        (((try go_split_ands); refine ⟨?_, ?_, ?_, ?_⟩ <;> (repeat (first | with_reducible assumption | with_reducible refine drew_keep ?_ | with_reducible refine below_keep hbd ?_ | with_reducible refine sts_drew ?_ | with_reducible refine Sts.below ?_ hbd | with_reducible refine Below.drew ?_ | with_reducible refine below_chain ?_ hbd))))
        (first | (go_at_call 32; (try go_split_ands); with_reducible refine (toStS_sts n zs Z.out A c _ (by assumption) hn1).mono ?_; rintro e w5 ⟨A5, c5, rfl, o5, s5, hbd⟩) | (go_at_call 36; with_reducible refine (toStamp_any x y _).mono ?_; rintro e w6 ⟨rfl, hbd⟩) | (go_at_call 25; with_reducible refine (specAhead_any n zs Z.out A5 c5 x y _ (by first | exact s5 | exact s5.below hbd) (by omega)).mono ?_; rintro e w7 ⟨rfl, hbd⟩; rw [← HR.out]))
      all_goals (
        go_wp2_with fail
        go_meet
        refine ⟨rfl, ?_⟩
        (try go_split_ands)
        assumption)
    case rest =>
    obtain ⟨rfl, hb⟩ := hcut
    have B2 := Lib.hid hb
    have c0 := below_keep hb k0
    have c1 := below_keep hb k1
    clear k0 k1 k2 hb
    go_wp2_with fail
    refine (toStS_sts n zs Z.out A c _ (S.out.below (below_chain HBW.out B2.out)) hn1).mono ?_
    rintro e w3 ⟨A3, c3, rfl, _, s3, b3⟩
    have B3 := Lib.hid (below_chain (below_chain HBW.out B2.out) b3)
    have S3 := Lib.hid s3
    replace c0 := below_keep b3 c0
    replace c1 := below_keep b3 c1
    clear b3 s3
    go_wp2_with fail
    refine (toStamp_any x y _).mono ?_
    rintro e w4 ⟨rfl, b4⟩
    have B4 := Lib.hid (below_chain B3.out b4)
    have S4 := Lib.hid (S3.out.below b4)
    clear b4 S3
    go_wp2_with fail
    refine (implAhead_any n zs Z.out A3 c3 x y _ S4.out (by omega)).mono ?_
    rintro e w5 ⟨rfl, b5⟩
    rw [← HR.out]
    have B5 := Lib.hid (below_chain B4.out b5)
    have S5 := Lib.hid (S4.out.below b5)
    clear b5 S4
    have hrr : (r != r) = false := by simp
    go_wp2_with fail
    refine (toStS_sts n zs Z.out A c _ (S.out.below B5.out) hn1).mono ?_
    rintro e w6 ⟨A6, c6, rfl, _, s6, b6⟩
    have B6 := Lib.hid (below_chain B5.out b6)
    have S6 := Lib.hid (S5.out.below b6)
    have T6 := Lib.hid s6
    clear b6 s6 S5
    go_wp2_with fail
    refine (eqStS_refl n zs Z.out A3 A6 c3 c6 _ S6.out T6.out (by omega)).mono ?_
    rintro e w7 ⟨rfl, b7⟩
    have B7 := Lib.hid (below_chain B6.out b7)
    clear b7
    go_wp2
    go_ret
    exact ⟨rfl, B7.out⟩
end Go.Proofs.Ytjnmpcfclkahlaa.fnExactAhead
