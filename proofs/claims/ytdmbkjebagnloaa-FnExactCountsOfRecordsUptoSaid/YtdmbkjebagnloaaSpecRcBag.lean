/-
  The reference's SameBag: the contract of spec.SameBag.
-/
import Derived.Test.YtdmbkjebagnloaaSpecRcSort
import Derived.Test.YtdmbkjebagnloaaSpecRc1
namespace Go.Proofs.Ytdmbkjebagnloaa.hexes
open Go.RowKit

set_option maxRecDepth 100000 in
theorem specBag_any (n m : Nat) (zs ys : List Rc) (hz : zs.length = n) (hy : ys.length = m) (A1 A2 : Option Addr) (c1 c2 : Nat) (hA1 : A1 = none → c1 = 0) (hA2 : A2 = none → c2 = 0) (w : World) (h1 : Rcs w A1 zs) (h2 : Rcs w A2 ys) (hn : n ≤ 1048576) (hm : m ≤ 1048576) :
    Calls Try.prog 28 #[.slice A1 n c1, .slice A2 m c2] w fun e w' => e = .returned (.bool (bagR zs ys)) ∧ Below w.heap.size w w' := by
  by_cases hnm : n = m
  · subst hnm
    have H2 := Lib.hid h2
    have HZ := Lib.hid hz
    have HY := Lib.hid hy
    have HA2 := Lib.hid hA2
    have C := Lib.hid (specSort_any n zs hz A1 c1 hA1 w h1 hn)
    clear h1 h2 hz hy hA1 hA2
    go_enter Try.func28, Try.ntmps28
    go_wp2_with fail
    refine C.out.mono ?_
    rintro e w1 ⟨v1, rfl, o1, b1⟩
    have O1 := Lib.hid o1
    have B1 := Lib.hid b1
    clear o1 b1 C
    go_wp2_with fail
    refine (specSort_any n ys HY.out A2 c2 HA2.out w1 (H2.out.below B1.out) hn).mono ?_
    rintro e w2 ⟨v2, rfl, o2, b2⟩
    obtain ⟨A3, c3, rfl, hl3, s3⟩ := Rcs.of_own (own_below O1.out b2)
    obtain ⟨A4, c4, rfl, hl4, s4⟩ := Rcs.of_own o2
    have B2 := Lib.hid (below_chain B1.out b2)
    have S3 := Lib.hid s3
    have S4 := Lib.hid s4
    have L3 := Lib.hid hl3
    have L4 := Lib.hid hl4
    clear o2 b2 O1 B1 s3 s4 hl3 hl4
    go_wp2_with fail
    refine (rcSame_any n n (sortR zs) (sortR ys) L3.out L4.out A3 A4 c3 c4 w2 S3.out S4.out (by omega)).mono ?_
    rintro e w3 ⟨rfl, b3⟩
    have B3 := Lib.hid (below_chain B2.out b3)
    clear b3
    rw [show decide (sortR zs = sortR ys) = bagR zs ys from rfl]
    go_wp2
    go_ret
    exact ⟨rfl, B3.out⟩
  · have q : ((n : Int) == (m : Int)) = false := by simp; omega
    have HF := Lib.hid (bagR_len (a := zs) (b := ys) (by omega))
    clear h1 h2
    go_enter Try.func28, Try.ntmps28
    go_wp2
    go_ret
    exact ⟨congrArg (fun b => Ending.returned (Value.bool b)) HF.out.symm, Below.refl _ _⟩
end Go.Proofs.Ytdmbkjebagnloaa.hexes
