/-
  The walk of FnExactNoWorse.
-/
import Derived.Test.YtbbagpnjjjohpaaJ37
import Derived.Test.YtbbagpnjjjohpaaJ40
import Derived.Test.YtbbagpnjjjohpaaJ4
import Derived.Test.YtbbagpnjjjohpaaJ43
import Derived.Test.YtbbagpnjjjohpaaJ41
import Derived.Deep.RegionHeld3
import Derived.Deep.DeepCutAuto

namespace Go.Proofs.Ytbbagpnjjjohpaa.fnExactNoWorse
open Go.RowKit Go.Proofs.Ytbbagpnjjjohpaa.hexes

set_option maxRecDepth 1000000 in
set_option maxHeartbeats 16000000 in
theorem walk (A2 : Option Addr) (n2 c2 : Nat) (cs : List Ce) (A3 : Option Addr) (n3 c3 : Nat) (ds : List Ce) (w : World) (hZ2 : IsCes w A2 n2 cs) (hZ3 : IsCes w A3 n3 ds) :
    Calls Try.prog 9 #[.slice A2 n2 c2, .slice A3 n3 c3] w fun e w' => e = .returned (.bool true) ∧ Below w.heap.size w w' := by
  have Z2 := Lib.hid hZ2.len
  have M2 := hZ2.max
  have S2 := Lib.hid hZ2.ces
  clear hZ2
  have Z3 := Lib.hid hZ3.len
  have M3 := hZ3.max
  have S3 := Lib.hid hZ3.ces
  clear hZ3
  by_cases hn0 : (1048576 : Int) < (n2 : Int)
  · have C := Lib.hid (fun W => szCe_over A2 n2 c2 (1048576 : Int) (by omega) (by omega) M2 hn0 W)
    clear hn0
    go_enter Try.func9, Try.ntmps9
    go_wp2_with fail
    refine (C.out _).mono ?_
    rintro e v0 ⟨rfl, rfl⟩
    go_wp2
    go_ret
    exact ⟨rfl, Below.refl _ _⟩
  obtain ⟨lf0, hl0⟩ : ∃ q : Nat, (1048576 : Int) - (n2 : Int) = (q : Int) := ⟨((1048576 : Int) - (n2 : Int)).toNat, by omega⟩
  have C0 := Lib.hid (show ∀ W, Calls Try.prog 33 #[.slice A2 n2 c2, .int .i64 (1048576 : Int)] W fun e w' => e = .returned (.int .i64 (lf0 : Int)) ∧ W = w' by rw [← hl0]; exact fun W => szCe_in A2 n2 c2 (1048576 : Int) (by omega) (by omega) M2 hn0 W)
  have le2 : n2 ≤ 1048576 := by omega
  have hd0 : decide ((lf0 : Int) < 0) = false := by simp
  have lb0 : (lf0 : Int) ≤ 1048576 := by omega
  clear hn0 hl0
  by_cases hn1 : (lf0 : Int) < (n3 : Int)
  · have C := Lib.hid (fun W => szCe_over A3 n3 c3 (lf0 : Int) (by omega) (by omega) M3 hn1 W)
    clear hn1
    go_enter Try.func9, Try.ntmps9
    go_wp2_with fail
    refine (C0.out _).mono ?_
    rintro e v0 ⟨rfl, rfl⟩
    go_wp2_with fail
    refine (C.out _).mono ?_
    rintro e v0 ⟨rfl, rfl⟩
    go_wp2
    go_ret
    exact ⟨rfl, Below.refl _ _⟩
  obtain ⟨lf1, hl1⟩ : ∃ q : Nat, (lf0 : Int) - (n3 : Int) = (q : Int) := ⟨((lf0 : Int) - (n3 : Int)).toNat, by omega⟩
  have C1 := Lib.hid (show ∀ W, Calls Try.prog 33 #[.slice A3 n3 c3, .int .i64 (lf0 : Int)] W fun e w' => e = .returned (.int .i64 (lf1 : Int)) ∧ W = w' by rw [← hl1]; exact fun W => szCe_in A3 n3 c3 (lf0 : Int) (by omega) (by omega) M3 hn1 W)
  have le3 : n3 ≤ 1048576 := by omega
  have hd1 : decide ((lf1 : Int) < 0) = false := by simp
  have lb1 : (lf1 : Int) ≤ 1048576 := by omega
  clear hn1 hl1
  obtain ⟨r, hq⟩ : ∃ q, nwC cs ds = q := ⟨_, rfl⟩
  have HQ := Lib.hid hq
  clear hq
  have hrr : (r != r) = false := by simp
  go_enter Try.func9, Try.ntmps9
  go_wp2_with fail
  refine (C0.out _).mono ?_
  rintro e v0 ⟨rfl, rfl⟩
  go_wp2_with fail
  refine (C1.out _).mono ?_
  rintro e v0 ⟨rfl, rfl⟩
  clear C0 C1
  go_wp2_with fail
  refine (toCeS_row n2 cs Z2.out A2 c2 _ S2.out le2).mono ?_
  rintro e w1 ⟨A10, c10, rfl, r10, hb⟩
  have sz1 := hb.size
  have B1 := Lib.hid (hb)
  clear hb
  have X10_1 := Lib.hid r10
  clear r10
  go_wp2_with fail
  refine (toCeS_row n3 ds Z3.out A3 c3 _ (S3.out.below B1.out) le3).mono ?_
  rintro e w2 ⟨A11, c11, rfl, r11, hb⟩
  have sz2 := hb.size
  have B2 := Lib.hid (below_chain B1.out hb)
  have X10_2 := Lib.hid (X10_1.out.below hb)
  clear hb B1 X10_1
  have X11_2 := Lib.hid r11
  clear r11
  go_wp2_with fail
  refine (specNw_is HQ.out Z2.out (by omega) Z3.out (by omega) _ X10_2.out.ce X11_2.out.ce).mono ?_
  rintro e w3 ⟨rfl, hb⟩
  have sz3 := hb.size
  have B3 := Lib.hid (below_chain B2.out hb)
  have X10_3 := Lib.hid (X10_2.out.below hb)
  have X11_3 := Lib.hid (X11_2.out.below hb)
  clear hb B2 X10_2 X11_2
  clear X10_3
  clear X11_3
  go_wp2_with fail
  refine (toCeS_row n2 cs Z2.out A2 c2 _ (S2.out.below B3.out) le2).mono ?_
  rintro e w4 ⟨A20, c20, rfl, r20, hb⟩
  have sz4 := hb.size
  have B4 := Lib.hid (below_chain B3.out hb)
  clear hb B3
  have X20_4 := Lib.hid r20
  clear r20
  go_wp2_with fail
  refine (toCeS_row n3 ds Z3.out A3 c3 _ (S3.out.below B4.out) le3).mono ?_
  rintro e w5 ⟨A21, c21, rfl, r21, hb⟩
  have sz5 := hb.size
  have B5 := Lib.hid (below_chain B4.out hb)
  have X20_5 := Lib.hid (X20_4.out.below hb)
  clear hb B4 X20_4
  have X21_5 := Lib.hid r21
  clear r21
  go_wp2_with fail
  refine (implNw_is HQ.out Z2.out (by omega) Z3.out (by omega) _ X20_5.out.ce X21_5.out.ce).mono ?_
  rintro e w6 ⟨rfl, hb⟩
  have sz6 := hb.size
  have B6 := Lib.hid (below_chain B5.out hb)
  have X20_6 := Lib.hid (X20_5.out.below hb)
  have X21_6 := Lib.hid (X21_5.out.below hb)
  clear hb B5 X20_5 X21_5
  go_wp2_with fail
  refine (toCeS_row n2 cs Z2.out A2 c2 _ (S2.out.below B6.out) le2).mono ?_
  rintro e w7 ⟨A30, c30, rfl, r30, hb⟩
  have sz7 := hb.size
  have B7 := Lib.hid (below_chain B6.out hb)
  have X20_7 := Lib.hid (X20_6.out.below hb)
  have X21_7 := Lib.hid (X21_6.out.below hb)
  clear hb B6 X20_6 X21_6
  have X30_7 := Lib.hid r30
  clear r30
  go_wp2_with fail
  refine (eqCeS_row X20_7.out X30_7.out (by omega)).mono ?_
  rintro e w8 ⟨rfl, hb⟩
  have sz8 := hb.size
  have B8 := Lib.hid (below_chain B7.out hb)
  have X20_8 := Lib.hid (X20_7.out.below hb)
  have X21_8 := Lib.hid (X21_7.out.below hb)
  have X30_8 := Lib.hid (X30_7.out.below hb)
  clear hb B7 X20_7 X21_7 X30_7
  clear X30_8
  go_wp2_with fail
  refine (toCeS_row n3 ds Z3.out A3 c3 _ (S3.out.below B8.out) le3).mono ?_
  rintro e w9 ⟨A31, c31, rfl, r31, hb⟩
  have sz9 := hb.size
  have B9 := Lib.hid (below_chain B8.out hb)
  have X20_9 := Lib.hid (X20_8.out.below hb)
  have X21_9 := Lib.hid (X21_8.out.below hb)
  clear hb B8 X20_8 X21_8
  have X31_9 := Lib.hid r31
  clear r31
  go_wp2_with fail
  refine (eqCeS_row X21_9.out X31_9.out (by omega)).mono ?_
  rintro e w10 ⟨rfl, hb⟩
  have sz10 := hb.size
  have B10 := Lib.hid (below_chain B9.out hb)
  have X20_10 := Lib.hid (X20_9.out.below hb)
  have X21_10 := Lib.hid (X21_9.out.below hb)
  have X31_10 := Lib.hid (X31_9.out.below hb)
  clear hb B9 X20_9 X21_9 X31_9
  go_wp2
  go_ret
  exact ⟨rfl, B10.out⟩
end Go.Proofs.Ytbbagpnjjjohpaa.fnExactNoWorse

