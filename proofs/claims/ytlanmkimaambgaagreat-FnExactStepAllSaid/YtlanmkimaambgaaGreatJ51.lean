/-
  The walk of FnExactStepAll.
-/
import Derived.Test.YtlanmkimaambgaaGreatJ33
import Derived.Test.YtlanmkimaambgaaGreatJ50
import Derived.Test.YtlanmkimaambgaaGreatJ9
import Derived.Test.YtlanmkimaambgaaGreatJ8
import Derived.Test.YtlanmkimaambgaaGreatJ15
import Derived.Deep.RegionHeld3
import Derived.Deep.DeepCutAuto

namespace Go.Proofs.YtlanmkimaambgaaGreat.fnExactStepAll
open Go.RowKit Go.Proofs.YtlanmkimaambgaaGreat.hexes

set_option maxRecDepth 1000000 in
set_option maxHeartbeats 16000000 in
theorem walk (A : Option Addr) (n c : Nat) (gs : List Nd) (wk cp : Int) (A2 : Option Addr) (n2 c2 : Nat) (cs : List Ce) (A1 : Option Addr) (n1 c1 : Nat) (rs : List Rc) (mo : Int) (_hm : (Lit.int .i64 mo).wf = true) (w : World) (hZ : IsNds w A n gs) (hZ2 : IsCes w A2 n2 cs) (hZ1 : IsRcs w A1 n1 rs) :
    Calls Tryz.prog 3 #[.agg #[.slice A n c, .int .i64 wk, .int .i64 cp], .slice A2 n2 c2, .slice A1 n1 c1, .int .i64 mo] w fun e w' => e = .returned (.bool true) ∧ Below w.heap.size w w' := by
  have Z := Lib.hid hZ.len
  have HZ := Lib.hid hZ
  have S := Lib.hid hZ.is
  clear hZ
  have Z2 := Lib.hid hZ2.len
  have M2 := hZ2.max
  have S2 := Lib.hid hZ2.ces
  clear hZ2
  have Z1 := Lib.hid hZ1.len
  have M1 := hZ1.max
  have S1 := Lib.hid hZ1.rcs
  clear hZ1
  by_cases hn0 : (1048576 : Int) < ((n + outSum gs : Nat) : Int)
  · have C0 := Lib.hid (szGr_over A n c gs wk cp HZ.out (left := (1048576 : Int)) (by omega) (by omega) hn0)
    clear hn0
    go_enter Tryz.func3, Tryz.ntmps3
    go_wp2_with fail
    generalize hW : (w.alloc _) = W
    have BB := Lib.hid (show Below w.heap.size w W by rw [← hW]; exact ((Below.refl _ _).alloc (by first | (simp; done) | (simp; omega) | omega) _))
    clear hW
    refine (C0.out _ (S.out.below BB.out)).mono ?_
    rintro e v0 ⟨rfl, hb0⟩
    have BB0 := Lib.hid (below_chain BB.out hb0)
    clear hb0
    go_wp2
    go_ret
    exact ⟨rfl, BB0.out⟩
  obtain ⟨lf0, hl0⟩ : ∃ q : Nat, (1048576 : Int) - ((n + outSum gs : Nat) : Int) = (q : Int) := ⟨((1048576 : Int) - ((n + outSum gs : Nat) : Int)).toNat, by omega⟩
  have C0 := Lib.hid (show ∀ W, Nds W A gs → Calls Tryz.prog 4 #[.agg #[.slice A n c, .int .i64 wk, .int .i64 cp], .int .i64 (1048576 : Int)] W fun e w' => e = .returned (.int .i64 (lf0 : Int)) ∧ Below W.heap.size W w' by rw [← hl0]; exact szGr_in A n c gs wk cp HZ.out (left := (1048576 : Int)) (by omega) (by omega) hn0)
  have os0 : n + outSum gs ≤ 1048576 := by omega
  have le0 : n ≤ 1048576 := by omega
  have ot0 : outSum gs ≤ 1048576 := by omega
  have ou0 : ∀ x ∈ gs, x.2.2.2.length ≤ 1048576 := fun x hx => Nat.le_trans (outSum_mem hx) ot0
  have hd0 : decide ((lf0 : Int) < 0) = false := by simp
  have lb0 : (lf0 : Int) ≤ 1048576 := by omega
  clear hn0 hl0
  by_cases hn1 : (lf0 : Int) < (n2 : Int)
  · have C1 := Lib.hid (fun W => szCe_over A2 n2 c2 (lf0 : Int) (by omega) (by omega) M2 hn1 W)
    clear hn1
    go_enter Tryz.func3, Tryz.ntmps3
    go_wp2_with fail
    generalize hW : (w.alloc _) = W
    have BB := Lib.hid (show Below w.heap.size w W by rw [← hW]; exact ((Below.refl _ _).alloc (by first | (simp; done) | (simp; omega) | omega) _))
    clear hW
    refine (C0.out _ (S.out.below BB.out)).mono ?_
    rintro e v0 ⟨rfl, hb0⟩
    have BB0 := Lib.hid (below_chain BB.out hb0)
    clear hb0
    go_wp2_with fail
    refine (C1.out _).mono ?_
    rintro e v1 ⟨rfl, rfl⟩
    go_wp2
    go_ret
    exact ⟨rfl, BB0.out⟩
  obtain ⟨lf1, hl1⟩ : ∃ q : Nat, (lf0 : Int) - (n2 : Int) = (q : Int) := ⟨((lf0 : Int) - (n2 : Int)).toNat, by omega⟩
  have C1 := Lib.hid (show ∀ W, Calls Tryz.prog 5 #[.slice A2 n2 c2, .int .i64 (lf0 : Int)] W fun e w' => e = .returned (.int .i64 (lf1 : Int)) ∧ W = w' by rw [← hl1]; exact fun W => szCe_in A2 n2 c2 (lf0 : Int) (by omega) (by omega) M2 hn1 W)
  have le2 : n2 ≤ 1048576 := by omega
  have hd1 : decide ((lf1 : Int) < 0) = false := by simp
  have lb1 : (lf1 : Int) ≤ 1048576 := by omega
  clear hn1 hl1
  by_cases hn2 : (lf1 : Int) < (n1 : Int)
  · have C2 := Lib.hid (fun W => szRc_over A1 n1 c1 (lf1 : Int) (by omega) (by omega) M1 hn2 W)
    clear hn2
    go_enter Tryz.func3, Tryz.ntmps3
    go_wp2_with fail
    generalize hW : (w.alloc _) = W
    have BB := Lib.hid (show Below w.heap.size w W by rw [← hW]; exact ((Below.refl _ _).alloc (by first | (simp; done) | (simp; omega) | omega) _))
    clear hW
    refine (C0.out _ (S.out.below BB.out)).mono ?_
    rintro e v0 ⟨rfl, hb0⟩
    have BB0 := Lib.hid (below_chain BB.out hb0)
    clear hb0
    go_wp2_with fail
    refine (C1.out _).mono ?_
    rintro e v1 ⟨rfl, rfl⟩
    go_wp2_with fail
    refine (C2.out _).mono ?_
    rintro e v2 ⟨rfl, rfl⟩
    go_wp2
    go_ret
    exact ⟨rfl, BB0.out⟩
  obtain ⟨lf2, hl2⟩ : ∃ q : Nat, (lf1 : Int) - (n1 : Int) = (q : Int) := ⟨((lf1 : Int) - (n1 : Int)).toNat, by omega⟩
  have C2 := Lib.hid (show ∀ W, Calls Tryz.prog 6 #[.slice A1 n1 c1, .int .i64 (lf1 : Int)] W fun e w' => e = .returned (.int .i64 (lf2 : Int)) ∧ W = w' by rw [← hl2]; exact fun W => szRc_in A1 n1 c1 (lf1 : Int) (by omega) (by omega) M1 hn2 W)
  have le1 : n1 ≤ 1048576 := by omega
  have hd2 : decide ((lf2 : Int) < 0) = false := by simp
  have lb2 : (lf2 : Int) ≤ 1048576 := by omega
  clear hn2 hl2
  obtain ⟨⟨⟨us, out⟩, nn⟩, hsg⟩ : ∃ p, allG gs wk cp cs rs mo = p := ⟨_, rfl⟩
  obtain ⟨m3, hm3⟩ : ∃ m, us.length = m := ⟨_, rfl⟩
  obtain ⟨m4, hm4⟩ : ∃ m, out.length = m := ⟨_, rfl⟩
  have l3 : m3 ≤ n2 + 100000 := by have h := (all_len gs wk cp cs rs mo).1; rw [hsg, Z2.out] at h; rw [← hm3]; exact h
  have l4 : m4 ≤ n1 + 200000 := by have h := (all_len gs wk cp cs rs mo).2; rw [hsg, Z1.out] at h; rw [← hm4]; exact h
  have HSG := Lib.hid hsg
  have HM3 := Lib.hid hm3
  have HM4 := Lib.hid hm4
  clear hsg hm3 hm4
  have hoo : ((nn : Int) != (nn : Int)) = false := by simp
  go_enter Tryz.func3, Tryz.ntmps3
  go_wp2_with fail
  generalize hW : (w.alloc _) = W
  have hb : Below w.heap.size w W := by rw [← hW]; exact ((Below.refl _ _).alloc (by first | (simp; done) | (simp; omega) | omega) _)
  have azW : W.heap.size = w.heap.size + 1 := by rw [← hW]; simp
  have NL0 := Lib.hid (show Blk W (w.heap.size) 24 #[.slice A n c, .int .i64 wk, .int .i64 cp] by rw [← hW]; exact (Blk.new _ _ _))
  clear hW
  have AZW := Lib.hid azW
  clear azW
  have sz1 := hb.size
  have B1 := Lib.hid (hb)
  clear hb
  have L0_1 := NL0
  clear NL0
  have ltL0 : w.heap.size < W.heap.size := L0_1.out.lt
  refine (C0.out _ (S.out.below B1.out)).mono ?_
  rintro e v0 ⟨rfl, hb⟩
  have sz2 := hb.size
  have B2 := Lib.hid (below_chain B1.out hb)
  have L0_2 := Lib.hid (L0_1.out.below hb)
  clear hb B1 L0_1
  go_wp2_with fail
  refine (C1.out _).mono ?_
  rintro e v1 ⟨rfl, rfl⟩
  go_wp2_with fail
  refine (C2.out _).mono ?_
  rintro e v2 ⟨rfl, rfl⟩
  clear C0 C1 C2
  have xL00 : v0.cell? ⟨w.heap.size, 0, none⟩ = some (.slice A n c) := by rw [L0_2.out.cell]; rfl
  have xL01 : v0.cell? ⟨w.heap.size, 1, none⟩ = some (.int .i64 wk) := by rw [L0_2.out.cell]; rfl
  have xL02 : v0.cell? ⟨w.heap.size, 2, none⟩ = some (.int .i64 cp) := by rw [L0_2.out.cell]; rfl
  go_wp2_with fail
  clear xL00 xL01 xL02
  refine (toGr_row n gs Z.out A c wk cp _ (S.out.below B2.out) le0 ou0).mono ?_
  rintro e w1 ⟨A10, c10, vs10, f10, rfl, r10, hb⟩
  have sz3 := hb.size
  have B3 := Lib.hid (below_chain B2.out hb)
  have L0_3 := Lib.hid (L0_2.out.below hb)
  clear hb B2 L0_2
  have X10_3 := Lib.hid r10
  clear r10
  go_wp2_with fail
  refine (toCeS_row n2 cs Z2.out A2 c2 _ (S2.out.below B3.out) le2).mono ?_
  rintro e w2 ⟨A11, c11, rfl, r11, hb⟩
  have sz4 := hb.size
  have B4 := Lib.hid (below_chain B3.out hb)
  have X10_4 := Lib.hid (X10_3.out.below hb)
  have L0_4 := Lib.hid (L0_3.out.below hb)
  clear hb B3 X10_3 L0_3
  have X11_4 := Lib.hid r11
  clear r11
  go_wp2_with fail
  refine (toRcS_row n1 rs Z1.out A1 c1 _ (S1.out.below B4.out) le1).mono ?_
  rintro e w3 ⟨A12, c12, rfl, r12, hb⟩
  have sz5 := hb.size
  have B5 := Lib.hid (below_chain B4.out hb)
  have X10_5 := Lib.hid (X10_4.out.below hb)
  have X11_5 := Lib.hid (X11_4.out.below hb)
  have L0_5 := Lib.hid (L0_4.out.below hb)
  clear hb B4 X10_4 X11_4 L0_4
  have X12_5 := Lib.hid r12
  clear r12
  go_wp2_with fail
  refine (specAll_rows HSG.out HM3.out HM4.out Z.out ou0 le0 Z2.out X11_5.out.nil le2 Z1.out X12_5.out.nil le1 _ X10_5.out.nds X11_5.out.ce X12_5.out.rc (A := A10) (c := c10) (A2 := A11) (c2 := c11) (A1 := A12) (c1 := c12)).mono ?_
  rintro e w4 ⟨A20, c20, A21, c21, rfl, r20, r21, hb⟩
  have sz6 := hb.size
  have B6 := Lib.hid (below_chain B5.out hb)
  have X10_6 := Lib.hid (X10_5.out.below hb)
  have X11_6 := Lib.hid (X11_5.out.below hb)
  have X12_6 := Lib.hid (X12_5.out.below hb)
  have L0_6 := Lib.hid (L0_5.out.below hb)
  clear hb B5 X10_5 X11_5 X12_5 L0_5
  have X20_6 := Lib.hid r20
  clear r20
  have X21_6 := Lib.hid r21
  clear r21
  clear X10_6
  clear X11_6
  clear X12_6
  have xL00 : w4.cell? ⟨w.heap.size, 0, none⟩ = some (.slice A n c) := by rw [L0_6.out.cell]; rfl
  have xL01 : w4.cell? ⟨w.heap.size, 1, none⟩ = some (.int .i64 wk) := by rw [L0_6.out.cell]; rfl
  have xL02 : w4.cell? ⟨w.heap.size, 2, none⟩ = some (.int .i64 cp) := by rw [L0_6.out.cell]; rfl
  go_wp2_with fail
  clear xL00 xL01 xL02
  refine (toGr_row n gs Z.out A c wk cp _ (S.out.below B6.out) le0 ou0).mono ?_
  rintro e w5 ⟨A3, c3, vs3, f3, rfl, r3, hb⟩
  have sz7 := hb.size
  have B7 := Lib.hid (below_chain B6.out hb)
  have X20_7 := Lib.hid (X20_6.out.below hb)
  have X21_7 := Lib.hid (X21_6.out.below hb)
  have L0_7 := Lib.hid (L0_6.out.below hb)
  clear hb B6 X20_6 X21_6 L0_6
  have X3_7 := Lib.hid r3
  clear r3
  go_wp2_with fail
  generalize hW : (w5.alloc _) = V3
  have hb : Below w5.heap.size w5 V3 := by rw [← hW]; exact ((Below.refl _ _).alloc (by first | (simp; done) | (simp; omega) | omega) _)
  have azV3 : V3.heap.size = w5.heap.size + 1 := by rw [← hW]; simp
  have Nx0 := Lib.hid (show Blk V3 (w5.heap.size) 36 #[.slice A3 n c3, .int .i64 wk, .int .i64 cp] by rw [← hW]; exact (Blk.new _ _ _))
  clear hW
  have AZV3 := Lib.hid azV3
  clear azV3
  have sz8 := hb.size
  have B8 := Lib.hid (below_chain B7.out hb)
  have X20_8 := Lib.hid (X20_7.out.below hb)
  have X21_8 := Lib.hid (X21_7.out.below hb)
  have X3_8 := Lib.hid (X3_7.out.below hb)
  have L0_8 := Lib.hid (L0_7.out.below hb)
  clear hb B7 X20_7 X21_7 X3_7 L0_7
  have x0_8 := Nx0
  clear Nx0
  have ltx0 : w5.heap.size < V3.heap.size := x0_8.out.lt
  refine (toCeS_row n2 cs Z2.out A2 c2 _ (S2.out.below B8.out) le2).mono ?_
  rintro e w6 ⟨A30, c30, rfl, r30, hb⟩
  have sz9 := hb.size
  have B9 := Lib.hid (below_chain B8.out hb)
  have X20_9 := Lib.hid (X20_8.out.below hb)
  have X21_9 := Lib.hid (X21_8.out.below hb)
  have X3_9 := Lib.hid (X3_8.out.below hb)
  have L0_9 := Lib.hid (L0_8.out.below hb)
  have x0_9 := Lib.hid (x0_8.out.below hb)
  clear hb B8 X20_8 X21_8 X3_8 L0_8 x0_8
  have X30_9 := Lib.hid r30
  clear r30
  go_wp2_with fail
  refine (toRcS_row n1 rs Z1.out A1 c1 _ (S1.out.below B9.out) le1).mono ?_
  rintro e w7 ⟨A31, c31, rfl, r31, hb⟩
  have sz10 := hb.size
  have B10 := Lib.hid (below_chain B9.out hb)
  have X20_10 := Lib.hid (X20_9.out.below hb)
  have X21_10 := Lib.hid (X21_9.out.below hb)
  have X3_10 := Lib.hid (X3_9.out.below hb)
  have X30_10 := Lib.hid (X30_9.out.below hb)
  have L0_10 := Lib.hid (L0_9.out.below hb)
  have x0_10 := Lib.hid (x0_9.out.below hb)
  clear hb B9 X20_9 X21_9 X3_9 X30_9 L0_9 x0_9
  have X31_10 := Lib.hid r31
  clear r31
  have xx00 : w7.cell? ⟨w5.heap.size, 0, none⟩ = some (.slice A3 n c3) := by rw [x0_10.out.cell]; rfl
  have xx01 : w7.cell? ⟨w5.heap.size, 1, none⟩ = some (.int .i64 wk) := by rw [x0_10.out.cell]; rfl
  have xx02 : w7.cell? ⟨w5.heap.size, 2, none⟩ = some (.int .i64 cp) := by rw [x0_10.out.cell]; rfl
  go_wp2_with fail
  clear xx00 xx01 xx02
  refine (implAll_rows HSG.out HM3.out HM4.out Z.out ou0 le0 Z2.out X30_10.out.nil le2 Z1.out X31_10.out.nil le1 _ X3_10.out.nds X30_10.out.ce X31_10.out.rc (A := A3) (c := c3) (A2 := A30) (c2 := c30) (A1 := A31) (c1 := c31)).mono ?_
  rintro e w8 ⟨A40, c40, A41, c41, rfl, r40, r41, hb⟩
  have sz11 := hb.size
  have B11 := Lib.hid (below_chain B10.out hb)
  have X20_11 := Lib.hid (X20_10.out.below hb)
  have X21_11 := Lib.hid (X21_10.out.below hb)
  have X3_11 := Lib.hid (X3_10.out.below hb)
  have X30_11 := Lib.hid (X30_10.out.below hb)
  have X31_11 := Lib.hid (X31_10.out.below hb)
  have L0_11 := Lib.hid (L0_10.out.below hb)
  have x0_11 := Lib.hid (x0_10.out.below hb)
  clear hb B10 X20_10 X21_10 X3_10 X30_10 X31_10 L0_10 x0_10
  have X40_11 := Lib.hid r40
  clear r40
  have X41_11 := Lib.hid r41
  clear r41
  go_wp2_with fail
  refine (eqCeS_row X40_11.out X20_11.out (by omega)).mono ?_
  rintro e w9 ⟨rfl, hb⟩
  have sz12 := hb.size
  have B12 := Lib.hid (below_chain B11.out hb)
  have X20_12 := Lib.hid (X20_11.out.below hb)
  have X21_12 := Lib.hid (X21_11.out.below hb)
  have X3_12 := Lib.hid (X3_11.out.below hb)
  have X30_12 := Lib.hid (X30_11.out.below hb)
  have X31_12 := Lib.hid (X31_11.out.below hb)
  have X40_12 := Lib.hid (X40_11.out.below hb)
  have X41_12 := Lib.hid (X41_11.out.below hb)
  have L0_12 := Lib.hid (L0_11.out.below hb)
  have x0_12 := Lib.hid (x0_11.out.below hb)
  clear hb B11 X20_11 X21_11 X3_11 X30_11 X31_11 X40_11 X41_11 L0_11 x0_11
  go_wp2_with fail
  refine (eqRcW_row X41_12.out X21_12.out (by omega)).mono ?_
  rintro e w10 ⟨rfl, hb⟩
  have sz13 := hb.size
  have B13 := Lib.hid (below_chain B12.out hb)
  have X20_13 := Lib.hid (X20_12.out.below hb)
  have X21_13 := Lib.hid (X21_12.out.below hb)
  have X3_13 := Lib.hid (X3_12.out.below hb)
  have X30_13 := Lib.hid (X30_12.out.below hb)
  have X31_13 := Lib.hid (X31_12.out.below hb)
  have X40_13 := Lib.hid (X40_12.out.below hb)
  have X41_13 := Lib.hid (X41_12.out.below hb)
  have L0_13 := Lib.hid (L0_12.out.below hb)
  have x0_13 := Lib.hid (x0_12.out.below hb)
  clear hb B12 X20_12 X21_12 X3_12 X30_12 X31_12 X40_12 X41_12 L0_12 x0_12
  go_upto_region 18 with fail
  have k0 : w10.cell? ⟨w5.heap.size, 0, none⟩ = some (.slice A3 n c3) := by rw [x0_13.out.cell]; rfl
  have k1 : w10.cell? ⟨w5.heap.size, 1, none⟩ = some (.int .i64 wk) := by rw [x0_13.out.cell]; rfl
  have k2 : w10.cell? ⟨w5.heap.size, 2, none⟩ = some (.int .i64 cp) := by rw [x0_13.out.cell]; rfl
  have k3 : w10.cell? ⟨w.heap.size, 0, none⟩ = some (.slice A n c) := by rw [L0_13.out.cell]; rfl
  have k4 : w10.cell? ⟨w.heap.size, 1, none⟩ = some (.int .i64 wk) := by rw [L0_13.out.cell]; rfl
  have k5 : w10.cell? ⟨w.heap.size, 2, none⟩ = some (.int .i64 cp) := by rw [L0_13.out.cell]; rfl
  have kb := Below.refl w10.heap.size w10
  have ks := (S.out.below B13.out)
  have kx := X3_13.out
  go_cut [86] (fun t wx => t = .bool false ∧ Below w10.heap.size w10 wx)
  case first =>
    go_region_held3 (fun w' => w'.cell? ⟨w5.heap.size, 0, none⟩ = some (.slice A3 n c3) ∧ w'.cell? ⟨w5.heap.size, 1, none⟩ = some (.int .i64 wk) ∧ w'.cell? ⟨w5.heap.size, 2, none⟩ = some (.int .i64 cp) ∧ w'.cell? ⟨w.heap.size, 0, none⟩ = some (.slice A n c) ∧ w'.cell? ⟨w.heap.size, 1, none⟩ = some (.int .i64 wk) ∧ w'.cell? ⟨w.heap.size, 2, none⟩ = some (.int .i64 cp) ∧ Nds w' A gs ∧ Below w10.heap.size w10 w')
      (((try go_split_ands); refine ⟨?_, ?_, ?_, ?_, ?_, ?_, ?_, ?_⟩ <;> (repeat (first | with_reducible assumption | with_reducible refine drew_keep ?_ | with_reducible refine below_keep hbd ?_ | with_reducible refine nds_drew ?_ | with_reducible refine Nds.below ?_ hbd | with_reducible refine Below.drew ?_ | with_reducible refine below_chain ?_ hbd))))
      (first | (go_at_call 8; (try go_split_ands); (with_reducible refine (toGr_row n gs Z.out A c wk cp _ (by assumption) le0 ou0).mono ?_); rintro e w5 ⟨A5, c5, vs5, f5, rfl, s5, hbd⟩) | (go_at_call 14; (try go_split_ands); (with_reducible refine (eqGr_row wk cp (GrRows.below kx (by assumption)) s5 le0 ou0).mono ?_); rintro e w6 ⟨rfl, hbd⟩))
    all_goals (
      go_wp2_with fail
      go_meet
      refine ⟨rfl, ?_⟩
      (try go_split_ands)
      assumption)
  case rest =>
  obtain ⟨rfl, hb⟩ := hcut
  clear kb ks kx k0 k1 k2 k3 k4 k5
  obtain ⟨u3, hwc⟩ : ∃ z, z = wc := ⟨_, rfl⟩
  subst hwc
  have sz14 := hb.size
  have B14 := Lib.hid (below_chain B13.out hb)
  have X20_14 := Lib.hid (X20_13.out.below hb)
  have X21_14 := Lib.hid (X21_13.out.below hb)
  have X3_14 := Lib.hid (X3_13.out.below hb)
  have X30_14 := Lib.hid (X30_13.out.below hb)
  have X31_14 := Lib.hid (X31_13.out.below hb)
  have X40_14 := Lib.hid (X40_13.out.below hb)
  have X41_14 := Lib.hid (X41_13.out.below hb)
  have L0_14 := Lib.hid (L0_13.out.below hb)
  have x0_14 := Lib.hid (x0_13.out.below hb)
  clear hb B13 X20_13 X21_13 X3_13 X30_13 X31_13 X40_13 X41_13 L0_13 x0_13
  go_wp2_with fail
  refine (toCeS_row n2 cs Z2.out A2 c2 _ (S2.out.below B14.out) le2).mono ?_
  rintro e w12 ⟨A50, c50, rfl, r50, hb⟩
  have sz15 := hb.size
  have B15 := Lib.hid (below_chain B14.out hb)
  have X20_15 := Lib.hid (X20_14.out.below hb)
  have X21_15 := Lib.hid (X21_14.out.below hb)
  have X3_15 := Lib.hid (X3_14.out.below hb)
  have X30_15 := Lib.hid (X30_14.out.below hb)
  have X31_15 := Lib.hid (X31_14.out.below hb)
  have X40_15 := Lib.hid (X40_14.out.below hb)
  have X41_15 := Lib.hid (X41_14.out.below hb)
  have L0_15 := Lib.hid (L0_14.out.below hb)
  have x0_15 := Lib.hid (x0_14.out.below hb)
  clear hb B14 X20_14 X21_14 X3_14 X30_14 X31_14 X40_14 X41_14 L0_14 x0_14
  have X50_15 := Lib.hid r50
  clear r50
  go_wp2_with fail
  refine (eqCeS_row X30_15.out X50_15.out (by omega)).mono ?_
  rintro e w13 ⟨rfl, hb⟩
  have sz16 := hb.size
  have B16 := Lib.hid (below_chain B15.out hb)
  have X20_16 := Lib.hid (X20_15.out.below hb)
  have X21_16 := Lib.hid (X21_15.out.below hb)
  have X3_16 := Lib.hid (X3_15.out.below hb)
  have X30_16 := Lib.hid (X30_15.out.below hb)
  have X31_16 := Lib.hid (X31_15.out.below hb)
  have X40_16 := Lib.hid (X40_15.out.below hb)
  have X41_16 := Lib.hid (X41_15.out.below hb)
  have X50_16 := Lib.hid (X50_15.out.below hb)
  have L0_16 := Lib.hid (L0_15.out.below hb)
  have x0_16 := Lib.hid (x0_15.out.below hb)
  clear hb B15 X20_15 X21_15 X3_15 X30_15 X31_15 X40_15 X41_15 X50_15 L0_15 x0_15
  clear X50_16
  go_wp2_with fail
  refine (toRcS_row n1 rs Z1.out A1 c1 _ (S1.out.below B16.out) le1).mono ?_
  rintro e w14 ⟨A51, c51, rfl, r51, hb⟩
  have sz17 := hb.size
  have B17 := Lib.hid (below_chain B16.out hb)
  have X20_17 := Lib.hid (X20_16.out.below hb)
  have X21_17 := Lib.hid (X21_16.out.below hb)
  have X3_17 := Lib.hid (X3_16.out.below hb)
  have X30_17 := Lib.hid (X30_16.out.below hb)
  have X31_17 := Lib.hid (X31_16.out.below hb)
  have X40_17 := Lib.hid (X40_16.out.below hb)
  have X41_17 := Lib.hid (X41_16.out.below hb)
  have L0_17 := Lib.hid (L0_16.out.below hb)
  have x0_17 := Lib.hid (x0_16.out.below hb)
  clear hb B16 X20_16 X21_16 X3_16 X30_16 X31_16 X40_16 X41_16 L0_16 x0_16
  have X51_17 := Lib.hid r51
  clear r51
  go_wp2_with fail
  refine (eqRcS_row X31_17.out X51_17.out (by omega)).mono ?_
  rintro e w15 ⟨rfl, hb⟩
  have sz18 := hb.size
  have B18 := Lib.hid (below_chain B17.out hb)
  have X20_18 := Lib.hid (X20_17.out.below hb)
  have X21_18 := Lib.hid (X21_17.out.below hb)
  have X3_18 := Lib.hid (X3_17.out.below hb)
  have X30_18 := Lib.hid (X30_17.out.below hb)
  have X31_18 := Lib.hid (X31_17.out.below hb)
  have X40_18 := Lib.hid (X40_17.out.below hb)
  have X41_18 := Lib.hid (X41_17.out.below hb)
  have X51_18 := Lib.hid (X51_17.out.below hb)
  have L0_18 := Lib.hid (L0_17.out.below hb)
  have x0_18 := Lib.hid (x0_17.out.below hb)
  clear hb B17 X20_17 X21_17 X3_17 X30_17 X31_17 X40_17 X41_17 X51_17 L0_17 x0_17
  clear X51_18
  have xx00 : w15.cell? ⟨w5.heap.size, 0, none⟩ = some (.slice A3 n c3) := by rw [x0_18.out.cell]; rfl
  have xx01 : w15.cell? ⟨w5.heap.size, 1, none⟩ = some (.int .i64 wk) := by rw [x0_18.out.cell]; rfl
  have xx02 : w15.cell? ⟨w5.heap.size, 2, none⟩ = some (.int .i64 cp) := by rw [x0_18.out.cell]; rfl
  go_wp2_with fail
  clear xx00 xx01 xx02
  refine (markGr_any X3_18.out wk cp 1 (by omega)).mono ?_
  rintro e w16 ⟨rfl, gw0⟩
  have gw : Turned _ _ w15 w16 := gw0
  clear gw0
  have sz19 := gw.size
  have B19 := Lib.hid (below_turned B18.out gw (by omega))
  have X20_19 := Lib.hid (X20_18.out.turned gw (by omega))
  have X21_19 := Lib.hid (X21_18.out.turned gw (by omega))
  have X30_19 := Lib.hid (X30_18.out.turned gw (by omega))
  have X31_19 := Lib.hid (X31_18.out.turned gw (by omega))
  have X40_19 := Lib.hid (X40_18.out.turned gw (by omega))
  have X41_19 := Lib.hid (X41_18.out.turned gw (by omega))
  have L0_19 := Lib.hid (L0_18.out.turned gw (by omega))
  have x0_19 := Lib.hid (x0_18.out.turned gw (by omega))
  clear gw B18 X20_18 X21_18 X3_18 X30_18 X31_18 X40_18 X41_18 L0_18 x0_18
  go_wp2_with fail
  refine (markCeS_row (1 + 3 * n + outSum gs) X30_19.out (by omega) (by omega)).mono ?_
  rintro e w17 ⟨rfl, om, gw⟩
  have gwT := Wrote.turned gw
  clear gw
  have sz20 := gwT.size
  have B20 := Lib.hid (below_turned B19.out gwT (by omega))
  have X20_20 := Lib.hid (X20_19.out.turned gwT (by omega))
  have X21_20 := Lib.hid (X21_19.out.turned gwT (by omega))
  have X30_20 := Lib.hid om
  have X31_20 := Lib.hid (X31_19.out.turned gwT (by omega))
  have X40_20 := Lib.hid (X40_19.out.turned gwT (by omega))
  have X41_20 := Lib.hid (X41_19.out.turned gwT (by omega))
  have L0_20 := Lib.hid (L0_19.out.turned gwT (by omega))
  have x0_20 := Lib.hid (x0_19.out.turned gwT (by omega))
  clear om gwT B19 X20_19 X21_19 X30_19 X31_19 X40_19 X41_19 L0_19 x0_19
  go_wp2_with fail
  refine (markRcS_row (1 + 3 * n + outSum gs + 4 * n2) X31_20.out (by omega) (by omega)).mono ?_
  rintro e w18 ⟨rfl, om, gw⟩
  have gwT := Wrote.turned gw
  clear gw
  have sz21 := gwT.size
  have B21 := Lib.hid (below_turned B20.out gwT (by omega))
  have X20_21 := Lib.hid (X20_20.out.turned gwT (by omega))
  have X21_21 := Lib.hid (X21_20.out.turned gwT (by omega))
  have X30_21 := Lib.hid (X30_20.out.turned gwT (by omega))
  have X31_21 := Lib.hid om
  have X40_21 := Lib.hid (X40_20.out.turned gwT (by omega))
  have X41_21 := Lib.hid (X41_20.out.turned gwT (by omega))
  have L0_21 := Lib.hid (L0_20.out.turned gwT (by omega))
  have x0_21 := Lib.hid (x0_20.out.turned gwT (by omega))
  clear om gwT B20 X20_20 X21_20 X30_20 X31_20 X40_20 X41_20 L0_20 x0_20
  go_wp2_with fail
  refine (eqCeS_row X40_21.out X20_21.out (by omega)).mono ?_
  rintro e w19 ⟨rfl, hb⟩
  have sz22 := hb.size
  have B22 := Lib.hid (below_chain B21.out hb)
  have X20_22 := Lib.hid (X20_21.out.below hb)
  have X21_22 := Lib.hid (X21_21.out.below hb)
  have X30_22 := Lib.hid (X30_21.out.below hb)
  have X31_22 := Lib.hid (X31_21.out.below hb)
  have X40_22 := Lib.hid (X40_21.out.below hb)
  have X41_22 := Lib.hid (X41_21.out.below hb)
  have L0_22 := Lib.hid (L0_21.out.below hb)
  have x0_22 := Lib.hid (x0_21.out.below hb)
  clear hb B21 X20_21 X21_21 X30_21 X31_21 X40_21 X41_21 L0_21 x0_21
  go_wp2_with fail
  refine (eqRcW_row X41_22.out X21_22.out (by omega)).mono ?_
  rintro e w20 ⟨rfl, hb⟩
  have sz23 := hb.size
  have B23 := Lib.hid (below_chain B22.out hb)
  have X20_23 := Lib.hid (X20_22.out.below hb)
  have X21_23 := Lib.hid (X21_22.out.below hb)
  have X30_23 := Lib.hid (X30_22.out.below hb)
  have X31_23 := Lib.hid (X31_22.out.below hb)
  have X40_23 := Lib.hid (X40_22.out.below hb)
  have X41_23 := Lib.hid (X41_22.out.below hb)
  have L0_23 := Lib.hid (L0_22.out.below hb)
  have x0_23 := Lib.hid (x0_22.out.below hb)
  clear hb B22 X20_22 X21_22 X30_22 X31_22 X40_22 X41_22 L0_22 x0_22
  go_wp2_with fail
  refine (markCeW_two 1 X40_23.out X41_23.out (by omega) (by omega)).mono ?_
  rintro e w21 ⟨rfl, om, tw, gw⟩
  clear X41_23
  have gwT := Wrote.turned gw
  clear gw
  have sz24 := gwT.size
  have B24 := Lib.hid (below_turned B23.out gwT (by omega))
  have X20_24 := Lib.hid (X20_23.out.turned gwT (by omega))
  have X21_24 := Lib.hid (X21_23.out.turned gwT (by omega))
  have X30_24 := Lib.hid (X30_23.out.turned gwT (by omega))
  have X31_24 := Lib.hid (X31_23.out.turned gwT (by omega))
  have X40_24 := Lib.hid om
  have L0_24 := Lib.hid (L0_23.out.turned gwT (by omega))
  have x0_24 := Lib.hid (x0_23.out.turned gwT (by omega))
  clear om gwT B23 X20_23 X21_23 X30_23 X31_23 X40_23 L0_23 x0_23
  have X41_24 := Lib.hid tw
  clear tw
  go_wp2_with fail
  refine (markRcW_two (1 + 4 * m3) X41_24.out X40_24.out (by omega) (by omega)).mono ?_
  rintro e w22 ⟨rfl, om, tw, gw⟩
  clear X40_24
  have gwT := Wrote.turned gw
  clear gw
  have sz25 := gwT.size
  have B25 := Lib.hid (below_turned B24.out gwT (by omega))
  have X20_25 := Lib.hid (X20_24.out.turned gwT (by omega))
  have X21_25 := Lib.hid (X21_24.out.turned gwT (by omega))
  have X30_25 := Lib.hid (X30_24.out.turned gwT (by omega))
  have X31_25 := Lib.hid (X31_24.out.turned gwT (by omega))
  have X41_25 := Lib.hid om
  have L0_25 := Lib.hid (L0_24.out.turned gwT (by omega))
  have x0_25 := Lib.hid (x0_24.out.turned gwT (by omega))
  clear om gwT B24 X20_24 X21_24 X30_24 X31_24 X41_24 L0_24 x0_24
  have X40_25 := Lib.hid tw
  clear tw
  go_wp2_with fail
  refine (heldCeS_row 1 X40_25.out (by omega) (by omega)).mono ?_
  rintro e w23 ⟨rfl, he⟩
  have hb : Below w22.heap.size w22 w23 := he ▸ Below.refl _ _
  clear he
  have sz26 := hb.size
  have B26 := Lib.hid (below_chain B25.out hb)
  have X20_26 := Lib.hid (X20_25.out.below hb)
  have X21_26 := Lib.hid (X21_25.out.below hb)
  have X30_26 := Lib.hid (X30_25.out.below hb)
  have X31_26 := Lib.hid (X31_25.out.below hb)
  have X41_26 := Lib.hid (X41_25.out.below hb)
  have X40_26 := Lib.hid (X40_25.out.below hb)
  have L0_26 := Lib.hid (L0_25.out.below hb)
  have x0_26 := Lib.hid (x0_25.out.below hb)
  clear hb B25 X20_25 X21_25 X30_25 X31_25 X41_25 X40_25 L0_25 x0_25
  go_wp2_with fail
  refine (heldRcW_row (1 + 4 * m3) X41_26.out (by omega) (by omega)).mono ?_
  rintro e w24 ⟨rfl, he⟩
  have hb : Below w23.heap.size w23 w24 := he ▸ Below.refl _ _
  clear he
  have sz27 := hb.size
  have B27 := Lib.hid (below_chain B26.out hb)
  have X20_27 := Lib.hid (X20_26.out.below hb)
  have X21_27 := Lib.hid (X21_26.out.below hb)
  have X30_27 := Lib.hid (X30_26.out.below hb)
  have X31_27 := Lib.hid (X31_26.out.below hb)
  have X41_27 := Lib.hid (X41_26.out.below hb)
  have X40_27 := Lib.hid (X40_26.out.below hb)
  have L0_27 := Lib.hid (L0_26.out.below hb)
  have x0_27 := Lib.hid (x0_26.out.below hb)
  clear hb B26 X20_26 X21_26 X30_26 X31_26 X41_26 X40_26 L0_26 x0_26
  have xL00 : w24.cell? ⟨w.heap.size, 0, none⟩ = some (.slice A n c) := by rw [L0_27.out.cell]; rfl
  have xL01 : w24.cell? ⟨w.heap.size, 1, none⟩ = some (.int .i64 wk) := by rw [L0_27.out.cell]; rfl
  have xL02 : w24.cell? ⟨w.heap.size, 2, none⟩ = some (.int .i64 cp) := by rw [L0_27.out.cell]; rfl
  go_wp2_with fail
  clear xL00 xL01 xL02
  refine (toGr_row n gs Z.out A c wk cp _ (S.out.below B27.out) le0 ou0).mono ?_
  rintro e w25 ⟨A60, c60, vs60, f60, rfl, r60, hb⟩
  have sz28 := hb.size
  have B28 := Lib.hid (below_chain B27.out hb)
  have X20_28 := Lib.hid (X20_27.out.below hb)
  have X21_28 := Lib.hid (X21_27.out.below hb)
  have X30_28 := Lib.hid (X30_27.out.below hb)
  have X31_28 := Lib.hid (X31_27.out.below hb)
  have X41_28 := Lib.hid (X41_27.out.below hb)
  have X40_28 := Lib.hid (X40_27.out.below hb)
  have L0_28 := Lib.hid (L0_27.out.below hb)
  have x0_28 := Lib.hid (x0_27.out.below hb)
  clear hb B27 X20_27 X21_27 X30_27 X31_27 X41_27 X40_27 L0_27 x0_27
  have X60_28 := Lib.hid r60
  clear r60
  go_wp2_with fail
  refine (toCeS_row n2 cs Z2.out A2 c2 _ (S2.out.below B28.out) le2).mono ?_
  rintro e w26 ⟨A61, c61, rfl, r61, hb⟩
  have sz29 := hb.size
  have B29 := Lib.hid (below_chain B28.out hb)
  have X20_29 := Lib.hid (X20_28.out.below hb)
  have X21_29 := Lib.hid (X21_28.out.below hb)
  have X30_29 := Lib.hid (X30_28.out.below hb)
  have X31_29 := Lib.hid (X31_28.out.below hb)
  have X41_29 := Lib.hid (X41_28.out.below hb)
  have X40_29 := Lib.hid (X40_28.out.below hb)
  have X60_29 := Lib.hid (X60_28.out.below hb)
  have L0_29 := Lib.hid (L0_28.out.below hb)
  have x0_29 := Lib.hid (x0_28.out.below hb)
  clear hb B28 X20_28 X21_28 X30_28 X31_28 X41_28 X40_28 X60_28 L0_28 x0_28
  have X61_29 := Lib.hid r61
  clear r61
  go_wp2_with fail
  refine (toRcS_row n1 rs Z1.out A1 c1 _ (S1.out.below B29.out) le1).mono ?_
  rintro e w27 ⟨A62, c62, rfl, r62, hb⟩
  have sz30 := hb.size
  have B30 := Lib.hid (below_chain B29.out hb)
  have X20_30 := Lib.hid (X20_29.out.below hb)
  have X21_30 := Lib.hid (X21_29.out.below hb)
  have X30_30 := Lib.hid (X30_29.out.below hb)
  have X31_30 := Lib.hid (X31_29.out.below hb)
  have X41_30 := Lib.hid (X41_29.out.below hb)
  have X40_30 := Lib.hid (X40_29.out.below hb)
  have X60_30 := Lib.hid (X60_29.out.below hb)
  have X61_30 := Lib.hid (X61_29.out.below hb)
  have L0_30 := Lib.hid (L0_29.out.below hb)
  have x0_30 := Lib.hid (x0_29.out.below hb)
  clear hb B29 X20_29 X21_29 X30_29 X31_29 X41_29 X40_29 X60_29 X61_29 L0_29 x0_29
  have X62_30 := Lib.hid r62
  clear r62
  go_wp2_with fail
  refine (implAll_rows HSG.out HM3.out HM4.out Z.out ou0 le0 Z2.out X61_30.out.nil le2 Z1.out X62_30.out.nil le1 _ X60_30.out.nds X61_30.out.ce X62_30.out.rc (A := A60) (c := c60) (A2 := A61) (c2 := c61) (A1 := A62) (c1 := c62)).mono ?_
  rintro e w28 ⟨A70, c70, A71, c71, rfl, r70, r71, hb⟩
  have sz31 := hb.size
  have B31 := Lib.hid (below_chain B30.out hb)
  have X20_31 := Lib.hid (X20_30.out.below hb)
  have X21_31 := Lib.hid (X21_30.out.below hb)
  have X30_31 := Lib.hid (X30_30.out.below hb)
  have X31_31 := Lib.hid (X31_30.out.below hb)
  have X41_31 := Lib.hid (X41_30.out.below hb)
  have X40_31 := Lib.hid (X40_30.out.below hb)
  have X60_31 := Lib.hid (X60_30.out.below hb)
  have X61_31 := Lib.hid (X61_30.out.below hb)
  have X62_31 := Lib.hid (X62_30.out.below hb)
  have L0_31 := Lib.hid (L0_30.out.below hb)
  have x0_31 := Lib.hid (x0_30.out.below hb)
  clear hb B30 X20_30 X21_30 X30_30 X31_30 X41_30 X40_30 X60_30 X61_30 X62_30 L0_30 x0_30
  have X70_31 := Lib.hid r70
  clear r70
  have X71_31 := Lib.hid r71
  clear r71
  go_wp2_with fail
  refine (eqCeS_row X70_31.out X20_31.out (by omega)).mono ?_
  rintro e w29 ⟨rfl, hb⟩
  have sz32 := hb.size
  have B32 := Lib.hid (below_chain B31.out hb)
  have X20_32 := Lib.hid (X20_31.out.below hb)
  have X21_32 := Lib.hid (X21_31.out.below hb)
  have X30_32 := Lib.hid (X30_31.out.below hb)
  have X31_32 := Lib.hid (X31_31.out.below hb)
  have X41_32 := Lib.hid (X41_31.out.below hb)
  have X40_32 := Lib.hid (X40_31.out.below hb)
  have X60_32 := Lib.hid (X60_31.out.below hb)
  have X61_32 := Lib.hid (X61_31.out.below hb)
  have X62_32 := Lib.hid (X62_31.out.below hb)
  have X70_32 := Lib.hid (X70_31.out.below hb)
  have X71_32 := Lib.hid (X71_31.out.below hb)
  have L0_32 := Lib.hid (L0_31.out.below hb)
  have x0_32 := Lib.hid (x0_31.out.below hb)
  clear hb B31 X20_31 X21_31 X30_31 X31_31 X41_31 X40_31 X60_31 X61_31 X62_31 X70_31 X71_31 L0_31 x0_31
  go_wp2_with fail
  refine (eqRcW_row X71_32.out X21_32.out (by omega)).mono ?_
  rintro e w30 ⟨rfl, hb⟩
  have sz33 := hb.size
  have B33 := Lib.hid (below_chain B32.out hb)
  have X20_33 := Lib.hid (X20_32.out.below hb)
  have X21_33 := Lib.hid (X21_32.out.below hb)
  have X30_33 := Lib.hid (X30_32.out.below hb)
  have X31_33 := Lib.hid (X31_32.out.below hb)
  have X41_33 := Lib.hid (X41_32.out.below hb)
  have X40_33 := Lib.hid (X40_32.out.below hb)
  have X60_33 := Lib.hid (X60_32.out.below hb)
  have X61_33 := Lib.hid (X61_32.out.below hb)
  have X62_33 := Lib.hid (X62_32.out.below hb)
  have X70_33 := Lib.hid (X70_32.out.below hb)
  have X71_33 := Lib.hid (X71_32.out.below hb)
  have L0_33 := Lib.hid (L0_32.out.below hb)
  have x0_33 := Lib.hid (x0_32.out.below hb)
  clear hb B32 X20_32 X21_32 X30_32 X31_32 X41_32 X40_32 X60_32 X61_32 X62_32 X70_32 X71_32 L0_32 x0_32
  go_wp2_with fail
  refine (heldCeS_row 1 X40_33.out (by omega) (by omega)).mono ?_
  rintro e w31 ⟨rfl, he⟩
  have hb : Below w30.heap.size w30 w31 := he ▸ Below.refl _ _
  clear he
  have sz34 := hb.size
  have B34 := Lib.hid (below_chain B33.out hb)
  have X20_34 := Lib.hid (X20_33.out.below hb)
  have X21_34 := Lib.hid (X21_33.out.below hb)
  have X30_34 := Lib.hid (X30_33.out.below hb)
  have X31_34 := Lib.hid (X31_33.out.below hb)
  have X41_34 := Lib.hid (X41_33.out.below hb)
  have X40_34 := Lib.hid (X40_33.out.below hb)
  have X60_34 := Lib.hid (X60_33.out.below hb)
  have X61_34 := Lib.hid (X61_33.out.below hb)
  have X62_34 := Lib.hid (X62_33.out.below hb)
  have X70_34 := Lib.hid (X70_33.out.below hb)
  have X71_34 := Lib.hid (X71_33.out.below hb)
  have L0_34 := Lib.hid (L0_33.out.below hb)
  have x0_34 := Lib.hid (x0_33.out.below hb)
  clear hb B33 X20_33 X21_33 X30_33 X31_33 X41_33 X40_33 X60_33 X61_33 X62_33 X70_33 X71_33 L0_33 x0_33
  go_wp2_with fail
  refine (heldRcW_row (1 + 4 * m3) X41_34.out (by omega) (by omega)).mono ?_
  rintro e w32 ⟨rfl, he⟩
  have hb : Below w31.heap.size w31 w32 := he ▸ Below.refl _ _
  clear he
  have sz35 := hb.size
  have B35 := Lib.hid (below_chain B34.out hb)
  have X20_35 := Lib.hid (X20_34.out.below hb)
  have X21_35 := Lib.hid (X21_34.out.below hb)
  have X30_35 := Lib.hid (X30_34.out.below hb)
  have X31_35 := Lib.hid (X31_34.out.below hb)
  have X41_35 := Lib.hid (X41_34.out.below hb)
  have X40_35 := Lib.hid (X40_34.out.below hb)
  have X60_35 := Lib.hid (X60_34.out.below hb)
  have X61_35 := Lib.hid (X61_34.out.below hb)
  have X62_35 := Lib.hid (X62_34.out.below hb)
  have X70_35 := Lib.hid (X70_34.out.below hb)
  have X71_35 := Lib.hid (X71_34.out.below hb)
  have L0_35 := Lib.hid (L0_34.out.below hb)
  have x0_35 := Lib.hid (x0_34.out.below hb)
  clear hb B34 X20_34 X21_34 X30_34 X31_34 X41_34 X40_34 X60_34 X61_34 X62_34 X70_34 X71_34 L0_34 x0_34
  go_wp2
  go_ret
  exact ⟨rfl, B35.out⟩
end Go.Proofs.YtlanmkimaambgaaGreat.fnExactStepAll

