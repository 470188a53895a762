/-
  The walk of FnExactImprove.
-/
import Derived.Test.YtbbagpnjjjohpaaJ43
import Derived.Test.YtbbagpnjjjohpaaJ11
import Derived.Test.YtbbagpnjjjohpaaJ10
import Derived.Test.YtbbagpnjjjohpaaJ42
import Derived.Deep.RegionHeld3
import Derived.Deep.DeepCutAuto

namespace Go.Proofs.Ytbbagpnjjjohpaa.fnExactImprove
open Go.RowKit Go.Proofs.Ytbbagpnjjjohpaa.hexes

set_option maxRecDepth 1000000 in
set_option maxHeartbeats 16000000 in
theorem walk (A : Option Addr) (n c : Nat) (gs : List Nd) (wk cp : Int) (A2 : Option Addr) (n2 c2 : Nat) (cs : List Ce) (x0 : Int) (x1 : Int) (x2 : Int) (x3 : Int) (_hx0 : (Lit.int .i64 x0).wf = true) (_hx1 : (Lit.int .i64 x1).wf = true) (_hx2 : (Lit.int .i64 x2).wf = true) (_hx3 : (Lit.int .i64 x3).wf = true) (w : World) (hZ : IsNds w A n gs) (hZ2 : IsCes w A2 n2 cs) :
    Calls Try.prog 5 #[.agg #[.slice A n c, .int .i64 wk, .int .i64 cp], .slice A2 n2 c2, .agg #[.int .i64 x0, .int .i64 x1, .int .i64 x2, .int .i64 x3]] w fun e w' => e = .returned (.bool true) ∧ Below w.heap.size w w' := by
  have Z := Lib.hid hZ.len
  have HZ := Lib.hid hZ
  have S := Lib.hid hZ.is
  clear hZ
  have Z2 := Lib.hid hZ2.len
  have M2 := hZ2.max
  have S2 := Lib.hid hZ2.ces
  clear hZ2
  by_cases hn0 : (1048576 : Int) < ((n + outSum gs : Nat) : Int)
  · have C0 := Lib.hid (szGr_over A n c gs wk cp HZ.out (left := (1048576 : Int)) (by omega) (by omega) hn0)
    clear hn0
    go_enter Try.func5, Try.ntmps5
    go_wp2_with fail
    generalize hW : ((w.alloc _).alloc _) = W
    have BB := Lib.hid (show Below w.heap.size w W by rw [← hW]; exact (((Below.refl _ _).alloc (by first | (simp; done) | (simp; omega) | omega) _).alloc (by first | (simp; done) | (simp; omega) | omega) _))
    clear hW
    refine (C0.out _ (S.out.below BB.out)).mono ?_
    rintro e v0 ⟨rfl, hb0⟩
    have BB0 := Lib.hid (below_chain BB.out hb0)
    clear hb0
    go_wp2
    go_ret
    exact ⟨rfl, BB0.out⟩
  obtain ⟨lf0, hl0⟩ : ∃ q : Nat, (1048576 : Int) - ((n + outSum gs : Nat) : Int) = (q : Int) := ⟨((1048576 : Int) - ((n + outSum gs : Nat) : Int)).toNat, by omega⟩
  have C0 := Lib.hid (show ∀ W, Nds W A gs → Calls Try.prog 32 #[.agg #[.slice A n c, .int .i64 wk, .int .i64 cp], .int .i64 (1048576 : Int)] W fun e w' => e = .returned (.int .i64 (lf0 : Int)) ∧ Below W.heap.size W w' by rw [← hl0]; exact szGr_in A n c gs wk cp HZ.out (left := (1048576 : Int)) (by omega) (by omega) hn0)
  have os0 : n + outSum gs ≤ 1048576 := by omega
  have le0 : n ≤ 1048576 := by omega
  have ot0 : outSum gs ≤ 1048576 := by omega
  have ou0 : ∀ x ∈ gs, x.2.2.2.length ≤ 1048576 := fun x hx => Nat.le_trans (outSum_mem hx) ot0
  have hd0 : decide ((lf0 : Int) < 0) = false := by simp
  have lb0 : (lf0 : Int) ≤ 1048576 := by omega
  clear hn0 hl0
  by_cases hn1 : (lf0 : Int) < (n2 : Int)
  · have C1 := Lib.hid (fun W => szCe_over A2 n2 c2 (lf0 : Int) (by omega) (by omega) M2 hn1 W)
    clear hn1
    go_enter Try.func5, Try.ntmps5
    go_wp2_with fail
    generalize hW : ((w.alloc _).alloc _) = W
    have BB := Lib.hid (show Below w.heap.size w W by rw [← hW]; exact (((Below.refl _ _).alloc (by first | (simp; done) | (simp; omega) | omega) _).alloc (by first | (simp; done) | (simp; omega) | omega) _))
    clear hW
    refine (C0.out _ (S.out.below BB.out)).mono ?_
    rintro e v0 ⟨rfl, hb0⟩
    have BB0 := Lib.hid (below_chain BB.out hb0)
    clear hb0
    go_wp2_with fail
    refine (C1.out _).mono ?_
    rintro e v1 ⟨rfl, rfl⟩
    go_wp2
    go_ret
    exact ⟨rfl, BB0.out⟩
  obtain ⟨lf1, hl1⟩ : ∃ q : Nat, (lf0 : Int) - (n2 : Int) = (q : Int) := ⟨((lf0 : Int) - (n2 : Int)).toNat, by omega⟩
  have C1 := Lib.hid (show ∀ W, Calls Try.prog 33 #[.slice A2 n2 c2, .int .i64 (lf0 : Int)] W fun e w' => e = .returned (.int .i64 (lf1 : Int)) ∧ W = w' by rw [← hl1]; exact fun W => szCe_in A2 n2 c2 (lf0 : Int) (by omega) (by omega) M2 hn1 W)
  have le2 : n2 ≤ 1048576 := by omega
  have hd1 : decide ((lf1 : Int) < 0) = false := by simp
  have lb1 : (lf1 : Int) ≤ 1048576 := by omega
  clear hn1 hl1
  obtain ⟨⟨us, vs⟩, hsg⟩ : ∃ p, impG gs wk cp cs (x0, x1, x2, x3) = p := ⟨_, rfl⟩
  obtain ⟨m3, hm3⟩ : ∃ m, us.length = m := ⟨_, rfl⟩
  obtain ⟨m4, hm4⟩ : ∃ m, vs.length = m := ⟨_, rfl⟩
  have l3 : m3 ≤ n2 + 1 := by have h := impG_best gs wk cp cs (x0, x1, x2, x3); rw [hsg, Z2.out] at h; rw [← hm3]; exact h
  have l4 : m4 ≤ 2 := by have h := impG_more gs wk cp cs (x0, x1, x2, x3); rw [hsg] at h; rw [← hm4]; exact h
  have HSG := Lib.hid hsg
  have HM3 := Lib.hid hm3
  have HM4 := Lib.hid hm4
  clear hsg hm3 hm4
  go_enter Try.func5, Try.ntmps5
  go_wp2_with fail
  generalize hW : ((w.alloc _).alloc _) = W
  have hb : Below w.heap.size w W := by rw [← hW]; exact (((Below.refl _ _).alloc (by first | (simp; done) | (simp; omega) | omega) _).alloc (by first | (simp; done) | (simp; omega) | omega) _)
  have azW : W.heap.size = w.heap.size + 2 := by rw [← hW]; simp
  have NL0 := Lib.hid (show Blk W (w.heap.size) 57 #[.slice A n c, .int .i64 wk, .int .i64 cp] by rw [← hW]; exact ((Below.heap_alloc _ _ _ (by first | (simp; done) | (simp; omega))).trans (Blk.new _ _ _)))
  have NC0 := Lib.hid (show Blk W (w.heap.size + 1) 59 #[.int .i64 x0, .int .i64 x1, .int .i64 x2, .int .i64 x3] by rw [← hW]; exact ((show w.heap.size + 1 = ((w.alloc _)).heap.size by simp) ▸ Blk.new _ _ _))
  clear hW
  have AZW := Lib.hid azW
  clear azW
  have sz1 := hb.size
  have B1 := Lib.hid (hb)
  clear hb
  have L0_1 := NL0
  clear NL0
  have ltL0 : w.heap.size < W.heap.size := L0_1.out.lt
  have C0_1 := NC0
  clear NC0
  have ltC0 : w.heap.size + 1 < W.heap.size := C0_1.out.lt
  refine (C0.out _ (S.out.below B1.out)).mono ?_
  rintro e v0 ⟨rfl, hb⟩
  have sz2 := hb.size
  have B2 := Lib.hid (below_chain B1.out hb)
  have L0_2 := Lib.hid (L0_1.out.below hb)
  have C0_2 := Lib.hid (C0_1.out.below hb)
  clear hb B1 L0_1 C0_1
  go_wp2_with fail
  refine (C1.out _).mono ?_
  rintro e v1 ⟨rfl, rfl⟩
  clear C0 C1
  go_upto_region 8 with fail
  have k0 : v0.cell? ⟨w.heap.size, 0, none⟩ = some (.slice A n c) := by rw [L0_2.out.cell]; rfl
  have k1 : v0.cell? ⟨w.heap.size, 1, none⟩ = some (.int .i64 wk) := by rw [L0_2.out.cell]; rfl
  have k2 : v0.cell? ⟨w.heap.size, 2, none⟩ = some (.int .i64 cp) := by rw [L0_2.out.cell]; rfl
  have k3 : v0.cell? ⟨w.heap.size + 1, 0, none⟩ = some (.int .i64 x0) := by rw [C0_2.out.cell]; rfl
  have k4 : v0.cell? ⟨w.heap.size + 1, 1, none⟩ = some (.int .i64 x1) := by rw [C0_2.out.cell]; rfl
  have k5 : v0.cell? ⟨w.heap.size + 1, 2, none⟩ = some (.int .i64 x2) := by rw [C0_2.out.cell]; rfl
  have k6 : v0.cell? ⟨w.heap.size + 1, 3, none⟩ = some (.int .i64 x3) := by rw [C0_2.out.cell]; rfl
  have kf0 := (S.out.below B2.out)
  have kf1 := (S2.out.below B2.out)
  have kb := Below.refl v0.heap.size v0
  go_cut [8, 9] (fun t u wx => ∃ A20 c20 A21 c21, t = .slice A20 m3 c20 ∧ u = .slice A21 m4 c21 ∧ Wce wx v0.heap.size wx.heap.size A20 m3 c20 us ∧ Wce wx v0.heap.size wx.heap.size A21 m4 c21 vs ∧ ApartC A20 A21 ∧ Below v0.heap.size v0 wx)
  case first =>
    go_region_held3 (fun w' => w'.cell? ⟨w.heap.size, 0, none⟩ = some (.slice A n c) ∧ w'.cell? ⟨w.heap.size, 1, none⟩ = some (.int .i64 wk) ∧ w'.cell? ⟨w.heap.size, 2, none⟩ = some (.int .i64 cp) ∧ w'.cell? ⟨w.heap.size + 1, 0, none⟩ = some (.int .i64 x0) ∧ w'.cell? ⟨w.heap.size + 1, 1, none⟩ = some (.int .i64 x1) ∧ w'.cell? ⟨w.heap.size + 1, 2, none⟩ = some (.int .i64 x2) ∧ w'.cell? ⟨w.heap.size + 1, 3, none⟩ = some (.int .i64 x3) ∧ Nds w' A gs ∧ Ces w' A2 cs ∧ Below v0.heap.size v0 w')
      (((try go_split_ands); refine ⟨?_, ?_, ?_, ?_, ?_, ?_, ?_, ?_, ?_, ?_⟩ <;> (repeat (first | with_reducible assumption | with_reducible refine drew_keep ?_ | with_reducible refine below_keep hbd ?_ | with_reducible refine nds_drew ?_ | with_reducible refine Nds.below ?_ hbd | with_reducible refine ces_drew ?_ | with_reducible refine Ces.below ?_ hbd | with_reducible refine rcs_drew ?_ | with_reducible refine Rcs.below ?_ hbd | with_reducible refine Below.drew ?_ | with_reducible refine below_chain ?_ hbd))))
      (first | (go_at_call 34; (try go_split_ands); (with_reducible refine (toGr_row n gs Z.out A c wk cp _ (by assumption) le0 ou0).mono ?_); rintro e w5 ⟨A5, c5, vs5, f5, rfl, s5, hbd⟩; (try replace s4 := Row.below s4 hbd)) | (go_at_call 35; (try go_split_ands); (with_reducible refine (toCeS_row n2 cs Z2.out A2 c2 _ (by assumption) le2).mono ?_); rintro e w4 ⟨A4, c4, rfl, s4, hbd⟩; (try replace s5 := GrRows.below s5 hbd)) | (go_at_call 36; (with_reducible refine (toCell_any x0 x1 x2 x3 _).mono ?_); rintro e w6 ⟨rfl, hbd⟩; (try replace s5 := GrRows.below s5 hbd); (try replace s4 := Row.below s4 hbd)) | (go_at_call 22; (try go_split_ands); (have hsz7 := Below.size (B := v0.heap.size) (w := v0) (by assumption)); (with_reducible refine (specImp_rows HSG.out HM3.out HM4.out Z.out ou0 le0 Z2.out s4.nil s4.cap le2 _ s5.nds s4.ce (A := A5) (c := c5) (A2 := A4) (c2 := c4)).mono ?_); rintro e w7 ⟨A8, c8, A9, c9, rfl, r8, r9, ap, hbd⟩))
    all_goals (
      go_wp2_with fail
      go_meet
      refine ⟨A8, c8, A9, c9, rfl, rfl, r8.bounds hsz7 (Nat.le_refl _), r9.bounds hsz7 (Nat.le_refl _), ap, ?_⟩
      (try go_split_ands)
      assumption)
  case rest =>
  obtain ⟨A20, c20, A21, c21, rfl, rfl, r20, r21, ap20, hb⟩ := hcut
  clear kb k0 k1 k2 k3 k4 k5 k6 kf0 kf1
  obtain ⟨w1, hwc⟩ : ∃ z, z = wc := ⟨_, rfl⟩
  subst hwc
  have sz3 := hb.size
  have B3 := Lib.hid (below_chain B2.out hb)
  have L0_3 := Lib.hid (L0_2.out.below hb)
  have C0_3 := Lib.hid (C0_2.out.below hb)
  clear hb B2 L0_2 C0_2
  have X20_3 := Lib.hid r20
  clear r20
  have X21_3 := Lib.hid r21
  clear r21
  have P20 := Lib.hid ap20
  clear ap20
  have xL00 : w1.cell? ⟨w.heap.size, 0, none⟩ = some (.slice A n c) := by rw [L0_3.out.cell]; rfl
  have xL01 : w1.cell? ⟨w.heap.size, 1, none⟩ = some (.int .i64 wk) := by rw [L0_3.out.cell]; rfl
  have xL02 : w1.cell? ⟨w.heap.size, 2, none⟩ = some (.int .i64 cp) := by rw [L0_3.out.cell]; rfl
  go_wp2_with fail
  clear xL00 xL01 xL02
  refine (toGr_row n gs Z.out A c wk cp _ (S.out.below B3.out) le0 ou0).mono ?_
  rintro e w3 ⟨A3, c3, vs3, f3, rfl, r3, hb⟩
  have sz4 := hb.size
  have B4 := Lib.hid (below_chain B3.out hb)
  have X20_4 := Lib.hid (X20_3.out.below hb)
  have X21_4 := Lib.hid (X21_3.out.below hb)
  have L0_4 := Lib.hid (L0_3.out.below hb)
  have C0_4 := Lib.hid (C0_3.out.below hb)
  clear hb B3 X20_3 X21_3 L0_3 C0_3
  have X3_4 := Lib.hid r3
  clear r3
  go_wp2_with fail
  generalize hW : (w3.alloc _) = V3
  have hb : Below w3.heap.size w3 V3 := by rw [← hW]; exact ((Below.refl _ _).alloc (by first | (simp; done) | (simp; omega) | omega) _)
  have azV3 : V3.heap.size = w3.heap.size + 1 := by rw [← hW]; simp
  have Nx0 := Lib.hid (show Blk V3 (w3.heap.size) 26 #[.slice A3 n c3, .int .i64 wk, .int .i64 cp] by rw [← hW]; exact (Blk.new _ _ _))
  clear hW
  have AZV3 := Lib.hid azV3
  clear azV3
  have sz5 := hb.size
  have B5 := Lib.hid (below_chain B4.out hb)
  have X20_5 := Lib.hid (X20_4.out.below hb)
  have X21_5 := Lib.hid (X21_4.out.below hb)
  have X3_5 := Lib.hid (X3_4.out.below hb)
  have L0_5 := Lib.hid (L0_4.out.below hb)
  have C0_5 := Lib.hid (C0_4.out.below hb)
  clear hb B4 X20_4 X21_4 X3_4 L0_4 C0_4
  have x0_5 := Nx0
  clear Nx0
  have ltx0 : w3.heap.size < V3.heap.size := x0_5.out.lt
  refine (toCeS_row n2 cs Z2.out A2 c2 _ (S2.out.below B5.out) le2).mono ?_
  rintro e w5 ⟨A30, c30, rfl, r30, hb⟩
  have sz6 := hb.size
  have B6 := Lib.hid (below_chain B5.out hb)
  have X20_6 := Lib.hid (X20_5.out.below hb)
  have X21_6 := Lib.hid (X21_5.out.below hb)
  have X3_6 := Lib.hid (X3_5.out.below hb)
  have L0_6 := Lib.hid (L0_5.out.below hb)
  have C0_6 := Lib.hid (C0_5.out.below hb)
  have x0_6 := Lib.hid (x0_5.out.below hb)
  clear hb B5 X20_5 X21_5 X3_5 L0_5 C0_5 x0_5
  have X30_6 := Lib.hid r30
  clear r30
  go_upto_region 11 with fail
  have k0 : w5.cell? ⟨w3.heap.size, 0, none⟩ = some (.slice A3 n c3) := by rw [x0_6.out.cell]; rfl
  have k1 : w5.cell? ⟨w3.heap.size, 1, none⟩ = some (.int .i64 wk) := by rw [x0_6.out.cell]; rfl
  have k2 : w5.cell? ⟨w3.heap.size, 2, none⟩ = some (.int .i64 cp) := by rw [x0_6.out.cell]; rfl
  have k3 : w5.cell? ⟨w.heap.size + 1, 0, none⟩ = some (.int .i64 x0) := by rw [C0_6.out.cell]; rfl
  have k4 : w5.cell? ⟨w.heap.size + 1, 1, none⟩ = some (.int .i64 x1) := by rw [C0_6.out.cell]; rfl
  have k5 : w5.cell? ⟨w.heap.size + 1, 2, none⟩ = some (.int .i64 x2) := by rw [C0_6.out.cell]; rfl
  have k6 : w5.cell? ⟨w.heap.size + 1, 3, none⟩ = some (.int .i64 x3) := by rw [C0_6.out.cell]; rfl
  have kf0 := X3_6.out
  have kf1 := X30_6.out
  have kb := Below.refl w5.heap.size w5
  go_cut [12, 13] (fun t u wx => ∃ A40 c40 A41 c41, t = .slice A40 m3 c40 ∧ u = .slice A41 m4 c41 ∧ Wce wx w5.heap.size wx.heap.size A40 m3 c40 us ∧ Wce wx w5.heap.size wx.heap.size A41 m4 c41 vs ∧ ApartC A40 A41 ∧ Below w5.heap.size w5 wx)
  case first =>
    go_region_held3 (fun w' => w'.cell? ⟨w3.heap.size, 0, none⟩ = some (.slice A3 n c3) ∧ w'.cell? ⟨w3.heap.size, 1, none⟩ = some (.int .i64 wk) ∧ w'.cell? ⟨w3.heap.size, 2, none⟩ = some (.int .i64 cp) ∧ w'.cell? ⟨w.heap.size + 1, 0, none⟩ = some (.int .i64 x0) ∧ w'.cell? ⟨w.heap.size + 1, 1, none⟩ = some (.int .i64 x1) ∧ w'.cell? ⟨w.heap.size + 1, 2, none⟩ = some (.int .i64 x2) ∧ w'.cell? ⟨w.heap.size + 1, 3, none⟩ = some (.int .i64 x3) ∧ Below w5.heap.size w5 w')
      (((try go_split_ands); refine ⟨?_, ?_, ?_, ?_, ?_, ?_, ?_, ?_⟩ <;> (repeat (first | with_reducible assumption | with_reducible refine drew_keep ?_ | with_reducible refine below_keep hbd ?_ | with_reducible refine nds_drew ?_ | with_reducible refine Nds.below ?_ hbd | with_reducible refine ces_drew ?_ | with_reducible refine Ces.below ?_ hbd | with_reducible refine rcs_drew ?_ | with_reducible refine Rcs.below ?_ hbd | with_reducible refine Below.drew ?_ | with_reducible refine below_chain ?_ hbd))))
      (first | (go_at_call 36; (with_reducible refine (toCell_any x0 x1 x2 x3 _).mono ?_); rintro e w6 ⟨rfl, hbd⟩) | (go_at_call 21; (try go_split_ands); (have hsz7 := Below.size (B := w5.heap.size) (w := w5) (by assumption)); (with_reducible refine (implImp_rows HSG.out HM3.out HM4.out Z.out ou0 le0 Z2.out (Row.nil kf1) (Row.cap kf1) le2 _ (GrRows.nds (GrRows.below kf0 (by assumption))) (Row.ce (Row.below kf1 (by assumption))) (A := A3) (c := c3) (A2 := A30) (c2 := c30)).mono ?_); rintro e w7 ⟨A8, c8, A9, c9, rfl, r8, r9, ap, hbd⟩))
    all_goals (
      go_wp2_with fail
      go_meet
      refine ⟨A8, c8, A9, c9, rfl, rfl, r8.bounds hsz7 (Nat.le_refl _), r9.bounds hsz7 (Nat.le_refl _), ap, ?_⟩
      (try go_split_ands)
      assumption)
  case rest =>
  obtain ⟨A40, c40, A41, c41, rfl, rfl, r40, r41, ap40, hb⟩ := hcut
  clear kb k0 k1 k2 k3 k4 k5 k6 kf0 kf1
  obtain ⟨w6, hwc⟩ : ∃ z, z = wc := ⟨_, rfl⟩
  subst hwc
  have sz7 := hb.size
  have B7 := Lib.hid (below_chain B6.out hb)
  have X20_7 := Lib.hid (X20_6.out.below hb)
  have X21_7 := Lib.hid (X21_6.out.below hb)
  have X3_7 := Lib.hid (X3_6.out.below hb)
  have X30_7 := Lib.hid (X30_6.out.below hb)
  have L0_7 := Lib.hid (L0_6.out.below hb)
  have C0_7 := Lib.hid (C0_6.out.below hb)
  have x0_7 := Lib.hid (x0_6.out.below hb)
  clear hb B6 X20_6 X21_6 X3_6 X30_6 L0_6 C0_6 x0_6
  have X40_7 := Lib.hid r40
  clear r40
  have X41_7 := Lib.hid r41
  clear r41
  have P40 := Lib.hid ap40
  clear ap40
  go_wp2_with fail
  refine (eqCeW_win X40_7.out X20_7.out (by omega)).mono ?_
  rintro e w7 ⟨rfl, hb⟩
  have sz8 := hb.size
  have B8 := Lib.hid (below_chain B7.out hb)
  have X20_8 := Lib.hid (X20_7.out.below hb)
  have X21_8 := Lib.hid (X21_7.out.below hb)
  have X3_8 := Lib.hid (X3_7.out.below hb)
  have X30_8 := Lib.hid (X30_7.out.below hb)
  have X40_8 := Lib.hid (X40_7.out.below hb)
  have X41_8 := Lib.hid (X41_7.out.below hb)
  have L0_8 := Lib.hid (L0_7.out.below hb)
  have C0_8 := Lib.hid (C0_7.out.below hb)
  have x0_8 := Lib.hid (x0_7.out.below hb)
  clear hb B7 X20_7 X21_7 X3_7 X30_7 X40_7 X41_7 L0_7 C0_7 x0_7
  go_wp2_with fail
  refine (eqCeW_win X41_8.out X21_8.out (by omega)).mono ?_
  rintro e w8 ⟨rfl, hb⟩
  have sz9 := hb.size
  have B9 := Lib.hid (below_chain B8.out hb)
  have X20_9 := Lib.hid (X20_8.out.below hb)
  have X21_9 := Lib.hid (X21_8.out.below hb)
  have X3_9 := Lib.hid (X3_8.out.below hb)
  have X30_9 := Lib.hid (X30_8.out.below hb)
  have X40_9 := Lib.hid (X40_8.out.below hb)
  have X41_9 := Lib.hid (X41_8.out.below hb)
  have L0_9 := Lib.hid (L0_8.out.below hb)
  have C0_9 := Lib.hid (C0_8.out.below hb)
  have x0_9 := Lib.hid (x0_8.out.below hb)
  clear hb B8 X20_8 X21_8 X3_8 X30_8 X40_8 X41_8 L0_8 C0_8 x0_8
  go_upto_region 14 with fail
  have k0 : w8.cell? ⟨w3.heap.size, 0, none⟩ = some (.slice A3 n c3) := by rw [x0_9.out.cell]; rfl
  have k1 : w8.cell? ⟨w3.heap.size, 1, none⟩ = some (.int .i64 wk) := by rw [x0_9.out.cell]; rfl
  have k2 : w8.cell? ⟨w3.heap.size, 2, none⟩ = some (.int .i64 cp) := by rw [x0_9.out.cell]; rfl
  have k3 : w8.cell? ⟨w.heap.size, 0, none⟩ = some (.slice A n c) := by rw [L0_9.out.cell]; rfl
  have k4 : w8.cell? ⟨w.heap.size, 1, none⟩ = some (.int .i64 wk) := by rw [L0_9.out.cell]; rfl
  have k5 : w8.cell? ⟨w.heap.size, 2, none⟩ = some (.int .i64 cp) := by rw [L0_9.out.cell]; rfl
  have kb := Below.refl w8.heap.size w8
  have ks := (S.out.below B9.out)
  have kx := X3_9.out
  go_cut [65] (fun t wx => t = .bool false ∧ Below w8.heap.size w8 wx)
  case first =>
    go_region_held3 (fun w' => w'.cell? ⟨w3.heap.size, 0, none⟩ = some (.slice A3 n c3) ∧ w'.cell? ⟨w3.heap.size, 1, none⟩ = some (.int .i64 wk) ∧ w'.cell? ⟨w3.heap.size, 2, none⟩ = some (.int .i64 cp) ∧ w'.cell? ⟨w.heap.size, 0, none⟩ = some (.slice A n c) ∧ w'.cell? ⟨w.heap.size, 1, none⟩ = some (.int .i64 wk) ∧ w'.cell? ⟨w.heap.size, 2, none⟩ = some (.int .i64 cp) ∧ Nds w' A gs ∧ Below w8.heap.size w8 w')
      (((try go_split_ands); refine ⟨?_, ?_, ?_, ?_, ?_, ?_, ?_, ?_⟩ <;> (repeat (first | with_reducible assumption | with_reducible refine drew_keep ?_ | with_reducible refine below_keep hbd ?_ | with_reducible refine nds_drew ?_ | with_reducible refine Nds.below ?_ hbd | with_reducible refine Below.drew ?_ | with_reducible refine below_chain ?_ hbd))))
      (first | (go_at_call 34; (try go_split_ands); (with_reducible refine (toGr_row n gs Z.out A c wk cp _ (by assumption) le0 ou0).mono ?_); rintro e w5 ⟨A5, c5, vs5, f5, rfl, s5, hbd⟩) | (go_at_call 38; (try go_split_ands); (with_reducible refine (eqGr_row wk cp (GrRows.below kx (by assumption)) s5 le0 ou0).mono ?_); rintro e w6 ⟨rfl, hbd⟩))
    all_goals (
      go_wp2_with fail
      go_meet
      refine ⟨rfl, ?_⟩
      (try go_split_ands)
      assumption)
  case rest =>
  obtain ⟨rfl, hb⟩ := hcut
  clear kb ks kx k0 k1 k2 k3 k4 k5
  obtain ⟨u3, hwc⟩ : ∃ z, z = wc := ⟨_, rfl⟩
  subst hwc
  have sz10 := hb.size
  have B10 := Lib.hid (below_chain B9.out hb)
  have X20_10 := Lib.hid (X20_9.out.below hb)
  have X21_10 := Lib.hid (X21_9.out.below hb)
  have X3_10 := Lib.hid (X3_9.out.below hb)
  have X30_10 := Lib.hid (X30_9.out.below hb)
  have X40_10 := Lib.hid (X40_9.out.below hb)
  have X41_10 := Lib.hid (X41_9.out.below hb)
  have L0_10 := Lib.hid (L0_9.out.below hb)
  have C0_10 := Lib.hid (C0_9.out.below hb)
  have x0_10 := Lib.hid (x0_9.out.below hb)
  clear hb B9 X20_9 X21_9 X3_9 X30_9 X40_9 X41_9 L0_9 C0_9 x0_9
  go_wp2_with fail
  refine (toCeS_row n2 cs Z2.out A2 c2 _ (S2.out.below B10.out) le2).mono ?_
  rintro e w10 ⟨A50, c50, rfl, r50, hb⟩
  have sz11 := hb.size
  have B11 := Lib.hid (below_chain B10.out hb)
  have X20_11 := Lib.hid (X20_10.out.below hb)
  have X21_11 := Lib.hid (X21_10.out.below hb)
  have X3_11 := Lib.hid (X3_10.out.below hb)
  have X30_11 := Lib.hid (X30_10.out.below hb)
  have X40_11 := Lib.hid (X40_10.out.below hb)
  have X41_11 := Lib.hid (X41_10.out.below hb)
  have L0_11 := Lib.hid (L0_10.out.below hb)
  have C0_11 := Lib.hid (C0_10.out.below hb)
  have x0_11 := Lib.hid (x0_10.out.below hb)
  clear hb B10 X20_10 X21_10 X3_10 X30_10 X40_10 X41_10 L0_10 C0_10 x0_10
  have X50_11 := Lib.hid r50
  clear r50
  go_wp2_with fail
  refine (eqCeS_row X30_11.out X50_11.out (by omega)).mono ?_
  rintro e w11 ⟨rfl, hb⟩
  have sz12 := hb.size
  have B12 := Lib.hid (below_chain B11.out hb)
  have X20_12 := Lib.hid (X20_11.out.below hb)
  have X21_12 := Lib.hid (X21_11.out.below hb)
  have X3_12 := Lib.hid (X3_11.out.below hb)
  have X30_12 := Lib.hid (X30_11.out.below hb)
  have X40_12 := Lib.hid (X40_11.out.below hb)
  have X41_12 := Lib.hid (X41_11.out.below hb)
  have X50_12 := Lib.hid (X50_11.out.below hb)
  have L0_12 := Lib.hid (L0_11.out.below hb)
  have C0_12 := Lib.hid (C0_11.out.below hb)
  have x0_12 := Lib.hid (x0_11.out.below hb)
  clear hb B11 X20_11 X21_11 X3_11 X30_11 X40_11 X41_11 X50_11 L0_11 C0_11 x0_11
  clear X50_12
  have xx00 : w11.cell? ⟨w3.heap.size, 0, none⟩ = some (.slice A3 n c3) := by rw [x0_12.out.cell]; rfl
  have xx01 : w11.cell? ⟨w3.heap.size, 1, none⟩ = some (.int .i64 wk) := by rw [x0_12.out.cell]; rfl
  have xx02 : w11.cell? ⟨w3.heap.size, 2, none⟩ = some (.int .i64 cp) := by rw [x0_12.out.cell]; rfl
  go_wp2_with fail
  clear xx00 xx01 xx02
  refine (markGr_any X3_12.out wk cp 1 (by omega)).mono ?_
  rintro e w12 ⟨rfl, gw0⟩
  have gw : Turned _ _ w11 w12 := gw0
  clear gw0
  have sz13 := gw.size
  have B13 := Lib.hid (below_turned B12.out gw (by omega))
  have X20_13 := Lib.hid (X20_12.out.turned gw (by omega))
  have X21_13 := Lib.hid (X21_12.out.turned gw (by omega))
  have X30_13 := Lib.hid (X30_12.out.turned gw (by omega))
  have X40_13 := Lib.hid (X40_12.out.turned gw (by omega))
  have X41_13 := Lib.hid (X41_12.out.turned gw (by omega))
  have L0_13 := Lib.hid (L0_12.out.turned gw (by omega))
  have C0_13 := Lib.hid (C0_12.out.turned gw (by omega))
  have x0_13 := Lib.hid (x0_12.out.turned gw (by omega))
  clear gw B12 X20_12 X21_12 X3_12 X30_12 X40_12 X41_12 L0_12 C0_12 x0_12
  go_wp2_with fail
  refine (markCeS_row (1 + 3 * n + outSum gs) X30_13.out (by omega) (by omega)).mono ?_
  rintro e w13 ⟨rfl, om, gw⟩
  have gwT := Wrote.turned gw
  clear gw
  have sz14 := gwT.size
  have B14 := Lib.hid (below_turned B13.out gwT (by omega))
  have X20_14 := Lib.hid (X20_13.out.turned gwT (by omega))
  have X21_14 := Lib.hid (X21_13.out.turned gwT (by omega))
  have X30_14 := Lib.hid om
  have X40_14 := Lib.hid (X40_13.out.turned gwT (by omega))
  have X41_14 := Lib.hid (X41_13.out.turned gwT (by omega))
  have L0_14 := Lib.hid (L0_13.out.turned gwT (by omega))
  have C0_14 := Lib.hid (C0_13.out.turned gwT (by omega))
  have x0_14 := Lib.hid (x0_13.out.turned gwT (by omega))
  clear om gwT B13 X20_13 X21_13 X30_13 X40_13 X41_13 L0_13 C0_13 x0_13
  go_wp2_with fail
  refine (eqCeW_win X40_14.out X20_14.out (by omega)).mono ?_
  rintro e w14 ⟨rfl, hb⟩
  have sz15 := hb.size
  have B15 := Lib.hid (below_chain B14.out hb)
  have X20_15 := Lib.hid (X20_14.out.below hb)
  have X21_15 := Lib.hid (X21_14.out.below hb)
  have X30_15 := Lib.hid (X30_14.out.below hb)
  have X40_15 := Lib.hid (X40_14.out.below hb)
  have X41_15 := Lib.hid (X41_14.out.below hb)
  have L0_15 := Lib.hid (L0_14.out.below hb)
  have C0_15 := Lib.hid (C0_14.out.below hb)
  have x0_15 := Lib.hid (x0_14.out.below hb)
  clear hb B14 X20_14 X21_14 X30_14 X40_14 X41_14 L0_14 C0_14 x0_14
  go_wp2_with fail
  refine (eqCeW_win X41_15.out X21_15.out (by omega)).mono ?_
  rintro e w15 ⟨rfl, hb⟩
  have sz16 := hb.size
  have B16 := Lib.hid (below_chain B15.out hb)
  have X20_16 := Lib.hid (X20_15.out.below hb)
  have X21_16 := Lib.hid (X21_15.out.below hb)
  have X30_16 := Lib.hid (X30_15.out.below hb)
  have X40_16 := Lib.hid (X40_15.out.below hb)
  have X41_16 := Lib.hid (X41_15.out.below hb)
  have L0_16 := Lib.hid (L0_15.out.below hb)
  have C0_16 := Lib.hid (C0_15.out.below hb)
  have x0_16 := Lib.hid (x0_15.out.below hb)
  clear hb B15 X20_15 X21_15 X30_15 X40_15 X41_15 L0_15 C0_15 x0_15
  go_wp2_with fail
  refine (markCe_apart 1 X40_16.out X41_16.out P40.out (by omega) (by omega)).mono ?_
  rintro e w16 ⟨rfl, om, tw, gw⟩
  clear X41_16
  have gwT := Wrote.turned gw
  clear gw
  have sz17 := gwT.size
  have B17 := Lib.hid (below_turned B16.out gwT (by omega))
  have X20_17 := Lib.hid (X20_16.out.turned gwT (by omega))
  have X21_17 := Lib.hid (X21_16.out.turned gwT (by omega))
  have X30_17 := Lib.hid (X30_16.out.turned gwT (by omega))
  have X40_17 := Lib.hid om
  have L0_17 := Lib.hid (L0_16.out.turned gwT (by omega))
  have C0_17 := Lib.hid (C0_16.out.turned gwT (by omega))
  have x0_17 := Lib.hid (x0_16.out.turned gwT (by omega))
  clear om gwT B16 X20_16 X21_16 X30_16 X40_16 L0_16 C0_16 x0_16
  have X41_17 := Lib.hid tw
  clear tw
  go_wp2_with fail
  refine (markCe_apart (1 + 4 * m3) X41_17.out X40_17.out P40.out.symm (by omega) (by omega)).mono ?_
  rintro e w17 ⟨rfl, om, tw, gw⟩
  clear X40_17
  have gwT := Wrote.turned gw
  clear gw
  have sz18 := gwT.size
  have B18 := Lib.hid (below_turned B17.out gwT (by omega))
  have X20_18 := Lib.hid (X20_17.out.turned gwT (by omega))
  have X21_18 := Lib.hid (X21_17.out.turned gwT (by omega))
  have X30_18 := Lib.hid (X30_17.out.turned gwT (by omega))
  have X41_18 := Lib.hid om
  have L0_18 := Lib.hid (L0_17.out.turned gwT (by omega))
  have C0_18 := Lib.hid (C0_17.out.turned gwT (by omega))
  have x0_18 := Lib.hid (x0_17.out.turned gwT (by omega))
  clear om gwT B17 X20_17 X21_17 X30_17 X41_17 L0_17 C0_17 x0_17
  have X40_18 := Lib.hid tw
  clear tw
  go_wp2_with fail
  refine (heldCeW_win 1 X40_18.out (by omega) (by omega)).mono ?_
  rintro e w18 ⟨rfl, he⟩
  have hb : Below w17.heap.size w17 w18 := he ▸ Below.refl _ _
  clear he
  have sz19 := hb.size
  have B19 := Lib.hid (below_chain B18.out hb)
  have X20_19 := Lib.hid (X20_18.out.below hb)
  have X21_19 := Lib.hid (X21_18.out.below hb)
  have X30_19 := Lib.hid (X30_18.out.below hb)
  have X41_19 := Lib.hid (X41_18.out.below hb)
  have X40_19 := Lib.hid (X40_18.out.below hb)
  have L0_19 := Lib.hid (L0_18.out.below hb)
  have C0_19 := Lib.hid (C0_18.out.below hb)
  have x0_19 := Lib.hid (x0_18.out.below hb)
  clear hb B18 X20_18 X21_18 X30_18 X41_18 X40_18 L0_18 C0_18 x0_18
  go_wp2_with fail
  refine (heldCeW_win (1 + 4 * m3) X41_19.out (by omega) (by omega)).mono ?_
  rintro e w19 ⟨rfl, he⟩
  have hb : Below w18.heap.size w18 w19 := he ▸ Below.refl _ _
  clear he
  have sz20 := hb.size
  have B20 := Lib.hid (below_chain B19.out hb)
  have X20_20 := Lib.hid (X20_19.out.below hb)
  have X21_20 := Lib.hid (X21_19.out.below hb)
  have X30_20 := Lib.hid (X30_19.out.below hb)
  have X41_20 := Lib.hid (X41_19.out.below hb)
  have X40_20 := Lib.hid (X40_19.out.below hb)
  have L0_20 := Lib.hid (L0_19.out.below hb)
  have C0_20 := Lib.hid (C0_19.out.below hb)
  have x0_20 := Lib.hid (x0_19.out.below hb)
  clear hb B19 X20_19 X21_19 X30_19 X41_19 X40_19 L0_19 C0_19 x0_19
  go_upto_region 35 with fail
  have k0 : w19.cell? ⟨w.heap.size, 0, none⟩ = some (.slice A n c) := by rw [L0_20.out.cell]; rfl
  have k1 : w19.cell? ⟨w.heap.size, 1, none⟩ = some (.int .i64 wk) := by rw [L0_20.out.cell]; rfl
  have k2 : w19.cell? ⟨w.heap.size, 2, none⟩ = some (.int .i64 cp) := by rw [L0_20.out.cell]; rfl
  have k3 : w19.cell? ⟨w.heap.size + 1, 0, none⟩ = some (.int .i64 x0) := by rw [C0_20.out.cell]; rfl
  have k4 : w19.cell? ⟨w.heap.size + 1, 1, none⟩ = some (.int .i64 x1) := by rw [C0_20.out.cell]; rfl
  have k5 : w19.cell? ⟨w.heap.size + 1, 2, none⟩ = some (.int .i64 x2) := by rw [C0_20.out.cell]; rfl
  have k6 : w19.cell? ⟨w.heap.size + 1, 3, none⟩ = some (.int .i64 x3) := by rw [C0_20.out.cell]; rfl
  have kf0 := (S.out.below B20.out)
  have kf1 := (S2.out.below B20.out)
  have kb := Below.refl w19.heap.size w19
  go_cut [17, 18] (fun t u wx => ∃ A60 c60 A61 c61, t = .slice A60 m3 c60 ∧ u = .slice A61 m4 c61 ∧ Wce wx w19.heap.size wx.heap.size A60 m3 c60 us ∧ Wce wx w19.heap.size wx.heap.size A61 m4 c61 vs ∧ ApartC A60 A61 ∧ Below w19.heap.size w19 wx)
  case first =>
    go_region_held3 (fun w' => w'.cell? ⟨w.heap.size, 0, none⟩ = some (.slice A n c) ∧ w'.cell? ⟨w.heap.size, 1, none⟩ = some (.int .i64 wk) ∧ w'.cell? ⟨w.heap.size, 2, none⟩ = some (.int .i64 cp) ∧ w'.cell? ⟨w.heap.size + 1, 0, none⟩ = some (.int .i64 x0) ∧ w'.cell? ⟨w.heap.size + 1, 1, none⟩ = some (.int .i64 x1) ∧ w'.cell? ⟨w.heap.size + 1, 2, none⟩ = some (.int .i64 x2) ∧ w'.cell? ⟨w.heap.size + 1, 3, none⟩ = some (.int .i64 x3) ∧ Nds w' A gs ∧ Ces w' A2 cs ∧ Below w19.heap.size w19 w')
      (((try go_split_ands); refine ⟨?_, ?_, ?_, ?_, ?_, ?_, ?_, ?_, ?_, ?_⟩ <;> (repeat (first | with_reducible assumption | with_reducible refine drew_keep ?_ | with_reducible refine below_keep hbd ?_ | with_reducible refine nds_drew ?_ | with_reducible refine Nds.below ?_ hbd | with_reducible refine ces_drew ?_ | with_reducible refine Ces.below ?_ hbd | with_reducible refine rcs_drew ?_ | with_reducible refine Rcs.below ?_ hbd | with_reducible refine Below.drew ?_ | with_reducible refine below_chain ?_ hbd))))
      (first | (go_at_call 34; (try go_split_ands); (with_reducible refine (toGr_row n gs Z.out A c wk cp _ (by assumption) le0 ou0).mono ?_); rintro e w5 ⟨A5, c5, vs5, f5, rfl, s5, hbd⟩; (try replace s4 := Row.below s4 hbd)) | (go_at_call 35; (try go_split_ands); (with_reducible refine (toCeS_row n2 cs Z2.out A2 c2 _ (by assumption) le2).mono ?_); rintro e w4 ⟨A4, c4, rfl, s4, hbd⟩; (try replace s5 := GrRows.below s5 hbd)) | (go_at_call 36; (with_reducible refine (toCell_any x0 x1 x2 x3 _).mono ?_); rintro e w6 ⟨rfl, hbd⟩; (try replace s5 := GrRows.below s5 hbd); (try replace s4 := Row.below s4 hbd)) | (go_at_call 21; (try go_split_ands); (have hsz7 := Below.size (B := w19.heap.size) (w := w19) (by assumption)); (with_reducible refine (implImp_rows HSG.out HM3.out HM4.out Z.out ou0 le0 Z2.out s4.nil s4.cap le2 _ s5.nds s4.ce (A := A5) (c := c5) (A2 := A4) (c2 := c4)).mono ?_); rintro e w7 ⟨A8, c8, A9, c9, rfl, r8, r9, ap, hbd⟩))
    all_goals (
      go_wp2_with fail
      go_meet
      refine ⟨A8, c8, A9, c9, rfl, rfl, r8.bounds hsz7 (Nat.le_refl _), r9.bounds hsz7 (Nat.le_refl _), ap, ?_⟩
      (try go_split_ands)
      assumption)
  case rest =>
  obtain ⟨A60, c60, A61, c61, rfl, rfl, r60, r61, ap60, hb⟩ := hcut
  clear kb k0 k1 k2 k3 k4 k5 k6 kf0 kf1
  obtain ⟨w20, hwc⟩ : ∃ z, z = wc := ⟨_, rfl⟩
  subst hwc
  have sz21 := hb.size
  have B21 := Lib.hid (below_chain B20.out hb)
  have X20_21 := Lib.hid (X20_20.out.below hb)
  have X21_21 := Lib.hid (X21_20.out.below hb)
  have X30_21 := Lib.hid (X30_20.out.below hb)
  have X41_21 := Lib.hid (X41_20.out.below hb)
  have X40_21 := Lib.hid (X40_20.out.below hb)
  have L0_21 := Lib.hid (L0_20.out.below hb)
  have C0_21 := Lib.hid (C0_20.out.below hb)
  have x0_21 := Lib.hid (x0_20.out.below hb)
  clear hb B20 X20_20 X21_20 X30_20 X41_20 X40_20 L0_20 C0_20 x0_20
  have X60_21 := Lib.hid r60
  clear r60
  have X61_21 := Lib.hid r61
  clear r61
  have P60 := Lib.hid ap60
  clear ap60
  go_wp2_with fail
  refine (eqCeW_win X60_21.out X20_21.out (by omega)).mono ?_
  rintro e w21 ⟨rfl, hb⟩
  have sz22 := hb.size
  have B22 := Lib.hid (below_chain B21.out hb)
  have X20_22 := Lib.hid (X20_21.out.below hb)
  have X21_22 := Lib.hid (X21_21.out.below hb)
  have X30_22 := Lib.hid (X30_21.out.below hb)
  have X41_22 := Lib.hid (X41_21.out.below hb)
  have X40_22 := Lib.hid (X40_21.out.below hb)
  have X60_22 := Lib.hid (X60_21.out.below hb)
  have X61_22 := Lib.hid (X61_21.out.below hb)
  have L0_22 := Lib.hid (L0_21.out.below hb)
  have C0_22 := Lib.hid (C0_21.out.below hb)
  have x0_22 := Lib.hid (x0_21.out.below hb)
  clear hb B21 X20_21 X21_21 X30_21 X41_21 X40_21 X60_21 X61_21 L0_21 C0_21 x0_21
  go_wp2_with fail
  refine (eqCeW_win X61_22.out X21_22.out (by omega)).mono ?_
  rintro e w22 ⟨rfl, hb⟩
  have sz23 := hb.size
  have B23 := Lib.hid (below_chain B22.out hb)
  have X20_23 := Lib.hid (X20_22.out.below hb)
  have X21_23 := Lib.hid (X21_22.out.below hb)
  have X30_23 := Lib.hid (X30_22.out.below hb)
  have X41_23 := Lib.hid (X41_22.out.below hb)
  have X40_23 := Lib.hid (X40_22.out.below hb)
  have X60_23 := Lib.hid (X60_22.out.below hb)
  have X61_23 := Lib.hid (X61_22.out.below hb)
  have L0_23 := Lib.hid (L0_22.out.below hb)
  have C0_23 := Lib.hid (C0_22.out.below hb)
  have x0_23 := Lib.hid (x0_22.out.below hb)
  clear hb B22 X20_22 X21_22 X30_22 X41_22 X40_22 X60_22 X61_22 L0_22 C0_22 x0_22
  go_wp2_with fail
  refine (heldCeW_win 1 X40_23.out (by omega) (by omega)).mono ?_
  rintro e w23 ⟨rfl, he⟩
  have hb : Below w22.heap.size w22 w23 := he ▸ Below.refl _ _
  clear he
  have sz24 := hb.size
  have B24 := Lib.hid (below_chain B23.out hb)
  have X20_24 := Lib.hid (X20_23.out.below hb)
  have X21_24 := Lib.hid (X21_23.out.below hb)
  have X30_24 := Lib.hid (X30_23.out.below hb)
  have X41_24 := Lib.hid (X41_23.out.below hb)
  have X40_24 := Lib.hid (X40_23.out.below hb)
  have X60_24 := Lib.hid (X60_23.out.below hb)
  have X61_24 := Lib.hid (X61_23.out.below hb)
  have L0_24 := Lib.hid (L0_23.out.below hb)
  have C0_24 := Lib.hid (C0_23.out.below hb)
  have x0_24 := Lib.hid (x0_23.out.below hb)
  clear hb B23 X20_23 X21_23 X30_23 X41_23 X40_23 X60_23 X61_23 L0_23 C0_23 x0_23
  go_wp2_with fail
  refine (heldCeW_win (1 + 4 * m3) X41_24.out (by omega) (by omega)).mono ?_
  rintro e w24 ⟨rfl, he⟩
  have hb : Below w23.heap.size w23 w24 := he ▸ Below.refl _ _
  clear he
  have sz25 := hb.size
  have B25 := Lib.hid (below_chain B24.out hb)
  have X20_25 := Lib.hid (X20_24.out.below hb)
  have X21_25 := Lib.hid (X21_24.out.below hb)
  have X30_25 := Lib.hid (X30_24.out.below hb)
  have X41_25 := Lib.hid (X41_24.out.below hb)
  have X40_25 := Lib.hid (X40_24.out.below hb)
  have X60_25 := Lib.hid (X60_24.out.below hb)
  have X61_25 := Lib.hid (X61_24.out.below hb)
  have L0_25 := Lib.hid (L0_24.out.below hb)
  have C0_25 := Lib.hid (C0_24.out.below hb)
  have x0_25 := Lib.hid (x0_24.out.below hb)
  clear hb B24 X20_24 X21_24 X30_24 X41_24 X40_24 X60_24 X61_24 L0_24 C0_24 x0_24
  go_wp2
  go_ret
  exact ⟨rfl, B25.out⟩
end Go.Proofs.Ytbbagpnjjjohpaa.fnExactImprove

