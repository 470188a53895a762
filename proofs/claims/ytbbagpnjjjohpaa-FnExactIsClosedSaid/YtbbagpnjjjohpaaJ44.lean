/-
  The walk of FnExactIsClosed.
-/
import Derived.Test.YtbbagpnjjjohpaaJ30
import Derived.Test.YtbbagpnjjjohpaaJ43
import Derived.Test.YtbbagpnjjjohpaaJ26
import Derived.Test.YtbbagpnjjjohpaaJ10
import Derived.Test.YtbbagpnjjjohpaaJ9
import Derived.Deep.RegionHeld3
import Derived.Deep.DeepCutAuto

namespace Go.Proofs.Ytbbagpnjjjohpaa.fnExactIsClosed
open Go.RowKit Go.Proofs.Ytbbagpnjjjohpaa.hexes

set_option maxRecDepth 1000000 in
set_option maxHeartbeats 16000000 in
theorem walk (A : Option Addr) (n c : Nat) (gs : List Nd) (wk cp : Int) (A2 : Option Addr) (n2 c2 : Nat) (cs : List Ce) (w : World) (hZ : IsNds w A n gs) (hZ2 : IsCes w A2 n2 cs) :
    Calls Try.prog 8 #[.agg #[.slice A n c, .int .i64 wk, .int .i64 cp], .slice A2 n2 c2] w fun e w' => e = .returned (.bool true) ∧ Below w.heap.size w w' := by
  have Z := Lib.hid hZ.len
  have HZ := Lib.hid hZ
  have S := Lib.hid hZ.is
  clear hZ
  have Z2 := Lib.hid hZ2.len
  have M2 := hZ2.max
  have S2 := Lib.hid hZ2.ces
  clear hZ2
  by_cases hn0 : (1048576 : Int) < ((n + outSum gs : Nat) : Int)
  · have C0 := Lib.hid (szGr_over A n c gs wk cp HZ.out (left := (1048576 : Int)) (by omega) (by omega) hn0)
    clear hn0
    go_enter Try.func8, Try.ntmps8
    go_wp2_with fail
    generalize hW : (w.alloc _) = W
    have BB := Lib.hid (show Below w.heap.size w W by rw [← hW]; exact ((Below.refl _ _).alloc (by first | (simp; done) | (simp; omega) | omega) _))
    clear hW
    refine (C0.out _ (S.out.below BB.out)).mono ?_
    rintro e v0 ⟨rfl, hb0⟩
    have BB0 := Lib.hid (below_chain BB.out hb0)
    clear hb0
    go_wp2
    go_ret
    exact ⟨rfl, BB0.out⟩
  obtain ⟨lf0, hl0⟩ : ∃ q : Nat, (1048576 : Int) - ((n + outSum gs : Nat) : Int) = (q : Int) := ⟨((1048576 : Int) - ((n + outSum gs : Nat) : Int)).toNat, by omega⟩
  have C0 := Lib.hid (show ∀ W, Nds W A gs → Calls Try.prog 32 #[.agg #[.slice A n c, .int .i64 wk, .int .i64 cp], .int .i64 (1048576 : Int)] W fun e w' => e = .returned (.int .i64 (lf0 : Int)) ∧ Below W.heap.size W w' by rw [← hl0]; exact szGr_in A n c gs wk cp HZ.out (left := (1048576 : Int)) (by omega) (by omega) hn0)
  have os0 : n + outSum gs ≤ 1048576 := by omega
  have le0 : n ≤ 1048576 := by omega
  have ot0 : outSum gs ≤ 1048576 := by omega
  have ou0 : ∀ x ∈ gs, x.2.2.2.length ≤ 1048576 := fun x hx => Nat.le_trans (outSum_mem hx) ot0
  have hd0 : decide ((lf0 : Int) < 0) = false := by simp
  have lb0 : (lf0 : Int) ≤ 1048576 := by omega
  clear hn0 hl0
  by_cases hn1 : (lf0 : Int) < (n2 : Int)
  · have C1 := Lib.hid (fun W => szCe_over A2 n2 c2 (lf0 : Int) (by omega) (by omega) M2 hn1 W)
    clear hn1
    go_enter Try.func8, Try.ntmps8
    go_wp2_with fail
    generalize hW : (w.alloc _) = W
    have BB := Lib.hid (show Below w.heap.size w W by rw [← hW]; exact ((Below.refl _ _).alloc (by first | (simp; done) | (simp; omega) | omega) _))
    clear hW
    refine (C0.out _ (S.out.below BB.out)).mono ?_
    rintro e v0 ⟨rfl, hb0⟩
    have BB0 := Lib.hid (below_chain BB.out hb0)
    clear hb0
    go_wp2_with fail
    refine (C1.out _).mono ?_
    rintro e v1 ⟨rfl, rfl⟩
    go_wp2
    go_ret
    exact ⟨rfl, BB0.out⟩
  obtain ⟨lf1, hl1⟩ : ∃ q : Nat, (lf0 : Int) - (n2 : Int) = (q : Int) := ⟨((lf0 : Int) - (n2 : Int)).toNat, by omega⟩
  have C1 := Lib.hid (show ∀ W, Calls Try.prog 33 #[.slice A2 n2 c2, .int .i64 (lf0 : Int)] W fun e w' => e = .returned (.int .i64 (lf1 : Int)) ∧ W = w' by rw [← hl1]; exact fun W => szCe_in A2 n2 c2 (lf0 : Int) (by omega) (by omega) M2 hn1 W)
  have le2 : n2 ≤ 1048576 := by omega
  have hd1 : decide ((lf1 : Int) < 0) = false := by simp
  have lb1 : (lf1 : Int) ≤ 1048576 := by omega
  clear hn1 hl1
  obtain ⟨r, hq⟩ : ∃ q, closedG gs wk cp cs = q := ⟨_, rfl⟩
  have HQ := Lib.hid hq
  clear hq
  have hrr : (r != r) = false := by simp
  go_enter Try.func8, Try.ntmps8
  go_wp2_with fail
  generalize hW : (w.alloc _) = W
  have hb : Below w.heap.size w W := by rw [← hW]; exact ((Below.refl _ _).alloc (by first | (simp; done) | (simp; omega) | omega) _)
  have azW : W.heap.size = w.heap.size + 1 := by rw [← hW]; simp
  have NL0 := Lib.hid (show Blk W (w.heap.size) 57 #[.slice A n c, .int .i64 wk, .int .i64 cp] by rw [← hW]; exact (Blk.new _ _ _))
  clear hW
  have AZW := Lib.hid azW
  clear azW
  have sz1 := hb.size
  have B1 := Lib.hid (hb)
  clear hb
  have L0_1 := NL0
  clear NL0
  have ltL0 : w.heap.size < W.heap.size := L0_1.out.lt
  refine (C0.out _ (S.out.below B1.out)).mono ?_
  rintro e v0 ⟨rfl, hb⟩
  have sz2 := hb.size
  have B2 := Lib.hid (below_chain B1.out hb)
  have L0_2 := Lib.hid (L0_1.out.below hb)
  clear hb B1 L0_1
  go_wp2_with fail
  refine (C1.out _).mono ?_
  rintro e v1 ⟨rfl, rfl⟩
  clear C0 C1
  have xL00 : v0.cell? ⟨w.heap.size, 0, none⟩ = some (.slice A n c) := by rw [L0_2.out.cell]; rfl
  have xL01 : v0.cell? ⟨w.heap.size, 1, none⟩ = some (.int .i64 wk) := by rw [L0_2.out.cell]; rfl
  have xL02 : v0.cell? ⟨w.heap.size, 2, none⟩ = some (.int .i64 cp) := by rw [L0_2.out.cell]; rfl
  go_wp2_with fail
  clear xL00 xL01 xL02
  refine (toGr_row n gs Z.out A c wk cp _ (S.out.below B2.out) le0 ou0).mono ?_
  rintro e w1 ⟨A10, c10, vs10, f10, rfl, r10, hb⟩
  have sz3 := hb.size
  have B3 := Lib.hid (below_chain B2.out hb)
  have L0_3 := Lib.hid (L0_2.out.below hb)
  clear hb B2 L0_2
  have X10_3 := Lib.hid r10
  clear r10
  go_wp2_with fail
  refine (toCeS_row n2 cs Z2.out A2 c2 _ (S2.out.below B3.out) le2).mono ?_
  rintro e w2 ⟨A11, c11, rfl, r11, hb⟩
  have sz4 := hb.size
  have B4 := Lib.hid (below_chain B3.out hb)
  have X10_4 := Lib.hid (X10_3.out.below hb)
  have L0_4 := Lib.hid (L0_3.out.below hb)
  clear hb B3 X10_3 L0_3
  have X11_4 := Lib.hid r11
  clear r11
  go_wp2_with fail
  refine (specClosed_is HQ.out Z.out ou0 le0 Z2.out (by omega) _ X10_4.out.nds X11_4.out.ce).mono ?_
  rintro e w4 ⟨rfl, hb⟩
  have sz5 := hb.size
  have B5 := Lib.hid (below_chain B4.out hb)
  have X10_5 := Lib.hid (X10_4.out.below hb)
  have X11_5 := Lib.hid (X11_4.out.below hb)
  have L0_5 := Lib.hid (L0_4.out.below hb)
  clear hb B4 X10_4 X11_4 L0_4
  clear X10_5
  clear X11_5
  have xL00 : w4.cell? ⟨w.heap.size, 0, none⟩ = some (.slice A n c) := by rw [L0_5.out.cell]; rfl
  have xL01 : w4.cell? ⟨w.heap.size, 1, none⟩ = some (.int .i64 wk) := by rw [L0_5.out.cell]; rfl
  have xL02 : w4.cell? ⟨w.heap.size, 2, none⟩ = some (.int .i64 cp) := by rw [L0_5.out.cell]; rfl
  go_wp2_with fail
  clear xL00 xL01 xL02
  refine (toGr_row n gs Z.out A c wk cp _ (S.out.below B5.out) le0 ou0).mono ?_
  rintro e w5 ⟨A3, c3, vs3, f3, rfl, r3, hb⟩
  have sz6 := hb.size
  have B6 := Lib.hid (below_chain B5.out hb)
  have L0_6 := Lib.hid (L0_5.out.below hb)
  clear hb B5 L0_5
  have X3_6 := Lib.hid r3
  clear r3
  go_wp2_with fail
  generalize hW : (w5.alloc _) = V3
  have hb : Below w5.heap.size w5 V3 := by rw [← hW]; exact ((Below.refl _ _).alloc (by first | (simp; done) | (simp; omega) | omega) _)
  have azV3 : V3.heap.size = w5.heap.size + 1 := by rw [← hW]; simp
  have Nx0 := Lib.hid (show Blk V3 (w5.heap.size) 26 #[.slice A3 n c3, .int .i64 wk, .int .i64 cp] by rw [← hW]; exact (Blk.new _ _ _))
  clear hW
  have AZV3 := Lib.hid azV3
  clear azV3
  have sz7 := hb.size
  have B7 := Lib.hid (below_chain B6.out hb)
  have X3_7 := Lib.hid (X3_6.out.below hb)
  have L0_7 := Lib.hid (L0_6.out.below hb)
  clear hb B6 X3_6 L0_6
  have x0_7 := Nx0
  clear Nx0
  have ltx0 : w5.heap.size < V3.heap.size := x0_7.out.lt
  refine (toCeS_row n2 cs Z2.out A2 c2 _ (S2.out.below B7.out) le2).mono ?_
  rintro e w6 ⟨A30, c30, rfl, r30, hb⟩
  have sz8 := hb.size
  have B8 := Lib.hid (below_chain B7.out hb)
  have X3_8 := Lib.hid (X3_7.out.below hb)
  have L0_8 := Lib.hid (L0_7.out.below hb)
  have x0_8 := Lib.hid (x0_7.out.below hb)
  clear hb B7 X3_7 L0_7 x0_7
  have X30_8 := Lib.hid r30
  clear r30
  have xx00 : w6.cell? ⟨w5.heap.size, 0, none⟩ = some (.slice A3 n c3) := by rw [x0_8.out.cell]; rfl
  have xx01 : w6.cell? ⟨w5.heap.size, 1, none⟩ = some (.int .i64 wk) := by rw [x0_8.out.cell]; rfl
  have xx02 : w6.cell? ⟨w5.heap.size, 2, none⟩ = some (.int .i64 cp) := by rw [x0_8.out.cell]; rfl
  go_wp2_with fail
  clear xx00 xx01 xx02
  refine (implClosed_is HQ.out Z.out ou0 le0 Z2.out (by omega) _ X3_8.out.nds X30_8.out.ce).mono ?_
  rintro e w8 ⟨rfl, hb⟩
  have sz9 := hb.size
  have B9 := Lib.hid (below_chain B8.out hb)
  have X3_9 := Lib.hid (X3_8.out.below hb)
  have X30_9 := Lib.hid (X30_8.out.below hb)
  have L0_9 := Lib.hid (L0_8.out.below hb)
  have x0_9 := Lib.hid (x0_8.out.below hb)
  clear hb B8 X3_8 X30_8 L0_8 x0_8
  go_upto_region 14 with fail
  have k0 : w8.cell? ⟨w5.heap.size, 0, none⟩ = some (.slice A3 n c3) := by rw [x0_9.out.cell]; rfl
  have k1 : w8.cell? ⟨w5.heap.size, 1, none⟩ = some (.int .i64 wk) := by rw [x0_9.out.cell]; rfl
  have k2 : w8.cell? ⟨w5.heap.size, 2, none⟩ = some (.int .i64 cp) := by rw [x0_9.out.cell]; rfl
  have k3 : w8.cell? ⟨w.heap.size, 0, none⟩ = some (.slice A n c) := by rw [L0_9.out.cell]; rfl
  have k4 : w8.cell? ⟨w.heap.size, 1, none⟩ = some (.int .i64 wk) := by rw [L0_9.out.cell]; rfl
  have k5 : w8.cell? ⟨w.heap.size, 2, none⟩ = some (.int .i64 cp) := by rw [L0_9.out.cell]; rfl
  have kb := Below.refl w8.heap.size w8
  have ks := (S.out.below B9.out)
  have kx := X3_9.out
  go_cut [39] (fun t wx => t = .bool false ∧ Below w8.heap.size w8 wx)
  case first =>
    go_region_held3 (fun w' => w'.cell? ⟨w5.heap.size, 0, none⟩ = some (.slice A3 n c3) ∧ w'.cell? ⟨w5.heap.size, 1, none⟩ = some (.int .i64 wk) ∧ w'.cell? ⟨w5.heap.size, 2, none⟩ = some (.int .i64 cp) ∧ w'.cell? ⟨w.heap.size, 0, none⟩ = some (.slice A n c) ∧ w'.cell? ⟨w.heap.size, 1, none⟩ = some (.int .i64 wk) ∧ w'.cell? ⟨w.heap.size, 2, none⟩ = some (.int .i64 cp) ∧ Nds w' A gs ∧ Below w8.heap.size w8 w')
      (((try go_split_ands); refine ⟨?_, ?_, ?_, ?_, ?_, ?_, ?_, ?_⟩ <;> (repeat (first | with_reducible assumption | with_reducible refine drew_keep ?_ | with_reducible refine below_keep hbd ?_ | with_reducible refine nds_drew ?_ | with_reducible refine Nds.below ?_ hbd | with_reducible refine Below.drew ?_ | with_reducible refine below_chain ?_ hbd))))
      (first | (go_at_call 34; (try go_split_ands); (with_reducible refine (toGr_row n gs Z.out A c wk cp _ (by assumption) le0 ou0).mono ?_); rintro e w5 ⟨A5, c5, vs5, f5, rfl, s5, hbd⟩) | (go_at_call 38; (try go_split_ands); (with_reducible refine (eqGr_row wk cp (GrRows.below kx (by assumption)) s5 le0 ou0).mono ?_); rintro e w6 ⟨rfl, hbd⟩))
    all_goals (
      go_wp2_with fail
      go_meet
      refine ⟨rfl, ?_⟩
      (try go_split_ands)
      assumption)
  case rest =>
  obtain ⟨rfl, hb⟩ := hcut
  clear kb ks kx k0 k1 k2 k3 k4 k5
  obtain ⟨u3, hwc⟩ : ∃ z, z = wc := ⟨_, rfl⟩
  subst hwc
  have sz10 := hb.size
  have B10 := Lib.hid (below_chain B9.out hb)
  have X3_10 := Lib.hid (X3_9.out.below hb)
  have X30_10 := Lib.hid (X30_9.out.below hb)
  have L0_10 := Lib.hid (L0_9.out.below hb)
  have x0_10 := Lib.hid (x0_9.out.below hb)
  clear hb B9 X3_9 X30_9 L0_9 x0_9
  go_wp2_with fail
  refine (toCeS_row n2 cs Z2.out A2 c2 _ (S2.out.below B10.out) le2).mono ?_
  rintro e w12 ⟨A50, c50, rfl, r50, hb⟩
  have sz11 := hb.size
  have B11 := Lib.hid (below_chain B10.out hb)
  have X3_11 := Lib.hid (X3_10.out.below hb)
  have X30_11 := Lib.hid (X30_10.out.below hb)
  have L0_11 := Lib.hid (L0_10.out.below hb)
  have x0_11 := Lib.hid (x0_10.out.below hb)
  clear hb B10 X3_10 X30_10 L0_10 x0_10
  have X50_11 := Lib.hid r50
  clear r50
  go_wp2_with fail
  refine (eqCeS_row X30_11.out X50_11.out (by omega)).mono ?_
  rintro e w13 ⟨rfl, hb⟩
  have sz12 := hb.size
  have B12 := Lib.hid (below_chain B11.out hb)
  have X3_12 := Lib.hid (X3_11.out.below hb)
  have X30_12 := Lib.hid (X30_11.out.below hb)
  have X50_12 := Lib.hid (X50_11.out.below hb)
  have L0_12 := Lib.hid (L0_11.out.below hb)
  have x0_12 := Lib.hid (x0_11.out.below hb)
  clear hb B11 X3_11 X30_11 X50_11 L0_11 x0_11
  clear X50_12
  go_wp2
  go_ret
  exact ⟨rfl, B12.out⟩
end Go.Proofs.Ytbbagpnjjjohpaa.fnExactIsClosed

