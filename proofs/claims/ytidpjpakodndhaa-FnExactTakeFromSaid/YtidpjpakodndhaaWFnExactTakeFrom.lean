/-
  The walk of FnExactTakeFrom.
-/
import Derived.Test.YtidpjpakodndhaaLkBase
import Derived.Test.YtidpjpakodndhaaLkCame
import Derived.Test.YtidpjpakodndhaaLkPlain
import Derived.Test.YtidpjpakodndhaaImplLk1
import Derived.Test.YtidpjpakodndhaaSpecLk1
import Derived.Test.YtidpjpakodndhaaLkBack
import Derived.Test.YtidpjpakodndhaaSpecTake
import Derived.Test.YtidpjpakodndhaaImplTake
import Derived.Deep.RegionHeld3
import Derived.Deep.DeepCutAuto
namespace Go.Proofs.Ytidpjpakodndhaa.fnExactTakeFrom
open Go.RowKit Go.Proofs.Ytidpjpakodndhaa.hexes

set_option maxRecDepth 1000000 in
set_option maxHeartbeats 8000000 in
theorem walk (A : Option Addr) (n c : Nat) (zs : List Rc) (p a b s g : Int) (w : World) (hZ : IsRcs w A n zs) (hGZ : g ≤ 9223372036854775807) :
    Calls Try.prog 8 #[.agg #[.int .i64 p, .slice A n c, .int .i64 a, .int .i64 b, .int .i64 s, .int .i64 g]] w fun e w' => e = .returned (.bool true) ∧ Below w.heap.size w w' := by
  have Z := Lib.hid hZ.len
  have maxZ := hZ.max
  have S := Lib.hid hZ.rcs
  clear hZ
  by_cases hn0 : (1048576 : Int) < (n : Int)
  · have C0 := Lib.hid (fun W => szLk_over A n c p a b s g (1048576) (by omega) (by omega) maxZ hn0 W)
    go_enter Try.func8, Try.ntmps8
    go_wp2_with fail
    generalize hW : (w.alloc _) = W
    have BB := Lib.hid (show Below w.heap.size w W by rw [← hW]; exact ((Below.refl _ _).alloc (by first | (simp; done) | (simp; omega) | omega) _))
    have NB0 := Lib.hid (show Blk W (w.heap.size) 52 #[.int .i64 p, .slice A n c, .int .i64 a, .int .i64 b, .int .i64 s, .int .i64 g] by rw [← hW]; exact (Blk.new _ _ _))
    clear hW
    refine (C0.out _).mono ?_
    rintro e v0 ⟨rfl, hb0⟩
    have BB0 := Lib.hid (below_chain BB.out hb0)
    have NB0_0 := Lib.hid (NB0.out.below hb0)
    clear hb0
    go_wp2
    go_ret
    exact ⟨rfl, BB0.out⟩
  have C0 := Lib.hid (fun W => szLk_in A n c p a b s g (1048576) (by omega) (by omega) maxZ hn0 W)
  have hd0 : decide ((1048576 : Int) - (n : Int) < 0) = false := by simp; omega
  have le0 : n ≤ 1048576 := by omega
  obtain ⟨r, hr⟩ : ∃ r, takeOk p a b s g n zs = r := ⟨_, rfl⟩
  obtain ⟨us, hu⟩ : ∃ us, takeQ r zs = us := ⟨_, rfl⟩
  obtain ⟨m, hm⟩ : ∃ m, us.length = m := ⟨_, rfl⟩
  obtain ⟨⟨q0, ⟨q1, q2⟩, q3, q4⟩, hq⟩ : ∃ q, takeR r zs = q := ⟨_, rfl⟩
  have hmn : m ≤ n := by rw [← hm, ← hu, ← Z.out]; unfold takeQ; split <;> simp
  have HR := Lib.hid hr
  have HU := Lib.hid hu
  have HM := Lib.hid hm
  have HQ := Lib.hid hq
  clear hr hu hm hq
  have hrr : (r != r) = false := by simp
  go_enter Try.func8, Try.ntmps8
  go_wp2_with fail
  generalize hW : (w.alloc _) = W
  have hb : Below w.heap.size w W := by rw [← hW]; exact ((Below.refl _ _).alloc (by first | (simp; done) | (simp; omega) | omega) _)
  have azW : W.heap.size = w.heap.size + 1 := by rw [← hW]; simp
  have NL0 := Lib.hid (show Blk W (w.heap.size) 52 #[.int .i64 p, .slice A n c, .int .i64 a, .int .i64 b, .int .i64 s, .int .i64 g] by rw [← hW]; exact (Blk.new _ _ _))
  clear hW
  have AZW := Lib.hid azW
  clear azW
  have sz1 := hb.size
  have B1 := Lib.hid (hb)
  clear hb
  have L0_1 := NL0
  clear NL0
  have ltL0 : w.heap.size < W.heap.size := L0_1.out.lt
  refine (C0.out _).mono ?_
  rintro e v0 ⟨rfl, hb⟩
  have sz2 := hb.size
  have B2 := Lib.hid (below_chain B1.out hb)
  have L0_2 := Lib.hid (L0_1.out.below hb)
  clear hb B1 L0_1
  clear C0
  have xL00 : v0.cell? ⟨w.heap.size, 0, none⟩ = some (.int .i64 p) := by rw [L0_2.out.cell]; rfl
  have xL01 : v0.cell? ⟨w.heap.size, 1, none⟩ = some (.slice A n c) := by rw [L0_2.out.cell]; rfl
  have xL02 : v0.cell? ⟨w.heap.size, 2, none⟩ = some (.int .i64 a) := by rw [L0_2.out.cell]; rfl
  have xL03 : v0.cell? ⟨w.heap.size, 3, none⟩ = some (.int .i64 b) := by rw [L0_2.out.cell]; rfl
  have xL04 : v0.cell? ⟨w.heap.size, 4, none⟩ = some (.int .i64 s) := by rw [L0_2.out.cell]; rfl
  have xL05 : v0.cell? ⟨w.heap.size, 5, none⟩ = some (.int .i64 g) := by rw [L0_2.out.cell]; rfl
  go_wp2_with fail
  clear xL00 xL01 xL02 xL03 xL04 xL05
  refine (toLk_row A n c zs Z.out p a b s g _ (S.out.below B2.out) le0).mono ?_
  rintro e w1 ⟨A1, c1, rfl, r1, hb⟩
  have sz3 := hb.size
  have B3 := Lib.hid (below_chain B2.out hb)
  have L0_3 := Lib.hid (L0_2.out.below hb)
  clear hb B2 L0_2
  have X1_3 := Lib.hid r1
  clear r1
  go_wp2_with fail
  refine (specTake_any n zs Z.out A1 c1 X1_3.out.nil p a b s g _ X1_3.out.rc (by omega) HR.out HU.out HM.out HQ.out).mono ?_
  rintro e w2 ⟨A2, c2, rfl, o2, hb⟩
  obtain ⟨A2', c2', he, r2⟩ := row_of o2
  simp only [Value.slice.injEq, true_and] at he
  obtain ⟨rfl, rfl⟩ := he
  clear o2
  have sz4 := hb.size
  have B4 := Lib.hid (below_chain B3.out hb)
  have X1_4 := Lib.hid (X1_3.out.below hb)
  have L0_4 := Lib.hid (L0_3.out.below hb)
  clear hb B3 X1_3 L0_3
  have X2_4 := Lib.hid r2
  clear r2
  clear X1_4
  obtain ⟨V2, hW⟩ : ∃ z, ((w2.alloc (.cells #[.int .i64 p, .slice A2 m c2, .int .i64 a, .int .i64 (turnI r b 1), .int .i64 s, .int .i64 (turnI r g 1)] 26)).alloc (.cells #[.int .i64 q0, .int .i64 q1, .int .i64 q2, .int .i64 q3, .int .i64 q4] 30)) = z := ⟨_, rfl⟩
  have hb : Below w2.heap.size w2 V2 := by rw [← hW]; exact (((Below.refl _ _).alloc (by first | (simp; done) | (simp; omega) | omega) _).alloc (by first | (simp; done) | (simp; omega) | omega) _)
  have az : V2.heap.size = w2.heap.size + 2 := by rw [← hW]; simp
  have Nw0 := Lib.hid (show Blk V2 (w2.heap.size) 26 #[.int .i64 p, .slice A2 m c2, .int .i64 a, .int .i64 (turnI r b 1), .int .i64 s, .int .i64 (turnI r g 1)] by rw [← hW]; exact ((Below.heap_alloc _ _ _ (by first | (simp; done) | (simp; omega))).trans (Blk.new _ _ _)))
  have Nwr := Lib.hid (show Blk V2 (w2.heap.size + 1) 30 #[.int .i64 q0, .int .i64 q1, .int .i64 q2, .int .i64 q3, .int .i64 q4] by rw [← hW]; exact ((show w2.heap.size + 1 = ((w2.alloc _)).heap.size by simp) ▸ Blk.new _ _ _))
  have AZV2 := Lib.hid az
  clear az
  have sz5 := hb.size
  have B5 := Lib.hid (below_chain B4.out hb)
  have X2_5 := Lib.hid (X2_4.out.below hb)
  have L0_5 := Lib.hid (L0_4.out.below hb)
  clear hb B4 X2_4 L0_4
  have w0_5 := Nw0
  clear Nw0
  have ltw0 : w2.heap.size < V2.heap.size := w0_5.out.lt
  have wr_5 := Nwr
  clear Nwr
  have ltwr : w2.heap.size + 1 < V2.heap.size := wr_5.out.lt
  have xL00 : V2.cell? ⟨w.heap.size, 0, none⟩ = some (.int .i64 p) := by rw [L0_5.out.cell]; rfl
  have xL01 : V2.cell? ⟨w.heap.size, 1, none⟩ = some (.slice A n c) := by rw [L0_5.out.cell]; rfl
  have xL02 : V2.cell? ⟨w.heap.size, 2, none⟩ = some (.int .i64 a) := by rw [L0_5.out.cell]; rfl
  have xL03 : V2.cell? ⟨w.heap.size, 3, none⟩ = some (.int .i64 b) := by rw [L0_5.out.cell]; rfl
  have xL04 : V2.cell? ⟨w.heap.size, 4, none⟩ = some (.int .i64 s) := by rw [L0_5.out.cell]; rfl
  have xL05 : V2.cell? ⟨w.heap.size, 5, none⟩ = some (.int .i64 g) := by rw [L0_5.out.cell]; rfl
  go_wp2_with fail
  clear hW xL00 xL01 xL02 xL03 xL04 xL05
  refine (toLk_row A n c zs Z.out p a b s g _ (S.out.below B5.out) le0).mono ?_
  rintro e w3 ⟨A3, c3, rfl, r3, hb⟩
  have sz6 := hb.size
  have B6 := Lib.hid (below_chain B5.out hb)
  have X2_6 := Lib.hid (X2_5.out.below hb)
  have L0_6 := Lib.hid (L0_5.out.below hb)
  have w0_6 := Lib.hid (w0_5.out.below hb)
  have wr_6 := Lib.hid (wr_5.out.below hb)
  clear hb B5 X2_5 L0_5 w0_5 wr_5
  have X3_6 := Lib.hid r3
  clear r3
  go_wp2_with fail
  generalize hW : (w3.alloc _) = V3
  have hb : Below w3.heap.size w3 V3 := by rw [← hW]; exact ((Below.refl _ _).alloc (by first | (simp; done) | (simp; omega) | omega) _)
  have azV3 : V3.heap.size = w3.heap.size + 1 := by rw [← hW]; simp
  have Nx0 := Lib.hid (show Blk V3 (w3.heap.size) 26 #[.int .i64 p, .slice A3 n c3, .int .i64 a, .int .i64 b, .int .i64 s, .int .i64 g] by rw [← hW]; exact (Blk.new _ _ _))
  clear hW
  have AZV3 := Lib.hid azV3
  clear azV3
  have sz7 := hb.size
  have B7 := Lib.hid (below_chain B6.out hb)
  have X2_7 := Lib.hid (X2_6.out.below hb)
  have X3_7 := Lib.hid (X3_6.out.below hb)
  have L0_7 := Lib.hid (L0_6.out.below hb)
  have w0_7 := Lib.hid (w0_6.out.below hb)
  have wr_7 := Lib.hid (wr_6.out.below hb)
  clear hb B6 X2_6 X3_6 L0_6 w0_6 wr_6
  have x0_7 := Nx0
  clear Nx0
  have ltx0 : w3.heap.size < V3.heap.size := x0_7.out.lt
  refine (implTake_any n zs Z.out A3 c3 X3_7.out.nil p a b s g hGZ _ X3_7.out.rc (by omega) HR.out HU.out HM.out HQ.out).mono ?_
  rintro e w4 ⟨A4, c4, rfl, o4, hb⟩
  obtain ⟨A4', c4', he, r4⟩ := row_of o4
  simp only [Value.slice.injEq, true_and] at he
  obtain ⟨rfl, rfl⟩ := he
  clear o4
  have sz8 := hb.size
  have B8 := Lib.hid (below_chain B7.out hb)
  have X2_8 := Lib.hid (X2_7.out.below hb)
  have X3_8 := Lib.hid (X3_7.out.below hb)
  have L0_8 := Lib.hid (L0_7.out.below hb)
  have w0_8 := Lib.hid (w0_7.out.below hb)
  have wr_8 := Lib.hid (wr_7.out.below hb)
  have x0_8 := Lib.hid (x0_7.out.below hb)
  clear hb B7 X2_7 X3_7 L0_7 w0_7 wr_7 x0_7
  have X4_8 := Lib.hid r4
  clear r4
  obtain ⟨V4, hW⟩ : ∃ z, ((w4.alloc (.cells #[.int .i64 p, .slice A4 m c4, .int .i64 a, .int .i64 (turnI r b 1), .int .i64 s, .int .i64 (turnI r g 1)] 26)).alloc (.cells #[.int .i64 q0, .int .i64 q1, .int .i64 q2, .int .i64 q3, .int .i64 q4] 30)) = z := ⟨_, rfl⟩
  have hb : Below w4.heap.size w4 V4 := by rw [← hW]; exact (((Below.refl _ _).alloc (by first | (simp; done) | (simp; omega) | omega) _).alloc (by first | (simp; done) | (simp; omega) | omega) _)
  have az : V4.heap.size = w4.heap.size + 2 := by rw [← hW]; simp
  have Ng0 := Lib.hid (show Blk V4 (w4.heap.size) 26 #[.int .i64 p, .slice A4 m c4, .int .i64 a, .int .i64 (turnI r b 1), .int .i64 s, .int .i64 (turnI r g 1)] by rw [← hW]; exact ((Below.heap_alloc _ _ _ (by first | (simp; done) | (simp; omega))).trans (Blk.new _ _ _)))
  have Ngr := Lib.hid (show Blk V4 (w4.heap.size + 1) 30 #[.int .i64 q0, .int .i64 q1, .int .i64 q2, .int .i64 q3, .int .i64 q4] by rw [← hW]; exact ((show w4.heap.size + 1 = ((w4.alloc _)).heap.size by simp) ▸ Blk.new _ _ _))
  have AZV4 := Lib.hid az
  clear az
  have sz9 := hb.size
  have B9 := Lib.hid (below_chain B8.out hb)
  have X2_9 := Lib.hid (X2_8.out.below hb)
  have X3_9 := Lib.hid (X3_8.out.below hb)
  have X4_9 := Lib.hid (X4_8.out.below hb)
  have L0_9 := Lib.hid (L0_8.out.below hb)
  have w0_9 := Lib.hid (w0_8.out.below hb)
  have wr_9 := Lib.hid (wr_8.out.below hb)
  have x0_9 := Lib.hid (x0_8.out.below hb)
  clear hb B8 X2_8 X3_8 X4_8 L0_8 w0_8 wr_8 x0_8
  have g0_9 := Ng0
  clear Ng0
  have ltg0 : w4.heap.size < V4.heap.size := g0_9.out.lt
  have gr_9 := Ngr
  clear Ngr
  have ltgr : w4.heap.size + 1 < V4.heap.size := gr_9.out.lt
  have xg00 : V4.cell? ⟨w4.heap.size, 0, none⟩ = some (.int .i64 p) := by rw [g0_9.out.cell]; rfl
  have xg01 : V4.cell? ⟨w4.heap.size, 1, none⟩ = some (.slice A4 m c4) := by rw [g0_9.out.cell]; rfl
  have xg02 : V4.cell? ⟨w4.heap.size, 2, none⟩ = some (.int .i64 a) := by rw [g0_9.out.cell]; rfl
  have xg03 : V4.cell? ⟨w4.heap.size, 3, none⟩ = some (.int .i64 (turnI r b 1)) := by rw [g0_9.out.cell]; rfl
  have xg04 : V4.cell? ⟨w4.heap.size, 4, none⟩ = some (.int .i64 s) := by rw [g0_9.out.cell]; rfl
  have xg05 : V4.cell? ⟨w4.heap.size, 5, none⟩ = some (.int .i64 (turnI r g 1)) := by rw [g0_9.out.cell]; rfl
  have xw00 : V4.cell? ⟨w2.heap.size, 0, none⟩ = some (.int .i64 p) := by rw [w0_9.out.cell]; rfl
  have xw01 : V4.cell? ⟨w2.heap.size, 1, none⟩ = some (.slice A2 m c2) := by rw [w0_9.out.cell]; rfl
  have xw02 : V4.cell? ⟨w2.heap.size, 2, none⟩ = some (.int .i64 a) := by rw [w0_9.out.cell]; rfl
  have xw03 : V4.cell? ⟨w2.heap.size, 3, none⟩ = some (.int .i64 (turnI r b 1)) := by rw [w0_9.out.cell]; rfl
  have xw04 : V4.cell? ⟨w2.heap.size, 4, none⟩ = some (.int .i64 s) := by rw [w0_9.out.cell]; rfl
  have xw05 : V4.cell? ⟨w2.heap.size, 5, none⟩ = some (.int .i64 (turnI r g 1)) := by rw [w0_9.out.cell]; rfl
  go_wp2_with fail
  clear hW xg00 xg01 xg02 xg03 xg04 xg05 xw00 xw01 xw02 xw03 xw04 xw05
  refine (eqLk_row p a (turnI r b 1) s (turnI r g 1) X4_9.out X2_9.out (by omega)).mono ?_
  rintro e w5 ⟨rfl, hb⟩
  have sz10 := hb.size
  have B10 := Lib.hid (below_chain B9.out hb)
  have X2_10 := Lib.hid (X2_9.out.below hb)
  have X3_10 := Lib.hid (X3_9.out.below hb)
  have X4_10 := Lib.hid (X4_9.out.below hb)
  have L0_10 := Lib.hid (L0_9.out.below hb)
  have w0_10 := Lib.hid (w0_9.out.below hb)
  have wr_10 := Lib.hid (wr_9.out.below hb)
  have x0_10 := Lib.hid (x0_9.out.below hb)
  have g0_10 := Lib.hid (g0_9.out.below hb)
  have gr_10 := Lib.hid (gr_9.out.below hb)
  clear hb B9 X2_9 X3_9 X4_9 L0_9 w0_9 wr_9 x0_9 g0_9 gr_9
  have xgr0 : w5.cell? ⟨w4.heap.size + 1, 0, none⟩ = some (.int .i64 q0) := by rw [gr_10.out.cell]; rfl
  have xgr1 : w5.cell? ⟨w4.heap.size + 1, 1, none⟩ = some (.int .i64 q1) := by rw [gr_10.out.cell]; rfl
  have xgr2 : w5.cell? ⟨w4.heap.size + 1, 2, none⟩ = some (.int .i64 q2) := by rw [gr_10.out.cell]; rfl
  have xgr3 : w5.cell? ⟨w4.heap.size + 1, 3, none⟩ = some (.int .i64 q3) := by rw [gr_10.out.cell]; rfl
  have xgr4 : w5.cell? ⟨w4.heap.size + 1, 4, none⟩ = some (.int .i64 q4) := by rw [gr_10.out.cell]; rfl
  have xwr0 : w5.cell? ⟨w2.heap.size + 1, 0, none⟩ = some (.int .i64 q0) := by rw [wr_10.out.cell]; rfl
  have xwr1 : w5.cell? ⟨w2.heap.size + 1, 1, none⟩ = some (.int .i64 q1) := by rw [wr_10.out.cell]; rfl
  have xwr2 : w5.cell? ⟨w2.heap.size + 1, 2, none⟩ = some (.int .i64 q2) := by rw [wr_10.out.cell]; rfl
  have xwr3 : w5.cell? ⟨w2.heap.size + 1, 3, none⟩ = some (.int .i64 q3) := by rw [wr_10.out.cell]; rfl
  have xwr4 : w5.cell? ⟨w2.heap.size + 1, 4, none⟩ = some (.int .i64 q4) := by rw [wr_10.out.cell]; rfl
  go_wp2_with fail
  clear xgr0 xgr1 xgr2 xgr3 xgr4 xwr0 xwr1 xwr2 xwr3 xwr4
  refine (eqRc_is (b := true) (by simp) _).mono ?_
  rintro e w6 ⟨rfl, hb⟩
  have sz11 := hb.size
  have B11 := Lib.hid (below_chain B10.out hb)
  have X2_11 := Lib.hid (X2_10.out.below hb)
  have X3_11 := Lib.hid (X3_10.out.below hb)
  have X4_11 := Lib.hid (X4_10.out.below hb)
  have L0_11 := Lib.hid (L0_10.out.below hb)
  have w0_11 := Lib.hid (w0_10.out.below hb)
  have wr_11 := Lib.hid (wr_10.out.below hb)
  have x0_11 := Lib.hid (x0_10.out.below hb)
  have g0_11 := Lib.hid (g0_10.out.below hb)
  have gr_11 := Lib.hid (gr_10.out.below hb)
  clear hb B10 X2_10 X3_10 X4_10 L0_10 w0_10 wr_10 x0_10 g0_10 gr_10
  go_upto_region 10 with fail
  have k0 : w6.cell? ⟨w3.heap.size, 0, none⟩ = some (.int .i64 p) := by rw [x0_11.out.cell]; rfl
  have k1 : w6.cell? ⟨w3.heap.size, 1, none⟩ = some (.slice A3 n c3) := by rw [x0_11.out.cell]; rfl
  have k2 : w6.cell? ⟨w3.heap.size, 2, none⟩ = some (.int .i64 a) := by rw [x0_11.out.cell]; rfl
  have k3 : w6.cell? ⟨w3.heap.size, 3, none⟩ = some (.int .i64 b) := by rw [x0_11.out.cell]; rfl
  have k4 : w6.cell? ⟨w3.heap.size, 4, none⟩ = some (.int .i64 s) := by rw [x0_11.out.cell]; rfl
  have k5 : w6.cell? ⟨w3.heap.size, 5, none⟩ = some (.int .i64 g) := by rw [x0_11.out.cell]; rfl
  have k6 : w6.cell? ⟨w.heap.size, 0, none⟩ = some (.int .i64 p) := by rw [L0_11.out.cell]; rfl
  have k7 : w6.cell? ⟨w.heap.size, 1, none⟩ = some (.slice A n c) := by rw [L0_11.out.cell]; rfl
  have k8 : w6.cell? ⟨w.heap.size, 2, none⟩ = some (.int .i64 a) := by rw [L0_11.out.cell]; rfl
  have k9 : w6.cell? ⟨w.heap.size, 3, none⟩ = some (.int .i64 b) := by rw [L0_11.out.cell]; rfl
  have k10 : w6.cell? ⟨w.heap.size, 4, none⟩ = some (.int .i64 s) := by rw [L0_11.out.cell]; rfl
  have k11 : w6.cell? ⟨w.heap.size, 5, none⟩ = some (.int .i64 g) := by rw [L0_11.out.cell]; rfl
  have kb := Below.refl w6.heap.size w6
  have ks := (S.out.below B11.out)
  have kx := X3_11.out
  go_cut [56] (fun t wx => t = .bool false ∧ Below w6.heap.size w6 wx)
  case first =>
    go_region_held3 (fun w' => w'.cell? ⟨w3.heap.size, 0, none⟩ = some (.int .i64 p) ∧ w'.cell? ⟨w3.heap.size, 1, none⟩ = some (.slice A3 n c3) ∧ w'.cell? ⟨w3.heap.size, 2, none⟩ = some (.int .i64 a) ∧ w'.cell? ⟨w3.heap.size, 3, none⟩ = some (.int .i64 b) ∧ w'.cell? ⟨w3.heap.size, 4, none⟩ = some (.int .i64 s) ∧ w'.cell? ⟨w3.heap.size, 5, none⟩ = some (.int .i64 g) ∧ w'.cell? ⟨w.heap.size, 0, none⟩ = some (.int .i64 p) ∧ w'.cell? ⟨w.heap.size, 1, none⟩ = some (.slice A n c) ∧ w'.cell? ⟨w.heap.size, 2, none⟩ = some (.int .i64 a) ∧ w'.cell? ⟨w.heap.size, 3, none⟩ = some (.int .i64 b) ∧ w'.cell? ⟨w.heap.size, 4, none⟩ = some (.int .i64 s) ∧ w'.cell? ⟨w.heap.size, 5, none⟩ = some (.int .i64 g) ∧ Rcs w' A zs ∧ Below w6.heap.size w6 w')
      (((try go_split_ands); refine ⟨?_, ?_, ?_, ?_, ?_, ?_, ?_, ?_, ?_, ?_, ?_, ?_, ?_, ?_⟩ <;> (repeat (first | with_reducible assumption | with_reducible refine drew_keep ?_ | with_reducible refine below_keep hbd ?_ | with_reducible refine rcs_drew ?_ | with_reducible refine Rcs.below ?_ hbd | with_reducible refine Below.drew ?_ | with_reducible refine below_chain ?_ hbd))))
      (first | (go_at_call 37; (try go_split_ands); (with_reducible refine (toLk_row A n c zs Z.out p a b s g _ (by assumption) le0).mono ?_); rintro e w5 ⟨A5, c5, rfl, s5, hbd⟩) | (go_at_call 33; (try go_split_ands); (with_reducible refine (eqLk_row p a b s g (Row.below kx (by assumption)) s5 (by omega)).mono ?_); rintro e w6 ⟨rfl, hbd⟩))
    all_goals (
      go_wp2_with fail
      go_meet
      refine ⟨rfl, ?_⟩
      (try go_split_ands)
      assumption)
  case rest =>
  obtain ⟨rfl, hb⟩ := hcut
  clear kb ks kx k0 k1 k2 k3 k4 k5 k6 k7 k8 k9 k10 k11
  obtain ⟨u3, hwc⟩ : ∃ z, z = wc := ⟨_, rfl⟩
  subst hwc
  have sz12 := hb.size
  have B12 := Lib.hid (below_chain B11.out hb)
  have X2_12 := Lib.hid (X2_11.out.below hb)
  have X3_12 := Lib.hid (X3_11.out.below hb)
  have X4_12 := Lib.hid (X4_11.out.below hb)
  have L0_12 := Lib.hid (L0_11.out.below hb)
  have w0_12 := Lib.hid (w0_11.out.below hb)
  have wr_12 := Lib.hid (wr_11.out.below hb)
  have x0_12 := Lib.hid (x0_11.out.below hb)
  have g0_12 := Lib.hid (g0_11.out.below hb)
  have gr_12 := Lib.hid (gr_11.out.below hb)
  clear hb B11 X2_11 X3_11 X4_11 L0_11 w0_11 wr_11 x0_11 g0_11 gr_11
  have xx00 : u3.cell? ⟨w3.heap.size, 0, none⟩ = some (.int .i64 p) := by rw [x0_12.out.cell]; rfl
  have xx01 : u3.cell? ⟨w3.heap.size, 1, none⟩ = some (.slice A3 n c3) := by rw [x0_12.out.cell]; rfl
  have xx02 : u3.cell? ⟨w3.heap.size, 2, none⟩ = some (.int .i64 a) := by rw [x0_12.out.cell]; rfl
  have xx03 : u3.cell? ⟨w3.heap.size, 3, none⟩ = some (.int .i64 b) := by rw [x0_12.out.cell]; rfl
  have xx04 : u3.cell? ⟨w3.heap.size, 4, none⟩ = some (.int .i64 s) := by rw [x0_12.out.cell]; rfl
  have xx05 : u3.cell? ⟨w3.heap.size, 5, none⟩ = some (.int .i64 g) := by rw [x0_12.out.cell]; rfl
  go_wp2_with fail
  clear xx00 xx01 xx02 xx03 xx04 xx05
  refine (markLk_row 1 p a b s g X3_12.out (by omega) (by omega)).mono ?_
  rintro e w7 ⟨rfl, om, gw⟩
  have sz13 := gw.size
  have B13 := Lib.hid (below_wrote B12.out gw (by omega))
  have X2_13 := Lib.hid (X2_12.out.wrote gw (by omega))
  have X3_13 := Lib.hid om
  have X4_13 := Lib.hid (X4_12.out.wrote gw (by omega))
  have L0_13 := Lib.hid (L0_12.out.wrote gw (by omega))
  have w0_13 := Lib.hid (w0_12.out.wrote gw (by omega))
  have wr_13 := Lib.hid (wr_12.out.wrote gw (by omega))
  have x0_13 := Lib.hid (x0_12.out.wrote gw (by omega))
  have g0_13 := Lib.hid (g0_12.out.wrote gw (by omega))
  have gr_13 := Lib.hid (gr_12.out.wrote gw (by omega))
  clear om gw B12 X2_12 X3_12 X4_12 L0_12 w0_12 wr_12 x0_12 g0_12 gr_12
  have xg00 : w7.cell? ⟨w4.heap.size, 0, none⟩ = some (.int .i64 p) := by rw [g0_13.out.cell]; rfl
  have xg01 : w7.cell? ⟨w4.heap.size, 1, none⟩ = some (.slice A4 m c4) := by rw [g0_13.out.cell]; rfl
  have xg02 : w7.cell? ⟨w4.heap.size, 2, none⟩ = some (.int .i64 a) := by rw [g0_13.out.cell]; rfl
  have xg03 : w7.cell? ⟨w4.heap.size, 3, none⟩ = some (.int .i64 (turnI r b 1)) := by rw [g0_13.out.cell]; rfl
  have xg04 : w7.cell? ⟨w4.heap.size, 4, none⟩ = some (.int .i64 s) := by rw [g0_13.out.cell]; rfl
  have xg05 : w7.cell? ⟨w4.heap.size, 5, none⟩ = some (.int .i64 (turnI r g 1)) := by rw [g0_13.out.cell]; rfl
  have xw00 : w7.cell? ⟨w2.heap.size, 0, none⟩ = some (.int .i64 p) := by rw [w0_13.out.cell]; rfl
  have xw01 : w7.cell? ⟨w2.heap.size, 1, none⟩ = some (.slice A2 m c2) := by rw [w0_13.out.cell]; rfl
  have xw02 : w7.cell? ⟨w2.heap.size, 2, none⟩ = some (.int .i64 a) := by rw [w0_13.out.cell]; rfl
  have xw03 : w7.cell? ⟨w2.heap.size, 3, none⟩ = some (.int .i64 (turnI r b 1)) := by rw [w0_13.out.cell]; rfl
  have xw04 : w7.cell? ⟨w2.heap.size, 4, none⟩ = some (.int .i64 s) := by rw [w0_13.out.cell]; rfl
  have xw05 : w7.cell? ⟨w2.heap.size, 5, none⟩ = some (.int .i64 (turnI r g 1)) := by rw [w0_13.out.cell]; rfl
  go_wp2_with fail
  clear xg00 xg01 xg02 xg03 xg04 xg05 xw00 xw01 xw02 xw03 xw04 xw05
  refine (eqLk_row p a (turnI r b 1) s (turnI r g 1) X4_13.out X2_13.out (by omega)).mono ?_
  rintro e w8 ⟨rfl, hb⟩
  have sz14 := hb.size
  have B14 := Lib.hid (below_chain B13.out hb)
  have X2_14 := Lib.hid (X2_13.out.below hb)
  have X3_14 := Lib.hid (X3_13.out.below hb)
  have X4_14 := Lib.hid (X4_13.out.below hb)
  have L0_14 := Lib.hid (L0_13.out.below hb)
  have w0_14 := Lib.hid (w0_13.out.below hb)
  have wr_14 := Lib.hid (wr_13.out.below hb)
  have x0_14 := Lib.hid (x0_13.out.below hb)
  have g0_14 := Lib.hid (g0_13.out.below hb)
  have gr_14 := Lib.hid (gr_13.out.below hb)
  clear hb B13 X2_13 X3_13 X4_13 L0_13 w0_13 wr_13 x0_13 g0_13 gr_13
  have xgr0 : w8.cell? ⟨w4.heap.size + 1, 0, none⟩ = some (.int .i64 q0) := by rw [gr_14.out.cell]; rfl
  have xgr1 : w8.cell? ⟨w4.heap.size + 1, 1, none⟩ = some (.int .i64 q1) := by rw [gr_14.out.cell]; rfl
  have xgr2 : w8.cell? ⟨w4.heap.size + 1, 2, none⟩ = some (.int .i64 q2) := by rw [gr_14.out.cell]; rfl
  have xgr3 : w8.cell? ⟨w4.heap.size + 1, 3, none⟩ = some (.int .i64 q3) := by rw [gr_14.out.cell]; rfl
  have xgr4 : w8.cell? ⟨w4.heap.size + 1, 4, none⟩ = some (.int .i64 q4) := by rw [gr_14.out.cell]; rfl
  have xwr0 : w8.cell? ⟨w2.heap.size + 1, 0, none⟩ = some (.int .i64 q0) := by rw [wr_14.out.cell]; rfl
  have xwr1 : w8.cell? ⟨w2.heap.size + 1, 1, none⟩ = some (.int .i64 q1) := by rw [wr_14.out.cell]; rfl
  have xwr2 : w8.cell? ⟨w2.heap.size + 1, 2, none⟩ = some (.int .i64 q2) := by rw [wr_14.out.cell]; rfl
  have xwr3 : w8.cell? ⟨w2.heap.size + 1, 3, none⟩ = some (.int .i64 q3) := by rw [wr_14.out.cell]; rfl
  have xwr4 : w8.cell? ⟨w2.heap.size + 1, 4, none⟩ = some (.int .i64 q4) := by rw [wr_14.out.cell]; rfl
  go_wp2_with fail
  clear xgr0 xgr1 xgr2 xgr3 xgr4 xwr0 xwr1 xwr2 xwr3 xwr4
  refine (eqRc_is (b := true) (by simp) _).mono ?_
  rintro e w8r ⟨rfl, hb⟩
  have sz15 := hb.size
  have B15 := Lib.hid (below_chain B14.out hb)
  have X2_15 := Lib.hid (X2_14.out.below hb)
  have X3_15 := Lib.hid (X3_14.out.below hb)
  have X4_15 := Lib.hid (X4_14.out.below hb)
  have L0_15 := Lib.hid (L0_14.out.below hb)
  have w0_15 := Lib.hid (w0_14.out.below hb)
  have wr_15 := Lib.hid (wr_14.out.below hb)
  have x0_15 := Lib.hid (x0_14.out.below hb)
  have g0_15 := Lib.hid (g0_14.out.below hb)
  have gr_15 := Lib.hid (gr_14.out.below hb)
  clear hb B14 X2_14 X3_14 X4_14 L0_14 w0_14 wr_14 x0_14 g0_14 gr_14
  have xg00 : w8r.cell? ⟨w4.heap.size, 0, none⟩ = some (.int .i64 p) := by rw [g0_15.out.cell]; rfl
  have xg01 : w8r.cell? ⟨w4.heap.size, 1, none⟩ = some (.slice A4 m c4) := by rw [g0_15.out.cell]; rfl
  have xg02 : w8r.cell? ⟨w4.heap.size, 2, none⟩ = some (.int .i64 a) := by rw [g0_15.out.cell]; rfl
  have xg03 : w8r.cell? ⟨w4.heap.size, 3, none⟩ = some (.int .i64 (turnI r b 1)) := by rw [g0_15.out.cell]; rfl
  have xg04 : w8r.cell? ⟨w4.heap.size, 4, none⟩ = some (.int .i64 s) := by rw [g0_15.out.cell]; rfl
  have xg05 : w8r.cell? ⟨w4.heap.size, 5, none⟩ = some (.int .i64 (turnI r g 1)) := by rw [g0_15.out.cell]; rfl
  go_wp2_with fail
  clear xg00 xg01 xg02 xg03 xg04 xg05
  refine (markLk_row 1 p a (turnI r b 1) s (turnI r g 1) X4_15.out (by omega) (by omega)).mono ?_
  rintro e w9 ⟨rfl, om, gw⟩
  have sz16 := gw.size
  have B16 := Lib.hid (below_wrote B15.out gw (by omega))
  have X2_16 := Lib.hid (X2_15.out.wrote gw (by omega))
  have X3_16 := Lib.hid (X3_15.out.wrote gw (by omega))
  have X4_16 := Lib.hid om
  have L0_16 := Lib.hid (L0_15.out.wrote gw (by omega))
  have w0_16 := Lib.hid (w0_15.out.wrote gw (by omega))
  have wr_16 := Lib.hid (wr_15.out.wrote gw (by omega))
  have x0_16 := Lib.hid (x0_15.out.wrote gw (by omega))
  have g0_16 := Lib.hid (g0_15.out.wrote gw (by omega))
  have gr_16 := Lib.hid (gr_15.out.wrote gw (by omega))
  clear om gw B15 X2_15 X3_15 X4_15 L0_15 w0_15 wr_15 x0_15 g0_15 gr_15
  have xg00 : w9.cell? ⟨w4.heap.size, 0, none⟩ = some (.int .i64 p) := by rw [g0_16.out.cell]; rfl
  have xg01 : w9.cell? ⟨w4.heap.size, 1, none⟩ = some (.slice A4 m c4) := by rw [g0_16.out.cell]; rfl
  have xg02 : w9.cell? ⟨w4.heap.size, 2, none⟩ = some (.int .i64 a) := by rw [g0_16.out.cell]; rfl
  have xg03 : w9.cell? ⟨w4.heap.size, 3, none⟩ = some (.int .i64 (turnI r b 1)) := by rw [g0_16.out.cell]; rfl
  have xg04 : w9.cell? ⟨w4.heap.size, 4, none⟩ = some (.int .i64 s) := by rw [g0_16.out.cell]; rfl
  have xg05 : w9.cell? ⟨w4.heap.size, 5, none⟩ = some (.int .i64 (turnI r g 1)) := by rw [g0_16.out.cell]; rfl
  go_wp2_with fail
  clear xg00 xg01 xg02 xg03 xg04 xg05
  refine (heldLk_row 1 p a (turnI r b 1) s (turnI r g 1) X4_16.out (by omega) (by omega)).mono ?_
  rintro e w10 ⟨rfl, hb⟩
  have sz17 := hb.size
  have B17 := Lib.hid (below_chain B16.out hb)
  have X2_17 := Lib.hid (X2_16.out.below hb)
  have X3_17 := Lib.hid (X3_16.out.below hb)
  have X4_17 := Lib.hid (X4_16.out.below hb)
  have L0_17 := Lib.hid (L0_16.out.below hb)
  have w0_17 := Lib.hid (w0_16.out.below hb)
  have wr_17 := Lib.hid (wr_16.out.below hb)
  have x0_17 := Lib.hid (x0_16.out.below hb)
  have g0_17 := Lib.hid (g0_16.out.below hb)
  have gr_17 := Lib.hid (gr_16.out.below hb)
  clear hb B16 X2_16 X3_16 X4_16 L0_16 w0_16 wr_16 x0_16 g0_16 gr_16
  have xL00 : w10.cell? ⟨w.heap.size, 0, none⟩ = some (.int .i64 p) := by rw [L0_17.out.cell]; rfl
  have xL01 : w10.cell? ⟨w.heap.size, 1, none⟩ = some (.slice A n c) := by rw [L0_17.out.cell]; rfl
  have xL02 : w10.cell? ⟨w.heap.size, 2, none⟩ = some (.int .i64 a) := by rw [L0_17.out.cell]; rfl
  have xL03 : w10.cell? ⟨w.heap.size, 3, none⟩ = some (.int .i64 b) := by rw [L0_17.out.cell]; rfl
  have xL04 : w10.cell? ⟨w.heap.size, 4, none⟩ = some (.int .i64 s) := by rw [L0_17.out.cell]; rfl
  have xL05 : w10.cell? ⟨w.heap.size, 5, none⟩ = some (.int .i64 g) := by rw [L0_17.out.cell]; rfl
  go_wp2_with fail
  clear X3_17
  clear xL00 xL01 xL02 xL03 xL04 xL05
  refine (toLk_row A n c zs Z.out p a b s g _ (S.out.below B17.out) le0).mono ?_
  rintro e w11 ⟨A11, c11, rfl, r11, hb⟩
  have sz18 := hb.size
  have B18 := Lib.hid (below_chain B17.out hb)
  have X2_18 := Lib.hid (X2_17.out.below hb)
  have X4_18 := Lib.hid (X4_17.out.below hb)
  have L0_18 := Lib.hid (L0_17.out.below hb)
  have w0_18 := Lib.hid (w0_17.out.below hb)
  have wr_18 := Lib.hid (wr_17.out.below hb)
  have x0_18 := Lib.hid (x0_17.out.below hb)
  have g0_18 := Lib.hid (g0_17.out.below hb)
  have gr_18 := Lib.hid (gr_17.out.below hb)
  clear hb B17 X2_17 X4_17 L0_17 w0_17 wr_17 x0_17 g0_17 gr_17
  have X11_18 := Lib.hid r11
  clear r11
  go_wp2_with fail
  refine (implTake_any n zs Z.out A11 c11 X11_18.out.nil p a b s g hGZ _ X11_18.out.rc (by omega) HR.out HU.out HM.out HQ.out).mono ?_
  rintro e w12 ⟨A12, c12, rfl, o12, hb⟩
  obtain ⟨A12', c12', he, r12⟩ := row_of o12
  simp only [Value.slice.injEq, true_and] at he
  obtain ⟨rfl, rfl⟩ := he
  clear o12
  have sz19 := hb.size
  have B19 := Lib.hid (below_chain B18.out hb)
  have X2_19 := Lib.hid (X2_18.out.below hb)
  have X4_19 := Lib.hid (X4_18.out.below hb)
  have X11_19 := Lib.hid (X11_18.out.below hb)
  have L0_19 := Lib.hid (L0_18.out.below hb)
  have w0_19 := Lib.hid (w0_18.out.below hb)
  have wr_19 := Lib.hid (wr_18.out.below hb)
  have x0_19 := Lib.hid (x0_18.out.below hb)
  have g0_19 := Lib.hid (g0_18.out.below hb)
  have gr_19 := Lib.hid (gr_18.out.below hb)
  clear hb B18 X2_18 X4_18 X11_18 L0_18 w0_18 wr_18 x0_18 g0_18 gr_18
  have X12_19 := Lib.hid r12
  clear r12
  obtain ⟨V12, hW⟩ : ∃ z, ((w12.alloc (.cells #[.int .i64 p, .slice A12 m c12, .int .i64 a, .int .i64 (turnI r b 1), .int .i64 s, .int .i64 (turnI r g 1)] 26)).alloc (.cells #[.int .i64 q0, .int .i64 q1, .int .i64 q2, .int .i64 q3, .int .i64 q4] 30)) = z := ⟨_, rfl⟩
  have hb : Below w12.heap.size w12 V12 := by rw [← hW]; exact (((Below.refl _ _).alloc (by first | (simp; done) | (simp; omega) | omega) _).alloc (by first | (simp; done) | (simp; omega) | omega) _)
  have az : V12.heap.size = w12.heap.size + 2 := by rw [← hW]; simp
  have Nh0 := Lib.hid (show Blk V12 (w12.heap.size) 26 #[.int .i64 p, .slice A12 m c12, .int .i64 a, .int .i64 (turnI r b 1), .int .i64 s, .int .i64 (turnI r g 1)] by rw [← hW]; exact ((Below.heap_alloc _ _ _ (by first | (simp; done) | (simp; omega))).trans (Blk.new _ _ _)))
  have Nhr := Lib.hid (show Blk V12 (w12.heap.size + 1) 30 #[.int .i64 q0, .int .i64 q1, .int .i64 q2, .int .i64 q3, .int .i64 q4] by rw [← hW]; exact ((show w12.heap.size + 1 = ((w12.alloc _)).heap.size by simp) ▸ Blk.new _ _ _))
  have AZV12 := Lib.hid az
  clear az
  have sz20 := hb.size
  have B20 := Lib.hid (below_chain B19.out hb)
  have X2_20 := Lib.hid (X2_19.out.below hb)
  have X4_20 := Lib.hid (X4_19.out.below hb)
  have X11_20 := Lib.hid (X11_19.out.below hb)
  have X12_20 := Lib.hid (X12_19.out.below hb)
  have L0_20 := Lib.hid (L0_19.out.below hb)
  have w0_20 := Lib.hid (w0_19.out.below hb)
  have wr_20 := Lib.hid (wr_19.out.below hb)
  have x0_20 := Lib.hid (x0_19.out.below hb)
  have g0_20 := Lib.hid (g0_19.out.below hb)
  have gr_20 := Lib.hid (gr_19.out.below hb)
  clear hb B19 X2_19 X4_19 X11_19 X12_19 L0_19 w0_19 wr_19 x0_19 g0_19 gr_19
  have h0_20 := Nh0
  clear Nh0
  have lth0 : w12.heap.size < V12.heap.size := h0_20.out.lt
  have hr_20 := Nhr
  clear Nhr
  have lthr : w12.heap.size + 1 < V12.heap.size := hr_20.out.lt
  have xh00 : V12.cell? ⟨w12.heap.size, 0, none⟩ = some (.int .i64 p) := by rw [h0_20.out.cell]; rfl
  have xh01 : V12.cell? ⟨w12.heap.size, 1, none⟩ = some (.slice A12 m c12) := by rw [h0_20.out.cell]; rfl
  have xh02 : V12.cell? ⟨w12.heap.size, 2, none⟩ = some (.int .i64 a) := by rw [h0_20.out.cell]; rfl
  have xh03 : V12.cell? ⟨w12.heap.size, 3, none⟩ = some (.int .i64 (turnI r b 1)) := by rw [h0_20.out.cell]; rfl
  have xh04 : V12.cell? ⟨w12.heap.size, 4, none⟩ = some (.int .i64 s) := by rw [h0_20.out.cell]; rfl
  have xh05 : V12.cell? ⟨w12.heap.size, 5, none⟩ = some (.int .i64 (turnI r g 1)) := by rw [h0_20.out.cell]; rfl
  have xw00 : V12.cell? ⟨w2.heap.size, 0, none⟩ = some (.int .i64 p) := by rw [w0_20.out.cell]; rfl
  have xw01 : V12.cell? ⟨w2.heap.size, 1, none⟩ = some (.slice A2 m c2) := by rw [w0_20.out.cell]; rfl
  have xw02 : V12.cell? ⟨w2.heap.size, 2, none⟩ = some (.int .i64 a) := by rw [w0_20.out.cell]; rfl
  have xw03 : V12.cell? ⟨w2.heap.size, 3, none⟩ = some (.int .i64 (turnI r b 1)) := by rw [w0_20.out.cell]; rfl
  have xw04 : V12.cell? ⟨w2.heap.size, 4, none⟩ = some (.int .i64 s) := by rw [w0_20.out.cell]; rfl
  have xw05 : V12.cell? ⟨w2.heap.size, 5, none⟩ = some (.int .i64 (turnI r g 1)) := by rw [w0_20.out.cell]; rfl
  go_wp2_with fail
  clear hW xh00 xh01 xh02 xh03 xh04 xh05 xw00 xw01 xw02 xw03 xw04 xw05
  refine (eqLk_row p a (turnI r b 1) s (turnI r g 1) X12_20.out X2_20.out (by omega)).mono ?_
  rintro e w13 ⟨rfl, hb⟩
  have sz21 := hb.size
  have B21 := Lib.hid (below_chain B20.out hb)
  have X2_21 := Lib.hid (X2_20.out.below hb)
  have X4_21 := Lib.hid (X4_20.out.below hb)
  have X11_21 := Lib.hid (X11_20.out.below hb)
  have X12_21 := Lib.hid (X12_20.out.below hb)
  have L0_21 := Lib.hid (L0_20.out.below hb)
  have w0_21 := Lib.hid (w0_20.out.below hb)
  have wr_21 := Lib.hid (wr_20.out.below hb)
  have x0_21 := Lib.hid (x0_20.out.below hb)
  have g0_21 := Lib.hid (g0_20.out.below hb)
  have gr_21 := Lib.hid (gr_20.out.below hb)
  have h0_21 := Lib.hid (h0_20.out.below hb)
  have hr_21 := Lib.hid (hr_20.out.below hb)
  clear hb B20 X2_20 X4_20 X11_20 X12_20 L0_20 w0_20 wr_20 x0_20 g0_20 gr_20 h0_20 hr_20
  have xhr0 : w13.cell? ⟨w12.heap.size + 1, 0, none⟩ = some (.int .i64 q0) := by rw [hr_21.out.cell]; rfl
  have xhr1 : w13.cell? ⟨w12.heap.size + 1, 1, none⟩ = some (.int .i64 q1) := by rw [hr_21.out.cell]; rfl
  have xhr2 : w13.cell? ⟨w12.heap.size + 1, 2, none⟩ = some (.int .i64 q2) := by rw [hr_21.out.cell]; rfl
  have xhr3 : w13.cell? ⟨w12.heap.size + 1, 3, none⟩ = some (.int .i64 q3) := by rw [hr_21.out.cell]; rfl
  have xhr4 : w13.cell? ⟨w12.heap.size + 1, 4, none⟩ = some (.int .i64 q4) := by rw [hr_21.out.cell]; rfl
  have xwr0 : w13.cell? ⟨w2.heap.size + 1, 0, none⟩ = some (.int .i64 q0) := by rw [wr_21.out.cell]; rfl
  have xwr1 : w13.cell? ⟨w2.heap.size + 1, 1, none⟩ = some (.int .i64 q1) := by rw [wr_21.out.cell]; rfl
  have xwr2 : w13.cell? ⟨w2.heap.size + 1, 2, none⟩ = some (.int .i64 q2) := by rw [wr_21.out.cell]; rfl
  have xwr3 : w13.cell? ⟨w2.heap.size + 1, 3, none⟩ = some (.int .i64 q3) := by rw [wr_21.out.cell]; rfl
  have xwr4 : w13.cell? ⟨w2.heap.size + 1, 4, none⟩ = some (.int .i64 q4) := by rw [wr_21.out.cell]; rfl
  go_wp2_with fail
  clear xhr0 xhr1 xhr2 xhr3 xhr4 xwr0 xwr1 xwr2 xwr3 xwr4
  refine (eqRc_is (b := true) (by simp) _).mono ?_
  rintro e w13r ⟨rfl, hb⟩
  have sz22 := hb.size
  have B22 := Lib.hid (below_chain B21.out hb)
  have X2_22 := Lib.hid (X2_21.out.below hb)
  have X4_22 := Lib.hid (X4_21.out.below hb)
  have X11_22 := Lib.hid (X11_21.out.below hb)
  have X12_22 := Lib.hid (X12_21.out.below hb)
  have L0_22 := Lib.hid (L0_21.out.below hb)
  have w0_22 := Lib.hid (w0_21.out.below hb)
  have wr_22 := Lib.hid (wr_21.out.below hb)
  have x0_22 := Lib.hid (x0_21.out.below hb)
  have g0_22 := Lib.hid (g0_21.out.below hb)
  have gr_22 := Lib.hid (gr_21.out.below hb)
  have h0_22 := Lib.hid (h0_21.out.below hb)
  have hr_22 := Lib.hid (hr_21.out.below hb)
  clear hb B21 X2_21 X4_21 X11_21 X12_21 L0_21 w0_21 wr_21 x0_21 g0_21 gr_21 h0_21 hr_21
  have xg00 : w13r.cell? ⟨w4.heap.size, 0, none⟩ = some (.int .i64 p) := by rw [g0_22.out.cell]; rfl
  have xg01 : w13r.cell? ⟨w4.heap.size, 1, none⟩ = some (.slice A4 m c4) := by rw [g0_22.out.cell]; rfl
  have xg02 : w13r.cell? ⟨w4.heap.size, 2, none⟩ = some (.int .i64 a) := by rw [g0_22.out.cell]; rfl
  have xg03 : w13r.cell? ⟨w4.heap.size, 3, none⟩ = some (.int .i64 (turnI r b 1)) := by rw [g0_22.out.cell]; rfl
  have xg04 : w13r.cell? ⟨w4.heap.size, 4, none⟩ = some (.int .i64 s) := by rw [g0_22.out.cell]; rfl
  have xg05 : w13r.cell? ⟨w4.heap.size, 5, none⟩ = some (.int .i64 (turnI r g 1)) := by rw [g0_22.out.cell]; rfl
  go_wp2_with fail
  clear xg00 xg01 xg02 xg03 xg04 xg05
  refine (heldLk_row 1 p a (turnI r b 1) s (turnI r g 1) X4_22.out (by omega) (by omega)).mono ?_
  rintro e w14 ⟨rfl, hb⟩
  have sz23 := hb.size
  have B23 := Lib.hid (below_chain B22.out hb)
  have X2_23 := Lib.hid (X2_22.out.below hb)
  have X4_23 := Lib.hid (X4_22.out.below hb)
  have X11_23 := Lib.hid (X11_22.out.below hb)
  have X12_23 := Lib.hid (X12_22.out.below hb)
  have L0_23 := Lib.hid (L0_22.out.below hb)
  have w0_23 := Lib.hid (w0_22.out.below hb)
  have wr_23 := Lib.hid (wr_22.out.below hb)
  have x0_23 := Lib.hid (x0_22.out.below hb)
  have g0_23 := Lib.hid (g0_22.out.below hb)
  have gr_23 := Lib.hid (gr_22.out.below hb)
  have h0_23 := Lib.hid (h0_22.out.below hb)
  have hr_23 := Lib.hid (hr_22.out.below hb)
  clear hb B22 X2_22 X4_22 X11_22 X12_22 L0_22 w0_22 wr_22 x0_22 g0_22 gr_22 h0_22 hr_22
  go_wp2
  go_ret
  exact ⟨rfl, B23.out⟩
end Go.Proofs.Ytidpjpakodndhaa.fnExactTakeFrom
