/-
  The walk of FnExactSameGraph.
-/
import Derived.Test.YtjplkoglibagkaaGrSame2
import Derived.Test.YtjplkoglibagkaaLawGr
import Derived.Deep.RegionHeld3
import Derived.Deep.DeepCutAuto
namespace Go.Proofs.Ytjplkoglibagkaa.fnExactSameGraph
open Go.RowKit Go.Proofs.Ytjplkoglibagkaa.hexes

set_option maxRecDepth 1000000 in
set_option maxHeartbeats 8000000 in
theorem walk (A : Option Addr) (n c : Nat) (gs : List Nd) (wk cp : Int) (A' : Option Addr) (n' c' : Nat) (hs : List Nd) (wk' cp' : Int) (w : World) (hZ : IsNds w A n gs) (hZY : IsNds w A' n' hs) :
    Calls Try.prog 9 #[.agg #[.slice A n c, .int .i64 wk, .int .i64 cp], .agg #[.slice A' n' c', .int .i64 wk', .int .i64 cp']] w fun e w' => e = .returned (.bool true) ∧ Below w.heap.size w w' := by
  have Z := Lib.hid hZ.len
  have HZ := Lib.hid hZ
  have S := Lib.hid hZ.is
  have ZY := Lib.hid hZY.len
  have HZY := Lib.hid hZY
  have SY := Lib.hid hZY.is
  clear hZ hZY
  by_cases hn0 : (1048576 : Int) < ((n + outSum gs : Nat) : Int)
  · have C0 := Lib.hid (szGr_over A n c gs wk cp HZ.out (left := (1048576 : Int)) (by omega) (by omega) hn0)
    clear hn0
    go_enter Try.func9, Try.ntmps9
    go_wp2_with fail
    generalize hW : ((w.alloc _).alloc _) = W
    have BB := Lib.hid (show Below w.heap.size w W by rw [← hW]; exact (((Below.refl _ _).alloc (by first | (simp; done) | (simp; omega) | omega) _).alloc (by first | (simp; done) | (simp; omega) | omega) _))
    have NB0 := Lib.hid (show Blk W (w.heap.size) 47 #[.slice A n c, .int .i64 wk, .int .i64 cp] by rw [← hW]; exact ((Below.heap_alloc _ _ _ (by first | (simp; done) | (simp; omega))).trans (Blk.new _ _ _)))
    have NB1 := Lib.hid (show Blk W (w.heap.size + 1) 47 #[.slice A' n' c', .int .i64 wk', .int .i64 cp'] by rw [← hW]; exact ((show w.heap.size + 1 = ((w.alloc _)).heap.size by simp) ▸ Blk.new _ _ _))
    clear hW
    refine (C0.out _ (S.out.below BB.out)).mono ?_
    rintro e v0 ⟨rfl, hb0⟩
    have BB0 := Lib.hid (below_chain BB.out hb0)
    have NB0_0 := Lib.hid (NB0.out.below hb0)
    have NB1_0 := Lib.hid (NB1.out.below hb0)
    clear hb0
    go_wp2
    go_ret
    exact ⟨rfl, BB0.out⟩
  obtain ⟨lf0, hl0⟩ : ∃ q : Nat, (1048576 : Int) - ((n + outSum gs : Nat) : Int) = (q : Int) := ⟨((1048576 : Int) - ((n + outSum gs : Nat) : Int)).toNat, by omega⟩
  have C0 := Lib.hid (show ∀ W, Nds W A gs → Calls Try.prog 29 #[.agg #[.slice A n c, .int .i64 wk, .int .i64 cp], .int .i64 (1048576 : Int)] W fun e w' => e = .returned (.int .i64 (lf0 : Int)) ∧ Below W.heap.size W w' by rw [← hl0]; exact szGr_in A n c gs wk cp HZ.out (left := (1048576 : Int)) (by omega) (by omega) hn0)
  have hd0 : decide ((lf0 : Int) < 0) = false := by simp
  have os0 : n + outSum gs ≤ 1048576 := by omega
  have le0 : n ≤ 1048576 := by omega
  have ot0 : outSum gs ≤ 1048576 := by omega
  have ou0 : ∀ x ∈ gs, x.2.2.2.length ≤ 1048576 := fun x hx => Nat.le_trans (outSum_mem hx) ot0
  have lb0 : (lf0 : Int) ≤ 1048576 := by omega
  clear hn0 hl0
  by_cases hn1 : (lf0 : Int) < ((n' + outSum hs : Nat) : Int)
  · have C1 := Lib.hid (szGr_over A' n' c' hs wk' cp' HZY.out (left := (lf0 : Int)) (by omega) (by omega) hn1)
    clear hn1
    go_enter Try.func9, Try.ntmps9
    go_wp2_with fail
    generalize hW : ((w.alloc _).alloc _) = W
    have BB := Lib.hid (show Below w.heap.size w W by rw [← hW]; exact (((Below.refl _ _).alloc (by first | (simp; done) | (simp; omega) | omega) _).alloc (by first | (simp; done) | (simp; omega) | omega) _))
    have NB0 := Lib.hid (show Blk W (w.heap.size) 47 #[.slice A n c, .int .i64 wk, .int .i64 cp] by rw [← hW]; exact ((Below.heap_alloc _ _ _ (by first | (simp; done) | (simp; omega))).trans (Blk.new _ _ _)))
    have NB1 := Lib.hid (show Blk W (w.heap.size + 1) 47 #[.slice A' n' c', .int .i64 wk', .int .i64 cp'] by rw [← hW]; exact ((show w.heap.size + 1 = ((w.alloc _)).heap.size by simp) ▸ Blk.new _ _ _))
    clear hW
    refine (C0.out _ (S.out.below BB.out)).mono ?_
    rintro e v0 ⟨rfl, hb0⟩
    have BB0 := Lib.hid (below_chain BB.out hb0)
    have NB0_0 := Lib.hid (NB0.out.below hb0)
    have NB1_0 := Lib.hid (NB1.out.below hb0)
    clear hb0
    have y0_0 : v0.cell? ⟨w.heap.size + 1, 0, none⟩ = some (.slice A' n' c') := by rw [NB1_0.out.cell]; rfl
    have y0_1 : v0.cell? ⟨w.heap.size + 1, 1, none⟩ = some (.int .i64 wk') := by rw [NB1_0.out.cell]; rfl
    have y0_2 : v0.cell? ⟨w.heap.size + 1, 2, none⟩ = some (.int .i64 cp') := by rw [NB1_0.out.cell]; rfl
    go_wp2_with fail
    clear y0_0 y0_1 y0_2
    refine (C1.out _ (SY.out.below BB0.out)).mono ?_
    rintro e v1 ⟨rfl, hb1⟩
    have BB1 := Lib.hid (below_chain BB0.out hb1)
    have NB0_1 := Lib.hid (NB0_0.out.below hb1)
    have NB1_1 := Lib.hid (NB1_0.out.below hb1)
    clear hb1
    go_wp2
    go_ret
    exact ⟨rfl, BB1.out⟩
  obtain ⟨lf1, hl1⟩ : ∃ q : Nat, (lf0 : Int) - ((n' + outSum hs : Nat) : Int) = (q : Int) := ⟨((lf0 : Int) - ((n' + outSum hs : Nat) : Int)).toNat, by omega⟩
  have C1 := Lib.hid (show ∀ W, Nds W A' hs → Calls Try.prog 29 #[.agg #[.slice A' n' c', .int .i64 wk', .int .i64 cp'], .int .i64 (lf0 : Int)] W fun e w' => e = .returned (.int .i64 (lf1 : Int)) ∧ Below W.heap.size W w' by rw [← hl1]; exact szGr_in A' n' c' hs wk' cp' HZY.out (left := (lf0 : Int)) (by omega) (by omega) hn1)
  have hd1 : decide ((lf1 : Int) < 0) = false := by simp
  have os1 : n' + outSum hs ≤ 1048576 := by omega
  have le1 : n' ≤ 1048576 := by omega
  have ot1 : outSum hs ≤ 1048576 := by omega
  have ou1 : ∀ x ∈ hs, x.2.2.2.length ≤ 1048576 := fun x hx => Nat.le_trans (outSum_mem hx) ot1
  have lb1 : (lf1 : Int) ≤ 1048576 := by omega
  clear hn1 hl1
  obtain ⟨r, hr⟩ : ∃ r, sameG gs hs wk cp wk' cp' = r := ⟨_, rfl⟩
  have HR := Lib.hid hr
  clear hr
  have hrr : (r != r) = false := by simp
  go_enter Try.func9, Try.ntmps9
  go_wp2_with fail
  generalize hW : ((w.alloc _).alloc _) = W
  have hb : Below w.heap.size w W := by rw [← hW]; exact (((Below.refl _ _).alloc (by first | (simp; done) | (simp; omega) | omega) _).alloc (by first | (simp; done) | (simp; omega) | omega) _)
  have azW : W.heap.size = w.heap.size + 2 := by rw [← hW]; simp
  have NL0 := Lib.hid (show Blk W (w.heap.size) 47 #[.slice A n c, .int .i64 wk, .int .i64 cp] by rw [← hW]; exact ((Below.heap_alloc _ _ _ (by first | (simp; done) | (simp; omega))).trans (Blk.new _ _ _)))
  have NL1 := Lib.hid (show Blk W (w.heap.size + 1) 47 #[.slice A' n' c', .int .i64 wk', .int .i64 cp'] by rw [← hW]; exact ((show w.heap.size + 1 = ((w.alloc _)).heap.size by simp) ▸ Blk.new _ _ _))
  clear hW
  have AZW := Lib.hid azW
  clear azW
  have sz1 := hb.size
  have B1 := Lib.hid (hb)
  clear hb
  have L0_1 := NL0
  clear NL0
  have ltL0 : w.heap.size < W.heap.size := L0_1.out.lt
  have L1_1 := NL1
  clear NL1
  have ltL1 : w.heap.size + 1 < W.heap.size := L1_1.out.lt
  refine (C0.out _ (S.out.below B1.out)).mono ?_
  rintro e v0 ⟨rfl, hb⟩
  have sz2 := hb.size
  have B2 := Lib.hid (below_chain B1.out hb)
  have L0_2 := Lib.hid (L0_1.out.below hb)
  have L1_2 := Lib.hid (L1_1.out.below hb)
  clear hb B1 L0_1 L1_1
  have xL10 : v0.cell? ⟨w.heap.size + 1, 0, none⟩ = some (.slice A' n' c') := by rw [L1_2.out.cell]; rfl
  have xL11 : v0.cell? ⟨w.heap.size + 1, 1, none⟩ = some (.int .i64 wk') := by rw [L1_2.out.cell]; rfl
  have xL12 : v0.cell? ⟨w.heap.size + 1, 2, none⟩ = some (.int .i64 cp') := by rw [L1_2.out.cell]; rfl
  go_wp2_with fail
  clear xL10 xL11 xL12
  refine (C1.out _ (SY.out.below B2.out)).mono ?_
  rintro e v1 ⟨rfl, hb⟩
  have sz3 := hb.size
  have B3 := Lib.hid (below_chain B2.out hb)
  have L0_3 := Lib.hid (L0_2.out.below hb)
  have L1_3 := Lib.hid (L1_2.out.below hb)
  clear hb B2 L0_2 L1_2
  clear C0 C1
  go_upto_region 8 with fail
  have k0 : v1.cell? ⟨w.heap.size, 0, none⟩ = some (.slice A n c) := by rw [L0_3.out.cell]; rfl
  have k1 : v1.cell? ⟨w.heap.size, 1, none⟩ = some (.int .i64 wk) := by rw [L0_3.out.cell]; rfl
  have k2 : v1.cell? ⟨w.heap.size, 2, none⟩ = some (.int .i64 cp) := by rw [L0_3.out.cell]; rfl
  have k3 : v1.cell? ⟨w.heap.size + 1, 0, none⟩ = some (.slice A' n' c') := by rw [L1_3.out.cell]; rfl
  have k4 : v1.cell? ⟨w.heap.size + 1, 1, none⟩ = some (.int .i64 wk') := by rw [L1_3.out.cell]; rfl
  have k5 : v1.cell? ⟨w.heap.size + 1, 2, none⟩ = some (.int .i64 cp') := by rw [L1_3.out.cell]; rfl
  have kb := Below.refl v1.heap.size v1
  have ks := (S.out.below B3.out)
  have ky := (SY.out.below B3.out)
  go_cut [6] (fun t wx => t = .bool r ∧ Below v1.heap.size v1 wx)
  case first =>
    go_region_held3 (fun w' => w'.cell? ⟨w.heap.size, 0, none⟩ = some (.slice A n c) ∧ w'.cell? ⟨w.heap.size, 1, none⟩ = some (.int .i64 wk) ∧ w'.cell? ⟨w.heap.size, 2, none⟩ = some (.int .i64 cp) ∧ w'.cell? ⟨w.heap.size + 1, 0, none⟩ = some (.slice A' n' c') ∧ w'.cell? ⟨w.heap.size + 1, 1, none⟩ = some (.int .i64 wk') ∧ w'.cell? ⟨w.heap.size + 1, 2, none⟩ = some (.int .i64 cp') ∧ Nds w' A gs ∧ Nds w' A' hs ∧ Below v1.heap.size v1 w')
      (((try go_split_ands); refine ⟨?_, ?_, ?_, ?_, ?_, ?_, ?_, ?_, ?_⟩ <;> (repeat (first | with_reducible assumption | with_reducible refine drew_keep ?_ | with_reducible refine below_keep hbd ?_ | with_reducible refine nds_drew ?_ | with_reducible refine Nds.below ?_ hbd | with_reducible refine Below.drew ?_ | with_reducible refine below_chain ?_ hbd))))
      (first | (go_at_call 30; (try go_split_ands); (first | ((with_reducible refine (toGr_row n gs Z.out A c wk cp _ (by assumption) le0 ou0).mono ?_); rintro e w5 ⟨A5, c5, vs5, f5, rfl, s5, hbd⟩) | ((with_reducible refine (toGr_row n' hs ZY.out A' c' wk' cp' _ (by assumption) le1 ou1).mono ?_); rintro e w6 ⟨A6, c6, vs6, f6, rfl, s6, hbd⟩; have s7 := s5.below hbd))) | (go_at_call 39; (try go_split_ands); (with_reducible refine (specSameG_is Z.out ZY.out ou0 HR.out _ _ _ _ _ s7.nds s6.nds le0).mono ?_); rintro e w8 ⟨rfl, hbd⟩))
    all_goals (
      go_wp2_with fail
      go_meet
      refine ⟨rfl, ?_⟩
      (try go_split_ands)
      assumption)
  case rest =>
  obtain ⟨rfl, hb⟩ := hcut
  clear kb ks ky k0 k1 k2 k3 k4 k5
  obtain ⟨u0, hwc⟩ : ∃ z, z = wc := ⟨_, rfl⟩
  subst hwc
  have sz4 := hb.size
  have B4 := Lib.hid (below_chain B3.out hb)
  have L0_4 := Lib.hid (L0_3.out.below hb)
  have L1_4 := Lib.hid (L1_3.out.below hb)
  clear hb B3 L0_3 L1_3
  have xL00 : u0.cell? ⟨w.heap.size, 0, none⟩ = some (.slice A n c) := by rw [L0_4.out.cell]; rfl
  have xL01 : u0.cell? ⟨w.heap.size, 1, none⟩ = some (.int .i64 wk) := by rw [L0_4.out.cell]; rfl
  have xL02 : u0.cell? ⟨w.heap.size, 2, none⟩ = some (.int .i64 cp) := by rw [L0_4.out.cell]; rfl
  go_wp2_with fail
  clear xL00 xL01 xL02
  refine (toGr_row n gs Z.out A c wk cp _ (S.out.below B4.out) le0 ou0).mono ?_
  rintro e w3 ⟨A3, c3, vs3, f3, rfl, r3, hb⟩
  have sz5 := hb.size
  have B5 := Lib.hid (below_chain B4.out hb)
  have L0_5 := Lib.hid (L0_4.out.below hb)
  have L1_5 := Lib.hid (L1_4.out.below hb)
  clear hb B4 L0_4 L1_4
  have X3_5 := Lib.hid r3
  clear r3
  obtain ⟨V3, hW⟩ : ∃ z, (w3.alloc (.cells #[.slice A3 n c3, .int .i64 wk, .int .i64 cp] 26)) = z := ⟨_, rfl⟩
  have hb : Below w3.heap.size w3 V3 := by rw [← hW]; exact ((Below.refl _ _).alloc (by first | (simp; done) | (simp; omega) | omega) _)
  have az : V3.heap.size = w3.heap.size + 1 := by rw [← hW]; simp
  have Nx0 := Lib.hid (show Blk V3 (w3.heap.size) 26 #[.slice A3 n c3, .int .i64 wk, .int .i64 cp] by rw [← hW]; exact (Blk.new _ _ _))
  have AZV3 := Lib.hid az
  clear az
  have sz6 := hb.size
  have B6 := Lib.hid (below_chain B5.out hb)
  have X3_6 := Lib.hid (X3_5.out.below hb)
  have L0_6 := Lib.hid (L0_5.out.below hb)
  have L1_6 := Lib.hid (L1_5.out.below hb)
  clear hb B5 X3_5 L0_5 L1_5
  have x0_6 := Nx0
  clear Nx0
  have ltx0 : w3.heap.size < V3.heap.size := x0_6.out.lt
  have xL10 : V3.cell? ⟨w.heap.size + 1, 0, none⟩ = some (.slice A' n' c') := by rw [L1_6.out.cell]; rfl
  have xL11 : V3.cell? ⟨w.heap.size + 1, 1, none⟩ = some (.int .i64 wk') := by rw [L1_6.out.cell]; rfl
  have xL12 : V3.cell? ⟨w.heap.size + 1, 2, none⟩ = some (.int .i64 cp') := by rw [L1_6.out.cell]; rfl
  go_wp2_with fail
  clear hW xL10 xL11 xL12
  refine (toGr_row n' hs ZY.out A' c' wk' cp' _ (SY.out.below B6.out) le1 ou1).mono ?_
  rintro e w4 ⟨A4, c4, vs4, f4, rfl, r4, hb⟩
  have sz7 := hb.size
  have B7 := Lib.hid (below_chain B6.out hb)
  have X3_7 := Lib.hid (X3_6.out.below hb)
  have L0_7 := Lib.hid (L0_6.out.below hb)
  have L1_7 := Lib.hid (L1_6.out.below hb)
  have x0_7 := Lib.hid (x0_6.out.below hb)
  clear hb B6 X3_6 L0_6 L1_6 x0_6
  have X4_7 := Lib.hid r4
  clear r4
  obtain ⟨V4, hW⟩ : ∃ z, (w4.alloc (.cells #[.slice A4 n' c4, .int .i64 wk', .int .i64 cp'] 26)) = z := ⟨_, rfl⟩
  have hb : Below w4.heap.size w4 V4 := by rw [← hW]; exact ((Below.refl _ _).alloc (by first | (simp; done) | (simp; omega) | omega) _)
  have az : V4.heap.size = w4.heap.size + 1 := by rw [← hW]; simp
  have Nx1 := Lib.hid (show Blk V4 (w4.heap.size) 26 #[.slice A4 n' c4, .int .i64 wk', .int .i64 cp'] by rw [← hW]; exact (Blk.new _ _ _))
  have AZV4 := Lib.hid az
  clear az
  have sz8 := hb.size
  have B8 := Lib.hid (below_chain B7.out hb)
  have X3_8 := Lib.hid (X3_7.out.below hb)
  have X4_8 := Lib.hid (X4_7.out.below hb)
  have L0_8 := Lib.hid (L0_7.out.below hb)
  have L1_8 := Lib.hid (L1_7.out.below hb)
  have x0_8 := Lib.hid (x0_7.out.below hb)
  clear hb B7 X3_7 X4_7 L0_7 L1_7 x0_7
  have x1_8 := Nx1
  clear Nx1
  have ltx1 : w4.heap.size < V4.heap.size := x1_8.out.lt
  have xx00 : V4.cell? ⟨w3.heap.size, 0, none⟩ = some (.slice A3 n c3) := by rw [x0_8.out.cell]; rfl
  have xx01 : V4.cell? ⟨w3.heap.size, 1, none⟩ = some (.int .i64 wk) := by rw [x0_8.out.cell]; rfl
  have xx02 : V4.cell? ⟨w3.heap.size, 2, none⟩ = some (.int .i64 cp) := by rw [x0_8.out.cell]; rfl
  have xx10 : V4.cell? ⟨w4.heap.size, 0, none⟩ = some (.slice A4 n' c4) := by rw [x1_8.out.cell]; rfl
  have xx11 : V4.cell? ⟨w4.heap.size, 1, none⟩ = some (.int .i64 wk') := by rw [x1_8.out.cell]; rfl
  have xx12 : V4.cell? ⟨w4.heap.size, 2, none⟩ = some (.int .i64 cp') := by rw [x1_8.out.cell]; rfl
  go_wp2_with fail
  clear hW xx00 xx01 xx02 xx10 xx11 xx12
  refine (implSameG_is Z.out ZY.out ou0 HR.out A3 A4 c3 c4 _ X3_8.out.nds X4_8.out.nds le0).mono ?_
  rintro e w5 ⟨rfl, hb⟩
  have sz9 := hb.size
  have B9 := Lib.hid (below_chain B8.out hb)
  have X3_9 := Lib.hid (X3_8.out.below hb)
  have X4_9 := Lib.hid (X4_8.out.below hb)
  have L0_9 := Lib.hid (L0_8.out.below hb)
  have L1_9 := Lib.hid (L1_8.out.below hb)
  have x0_9 := Lib.hid (x0_8.out.below hb)
  have x1_9 := Lib.hid (x1_8.out.below hb)
  clear hb B8 X3_8 X4_8 L0_8 L1_8 x0_8 x1_8
  go_upto_region 14 with fail
  have k0 : w5.cell? ⟨w3.heap.size, 0, none⟩ = some (.slice A3 n c3) := by rw [x0_9.out.cell]; rfl
  have k1 : w5.cell? ⟨w3.heap.size, 1, none⟩ = some (.int .i64 wk) := by rw [x0_9.out.cell]; rfl
  have k2 : w5.cell? ⟨w3.heap.size, 2, none⟩ = some (.int .i64 cp) := by rw [x0_9.out.cell]; rfl
  have k3 : w5.cell? ⟨w.heap.size, 0, none⟩ = some (.slice A n c) := by rw [L0_9.out.cell]; rfl
  have k4 : w5.cell? ⟨w.heap.size, 1, none⟩ = some (.int .i64 wk) := by rw [L0_9.out.cell]; rfl
  have k5 : w5.cell? ⟨w.heap.size, 2, none⟩ = some (.int .i64 cp) := by rw [L0_9.out.cell]; rfl
  have kb := Below.refl w5.heap.size w5
  have ks := (S.out.below B9.out)
  have kx := X3_9.out
  go_cut [39] (fun t wx => t = .bool false ∧ Below w5.heap.size w5 wx)
  case first =>
    go_region_held3 (fun w' => w'.cell? ⟨w3.heap.size, 0, none⟩ = some (.slice A3 n c3) ∧ w'.cell? ⟨w3.heap.size, 1, none⟩ = some (.int .i64 wk) ∧ w'.cell? ⟨w3.heap.size, 2, none⟩ = some (.int .i64 cp) ∧ w'.cell? ⟨w.heap.size, 0, none⟩ = some (.slice A n c) ∧ w'.cell? ⟨w.heap.size, 1, none⟩ = some (.int .i64 wk) ∧ w'.cell? ⟨w.heap.size, 2, none⟩ = some (.int .i64 cp) ∧ Nds w' A gs ∧ Below w5.heap.size w5 w')
      (((try go_split_ands); refine ⟨?_, ?_, ?_, ?_, ?_, ?_, ?_, ?_⟩ <;> (repeat (first | with_reducible assumption | with_reducible refine drew_keep ?_ | with_reducible refine below_keep hbd ?_ | with_reducible refine nds_drew ?_ | with_reducible refine Nds.below ?_ hbd | with_reducible refine Below.drew ?_ | with_reducible refine below_chain ?_ hbd))))
      (first | (go_at_call 30; (try go_split_ands); (with_reducible refine (toGr_row n gs Z.out A c wk cp _ (by assumption) le0 ou0).mono ?_); rintro e w5 ⟨A5, c5, vs5, f5, rfl, s5, hbd⟩) | (go_at_call 31; (try go_split_ands); (with_reducible refine (eqGr_row wk cp (GrRows.below kx (by assumption)) s5 le0 ou0).mono ?_); rintro e w6 ⟨rfl, hbd⟩))
    all_goals (
      go_wp2_with fail
      go_meet
      refine ⟨rfl, ?_⟩
      (try go_split_ands)
      assumption)
  case rest =>
  obtain ⟨rfl, hb⟩ := hcut
  clear kb ks kx k0 k1 k2 k3 k4 k5
  obtain ⟨u3, hwc⟩ : ∃ z, z = wc := ⟨_, rfl⟩
  subst hwc
  have sz10 := hb.size
  have B10 := Lib.hid (below_chain B9.out hb)
  have X3_10 := Lib.hid (X3_9.out.below hb)
  have X4_10 := Lib.hid (X4_9.out.below hb)
  have L0_10 := Lib.hid (L0_9.out.below hb)
  have L1_10 := Lib.hid (L1_9.out.below hb)
  have x0_10 := Lib.hid (x0_9.out.below hb)
  have x1_10 := Lib.hid (x1_9.out.below hb)
  clear hb B9 X3_9 X4_9 L0_9 L1_9 x0_9 x1_9
  go_upto_region 16 with fail
  have k0 : u3.cell? ⟨w4.heap.size, 0, none⟩ = some (.slice A4 n' c4) := by rw [x1_10.out.cell]; rfl
  have k1 : u3.cell? ⟨w4.heap.size, 1, none⟩ = some (.int .i64 wk') := by rw [x1_10.out.cell]; rfl
  have k2 : u3.cell? ⟨w4.heap.size, 2, none⟩ = some (.int .i64 cp') := by rw [x1_10.out.cell]; rfl
  have k3 : u3.cell? ⟨w.heap.size + 1, 0, none⟩ = some (.slice A' n' c') := by rw [L1_10.out.cell]; rfl
  have k4 : u3.cell? ⟨w.heap.size + 1, 1, none⟩ = some (.int .i64 wk') := by rw [L1_10.out.cell]; rfl
  have k5 : u3.cell? ⟨w.heap.size + 1, 2, none⟩ = some (.int .i64 cp') := by rw [L1_10.out.cell]; rfl
  have kb := Below.refl u3.heap.size u3
  have ks := (SY.out.below B10.out)
  have kx := X4_10.out
  go_cut [44] (fun t wx => t = .bool false ∧ Below u3.heap.size u3 wx)
  case first =>
    go_region_held3 (fun w' => w'.cell? ⟨w4.heap.size, 0, none⟩ = some (.slice A4 n' c4) ∧ w'.cell? ⟨w4.heap.size, 1, none⟩ = some (.int .i64 wk') ∧ w'.cell? ⟨w4.heap.size, 2, none⟩ = some (.int .i64 cp') ∧ w'.cell? ⟨w.heap.size + 1, 0, none⟩ = some (.slice A' n' c') ∧ w'.cell? ⟨w.heap.size + 1, 1, none⟩ = some (.int .i64 wk') ∧ w'.cell? ⟨w.heap.size + 1, 2, none⟩ = some (.int .i64 cp') ∧ Nds w' A' hs ∧ Below u3.heap.size u3 w')
      (((try go_split_ands); refine ⟨?_, ?_, ?_, ?_, ?_, ?_, ?_, ?_⟩ <;> (repeat (first | with_reducible assumption | with_reducible refine drew_keep ?_ | with_reducible refine below_keep hbd ?_ | with_reducible refine nds_drew ?_ | with_reducible refine Nds.below ?_ hbd | with_reducible refine Below.drew ?_ | with_reducible refine below_chain ?_ hbd))))
      (first | (go_at_call 30; (try go_split_ands); (with_reducible refine (toGr_row n' hs ZY.out A' c' wk' cp' _ (by assumption) le1 ou1).mono ?_); rintro e w5 ⟨A5, c5, vs5, f5, rfl, s5, hbd⟩) | (go_at_call 31; (try go_split_ands); (with_reducible refine (eqGr_row wk' cp' (GrRows.below kx (by assumption)) s5 le1 ou1).mono ?_); rintro e w6 ⟨rfl, hbd⟩))
    all_goals (
      go_wp2_with fail
      go_meet
      refine ⟨rfl, ?_⟩
      (try go_split_ands)
      assumption)
  case rest =>
  obtain ⟨rfl, hb⟩ := hcut
  clear kb ks kx k0 k1 k2 k3 k4 k5
  obtain ⟨u4, hwc⟩ : ∃ z, z = wc := ⟨_, rfl⟩
  subst hwc
  have sz11 := hb.size
  have B11 := Lib.hid (below_chain B10.out hb)
  have X3_11 := Lib.hid (X3_10.out.below hb)
  have X4_11 := Lib.hid (X4_10.out.below hb)
  have L0_11 := Lib.hid (L0_10.out.below hb)
  have L1_11 := Lib.hid (L1_10.out.below hb)
  have x0_11 := Lib.hid (x0_10.out.below hb)
  have x1_11 := Lib.hid (x1_10.out.below hb)
  clear hb B10 X3_10 X4_10 L0_10 L1_10 x0_10 x1_10
  go_wp2
  go_ret
  exact ⟨rfl, B11.out⟩
end Go.Proofs.Ytjplkoglibagkaa.fnExactSameGraph
