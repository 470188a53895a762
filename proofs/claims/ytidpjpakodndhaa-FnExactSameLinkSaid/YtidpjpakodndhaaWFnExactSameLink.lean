/-
  The walk of FnExactSameLink.
-/
import Derived.Test.YtidpjpakodndhaaLkBase
import Derived.Test.YtidpjpakodndhaaLkCame
import Derived.Test.YtidpjpakodndhaaLkPlain
import Derived.Test.YtidpjpakodndhaaImplLk1
import Derived.Test.YtidpjpakodndhaaSpecLk1
import Derived.Test.YtidpjpakodndhaaLkBack
import Derived.Deep.RegionHeld3
import Derived.Deep.DeepCutAuto
namespace Go.Proofs.Ytidpjpakodndhaa.fnExactSameLink
open Go.RowKit Go.Proofs.Ytidpjpakodndhaa.hexes

theorem specSame_is (n n' : Nat) (zs ys : List Rc) (hz : zs.length = n) (hy : ys.length = n') (A A' : Option Addr) (c c' : Nat) (p a b s g p' a' b' s' g' : Int) (w : World) (h1 : Rcs w A zs) (h2 : Rcs w A' ys) (hn : n ≤ 4194304) {r : Bool} (hr : sameLk p a b s g p' a' b' s' g' zs ys = r) :
    Calls Try.prog 40 #[.agg #[.int .i64 p, .slice A n c, .int .i64 a, .int .i64 b, .int .i64 s, .int .i64 g], .agg #[.int .i64 p', .slice A' n' c', .int .i64 a', .int .i64 b', .int .i64 s', .int .i64 g']] w fun e w' => e = .returned (.bool r) ∧ Below w.heap.size w w' := by
  subst hr; exact specSame_any n n' zs ys hz hy A A' c c' p a b s g p' a' b' s' g' w h1 h2 hn
theorem implSame_is (n n' : Nat) (zs ys : List Rc) (hz : zs.length = n) (hy : ys.length = n') (A A' : Option Addr) (c c' : Nat) (p a b s g p' a' b' s' g' : Int) (w : World) (h1 : Rcs w A zs) (h2 : Rcs w A' ys) (hn : n ≤ 4194304) {r : Bool} (hr : sameLk p a b s g p' a' b' s' g' zs ys = r) :
    Calls Try.prog 30 #[.agg #[.int .i64 p, .slice A n c, .int .i64 a, .int .i64 b, .int .i64 s, .int .i64 g], .agg #[.int .i64 p', .slice A' n' c', .int .i64 a', .int .i64 b', .int .i64 s', .int .i64 g']] w fun e w' => e = .returned (.bool r) ∧ Below w.heap.size w w' := by
  subst hr; exact implSame_any n n' zs ys hz hy A A' c c' p a b s g p' a' b' s' g' w h1 h2 hn

set_option maxRecDepth 1000000 in
set_option maxHeartbeats 8000000 in
theorem walk (A : Option Addr) (n c : Nat) (zs : List Rc) (p a b s g : Int) (A' : Option Addr) (n' c' : Nat) (ys : List Rc) (p' a' b' s' g' : Int) (w : World) (hZ : IsRcs w A n zs) (_hGZ : g ≤ 9223372036854775807) (hZY : IsRcs w A' n' ys) (_hGZY : g' ≤ 9223372036854775807) :
    Calls Try.prog 11 #[.agg #[.int .i64 p, .slice A n c, .int .i64 a, .int .i64 b, .int .i64 s, .int .i64 g], .agg #[.int .i64 p', .slice A' n' c', .int .i64 a', .int .i64 b', .int .i64 s', .int .i64 g']] w fun e w' => e = .returned (.bool true) ∧ Below w.heap.size w w' := by
  have Z := Lib.hid hZ.len
  have maxZ := hZ.max
  have S := Lib.hid hZ.rcs
  have ZY := Lib.hid hZY.len
  have maxZY := hZY.max
  have SY := Lib.hid hZY.rcs
  clear hZ hZY
  by_cases hn0 : (1048576 : Int) < (n : Int)
  · have C0 := Lib.hid (fun W => szLk_over A n c p a b s g (1048576) (by omega) (by omega) maxZ hn0 W)
    go_enter Try.func11, Try.ntmps11
    go_wp2_with fail
    generalize hW : ((w.alloc _).alloc _) = W
    have BB := Lib.hid (show Below w.heap.size w W by rw [← hW]; exact (((Below.refl _ _).alloc (by first | (simp; done) | (simp; omega) | omega) _).alloc (by first | (simp; done) | (simp; omega) | omega) _))
    have NB0 := Lib.hid (show Blk W (w.heap.size) 52 #[.int .i64 p, .slice A n c, .int .i64 a, .int .i64 b, .int .i64 s, .int .i64 g] by rw [← hW]; exact ((Below.heap_alloc _ _ _ (by first | (simp; done) | (simp; omega))).trans (Blk.new _ _ _)))
    have NB1 := Lib.hid (show Blk W (w.heap.size + 1) 52 #[.int .i64 p', .slice A' n' c', .int .i64 a', .int .i64 b', .int .i64 s', .int .i64 g'] by rw [← hW]; exact ((show w.heap.size + 1 = ((w.alloc _)).heap.size by simp) ▸ Blk.new _ _ _))
    clear hW
    refine (C0.out _).mono ?_
    rintro e v0 ⟨rfl, hb0⟩
    have BB0 := Lib.hid (below_chain BB.out hb0)
    have NB0_0 := Lib.hid (NB0.out.below hb0)
    have NB1_0 := Lib.hid (NB1.out.below hb0)
    clear hb0
    go_wp2
    go_ret
    exact ⟨rfl, BB0.out⟩
  have C0 := Lib.hid (fun W => szLk_in A n c p a b s g (1048576) (by omega) (by omega) maxZ hn0 W)
  have hd0 : decide ((1048576 : Int) - (n : Int) < 0) = false := by simp; omega
  by_cases hn1 : ((1048576 : Int) - (n : Int) : Int) < (n' : Int)
  · have C1 := Lib.hid (fun W => szLk_over A' n' c' p' a' b' s' g' ((1048576 : Int) - (n : Int)) (by omega) (by omega) maxZY hn1 W)
    go_enter Try.func11, Try.ntmps11
    go_wp2_with fail
    generalize hW : ((w.alloc _).alloc _) = W
    have BB := Lib.hid (show Below w.heap.size w W by rw [← hW]; exact (((Below.refl _ _).alloc (by first | (simp; done) | (simp; omega) | omega) _).alloc (by first | (simp; done) | (simp; omega) | omega) _))
    have NB0 := Lib.hid (show Blk W (w.heap.size) 52 #[.int .i64 p, .slice A n c, .int .i64 a, .int .i64 b, .int .i64 s, .int .i64 g] by rw [← hW]; exact ((Below.heap_alloc _ _ _ (by first | (simp; done) | (simp; omega))).trans (Blk.new _ _ _)))
    have NB1 := Lib.hid (show Blk W (w.heap.size + 1) 52 #[.int .i64 p', .slice A' n' c', .int .i64 a', .int .i64 b', .int .i64 s', .int .i64 g'] by rw [← hW]; exact ((show w.heap.size + 1 = ((w.alloc _)).heap.size by simp) ▸ Blk.new _ _ _))
    clear hW
    refine (C0.out _).mono ?_
    rintro e v0 ⟨rfl, hb0⟩
    have BB0 := Lib.hid (below_chain BB.out hb0)
    have NB0_0 := Lib.hid (NB0.out.below hb0)
    have NB1_0 := Lib.hid (NB1.out.below hb0)
    clear hb0
    have y0_0 : v0.cell? ⟨w.heap.size + 1, 0, none⟩ = some (.int .i64 p') := by rw [NB1_0.out.cell]; rfl
    have y0_1 : v0.cell? ⟨w.heap.size + 1, 1, none⟩ = some (.slice A' n' c') := by rw [NB1_0.out.cell]; rfl
    have y0_2 : v0.cell? ⟨w.heap.size + 1, 2, none⟩ = some (.int .i64 a') := by rw [NB1_0.out.cell]; rfl
    have y0_3 : v0.cell? ⟨w.heap.size + 1, 3, none⟩ = some (.int .i64 b') := by rw [NB1_0.out.cell]; rfl
    have y0_4 : v0.cell? ⟨w.heap.size + 1, 4, none⟩ = some (.int .i64 s') := by rw [NB1_0.out.cell]; rfl
    have y0_5 : v0.cell? ⟨w.heap.size + 1, 5, none⟩ = some (.int .i64 g') := by rw [NB1_0.out.cell]; rfl
    go_wp2_with fail
    refine (C1.out _).mono ?_
    rintro e v1 ⟨rfl, hb1⟩
    have BB1 := Lib.hid (below_chain BB0.out hb1)
    have NB0_1 := Lib.hid (NB0_0.out.below hb1)
    have NB1_1 := Lib.hid (NB1_0.out.below hb1)
    clear hb1
    go_wp2
    go_ret
    exact ⟨rfl, BB1.out⟩
  have C1 := Lib.hid (fun W => szLk_in A' n' c' p' a' b' s' g' ((1048576 : Int) - (n : Int)) (by omega) (by omega) maxZY hn1 W)
  have hd1 : decide ((1048576 : Int) - (n : Int) - (n' : Int) < 0) = false := by simp; omega
  have le0 : n ≤ 1048576 := by omega
  have le1 : n' ≤ 1048576 := by omega
  obtain ⟨r, hr⟩ : ∃ r, sameLk p a b s g p' a' b' s' g' zs ys = r := ⟨_, rfl⟩
  have HR := Lib.hid hr
  clear hr
  have hrr : (r != r) = false := by simp
  go_enter Try.func11, Try.ntmps11
  go_wp2_with fail
  generalize hW : ((w.alloc _).alloc _) = W
  have hb : Below w.heap.size w W := by rw [← hW]; exact (((Below.refl _ _).alloc (by first | (simp; done) | (simp; omega) | omega) _).alloc (by first | (simp; done) | (simp; omega) | omega) _)
  have azW : W.heap.size = w.heap.size + 2 := by rw [← hW]; simp
  have NL0 := Lib.hid (show Blk W (w.heap.size) 52 #[.int .i64 p, .slice A n c, .int .i64 a, .int .i64 b, .int .i64 s, .int .i64 g] by rw [← hW]; exact ((Below.heap_alloc _ _ _ (by first | (simp; done) | (simp; omega))).trans (Blk.new _ _ _)))
  have NL1 := Lib.hid (show Blk W (w.heap.size + 1) 52 #[.int .i64 p', .slice A' n' c', .int .i64 a', .int .i64 b', .int .i64 s', .int .i64 g'] by rw [← hW]; exact ((show w.heap.size + 1 = ((w.alloc _)).heap.size by simp) ▸ Blk.new _ _ _))
  clear hW
  have AZW := Lib.hid azW
  clear azW
  have sz1 := hb.size
  have B1 := Lib.hid (hb)
  clear hb
  have L0_1 := NL0
  clear NL0
  have ltL0 : w.heap.size < W.heap.size := L0_1.out.lt
  have L1_1 := NL1
  clear NL1
  have ltL1 : w.heap.size + 1 < W.heap.size := L1_1.out.lt
  refine (C0.out _).mono ?_
  rintro e v0 ⟨rfl, hb⟩
  have sz2 := hb.size
  have B2 := Lib.hid (below_chain B1.out hb)
  have L0_2 := Lib.hid (L0_1.out.below hb)
  have L1_2 := Lib.hid (L1_1.out.below hb)
  clear hb B1 L0_1 L1_1
  have xL10 : v0.cell? ⟨w.heap.size + 1, 0, none⟩ = some (.int .i64 p') := by rw [L1_2.out.cell]; rfl
  have xL11 : v0.cell? ⟨w.heap.size + 1, 1, none⟩ = some (.slice A' n' c') := by rw [L1_2.out.cell]; rfl
  have xL12 : v0.cell? ⟨w.heap.size + 1, 2, none⟩ = some (.int .i64 a') := by rw [L1_2.out.cell]; rfl
  have xL13 : v0.cell? ⟨w.heap.size + 1, 3, none⟩ = some (.int .i64 b') := by rw [L1_2.out.cell]; rfl
  have xL14 : v0.cell? ⟨w.heap.size + 1, 4, none⟩ = some (.int .i64 s') := by rw [L1_2.out.cell]; rfl
  have xL15 : v0.cell? ⟨w.heap.size + 1, 5, none⟩ = some (.int .i64 g') := by rw [L1_2.out.cell]; rfl
  go_wp2_with fail
  clear xL10 xL11 xL12 xL13 xL14 xL15
  refine (C1.out _).mono ?_
  rintro e v1 ⟨rfl, hb⟩
  have sz3 := hb.size
  have B3 := Lib.hid (below_chain B2.out hb)
  have L0_3 := Lib.hid (L0_2.out.below hb)
  have L1_3 := Lib.hid (L1_2.out.below hb)
  clear hb B2 L0_2 L1_2
  clear C0 C1
  go_upto_region 8 with fail
  have k0 : v1.cell? ⟨w.heap.size, 0, none⟩ = some (.int .i64 p) := by rw [L0_3.out.cell]; rfl
  have k1 : v1.cell? ⟨w.heap.size, 1, none⟩ = some (.slice A n c) := by rw [L0_3.out.cell]; rfl
  have k2 : v1.cell? ⟨w.heap.size, 2, none⟩ = some (.int .i64 a) := by rw [L0_3.out.cell]; rfl
  have k3 : v1.cell? ⟨w.heap.size, 3, none⟩ = some (.int .i64 b) := by rw [L0_3.out.cell]; rfl
  have k4 : v1.cell? ⟨w.heap.size, 4, none⟩ = some (.int .i64 s) := by rw [L0_3.out.cell]; rfl
  have k5 : v1.cell? ⟨w.heap.size, 5, none⟩ = some (.int .i64 g) := by rw [L0_3.out.cell]; rfl
  have k6 : v1.cell? ⟨w.heap.size + 1, 0, none⟩ = some (.int .i64 p') := by rw [L1_3.out.cell]; rfl
  have k7 : v1.cell? ⟨w.heap.size + 1, 1, none⟩ = some (.slice A' n' c') := by rw [L1_3.out.cell]; rfl
  have k8 : v1.cell? ⟨w.heap.size + 1, 2, none⟩ = some (.int .i64 a') := by rw [L1_3.out.cell]; rfl
  have k9 : v1.cell? ⟨w.heap.size + 1, 3, none⟩ = some (.int .i64 b') := by rw [L1_3.out.cell]; rfl
  have k10 : v1.cell? ⟨w.heap.size + 1, 4, none⟩ = some (.int .i64 s') := by rw [L1_3.out.cell]; rfl
  have k11 : v1.cell? ⟨w.heap.size + 1, 5, none⟩ = some (.int .i64 g') := by rw [L1_3.out.cell]; rfl
  have kb := Below.refl v1.heap.size v1
  have ks := (S.out.below B3.out)
  have ky := (SY.out.below B3.out)
  go_cut [6] (fun t wx => t = .bool r ∧ Below v1.heap.size v1 wx)
  case first =>
    go_region_held3 (fun w' => w'.cell? ⟨w.heap.size, 0, none⟩ = some (.int .i64 p) ∧ w'.cell? ⟨w.heap.size, 1, none⟩ = some (.slice A n c) ∧ w'.cell? ⟨w.heap.size, 2, none⟩ = some (.int .i64 a) ∧ w'.cell? ⟨w.heap.size, 3, none⟩ = some (.int .i64 b) ∧ w'.cell? ⟨w.heap.size, 4, none⟩ = some (.int .i64 s) ∧ w'.cell? ⟨w.heap.size, 5, none⟩ = some (.int .i64 g) ∧ w'.cell? ⟨w.heap.size + 1, 0, none⟩ = some (.int .i64 p') ∧ w'.cell? ⟨w.heap.size + 1, 1, none⟩ = some (.slice A' n' c') ∧ w'.cell? ⟨w.heap.size + 1, 2, none⟩ = some (.int .i64 a') ∧ w'.cell? ⟨w.heap.size + 1, 3, none⟩ = some (.int .i64 b') ∧ w'.cell? ⟨w.heap.size + 1, 4, none⟩ = some (.int .i64 s') ∧ w'.cell? ⟨w.heap.size + 1, 5, none⟩ = some (.int .i64 g') ∧ Rcs w' A zs ∧ Rcs w' A' ys ∧ Below v1.heap.size v1 w')
      (((try go_split_ands); refine ⟨?_, ?_, ?_, ?_, ?_, ?_, ?_, ?_, ?_, ?_, ?_, ?_, ?_, ?_, ?_⟩ <;> (repeat (first | with_reducible assumption | with_reducible refine drew_keep ?_ | with_reducible refine below_keep hbd ?_ | with_reducible refine rcs_drew ?_ | with_reducible refine Rcs.below ?_ hbd | with_reducible refine Below.drew ?_ | with_reducible refine below_chain ?_ hbd))))
      (first | (go_at_call 37; (try go_split_ands); (first | ((with_reducible refine (toLk_row A n c zs Z.out p a b s g _ (by assumption) le0).mono ?_); rintro e w5 ⟨A5, c5, rfl, s5, hbd⟩) | ((with_reducible refine (toLk_row A' n' c' ys ZY.out p' a' b' s' g' _ (by assumption) le1).mono ?_); rintro e w6 ⟨A6, c6, rfl, s6, hbd⟩; have s7 := s5.below hbd))) | (go_at_call 40; (try go_split_ands); (with_reducible refine (specSame_is n n' zs ys Z.out ZY.out _ _ _ _ p a b s g p' a' b' s' g' _ s7.rc s6.rc (by omega) HR.out).mono ?_); rintro e w8 ⟨rfl, hbd⟩))
    all_goals (
      go_wp2_with fail
      go_meet
      refine ⟨rfl, ?_⟩
      (try go_split_ands)
      assumption)
  case rest =>
  obtain ⟨rfl, hb⟩ := hcut
  clear kb ks ky k0 k1 k2 k3 k4 k5 k6 k7 k8 k9 k10 k11
  obtain ⟨u0, hwc⟩ : ∃ z, z = wc := ⟨_, rfl⟩
  subst hwc
  have sz4 := hb.size
  have B4 := Lib.hid (below_chain B3.out hb)
  have L0_4 := Lib.hid (L0_3.out.below hb)
  have L1_4 := Lib.hid (L1_3.out.below hb)
  clear hb B3 L0_3 L1_3
  have xL00 : u0.cell? ⟨w.heap.size, 0, none⟩ = some (.int .i64 p) := by rw [L0_4.out.cell]; rfl
  have xL01 : u0.cell? ⟨w.heap.size, 1, none⟩ = some (.slice A n c) := by rw [L0_4.out.cell]; rfl
  have xL02 : u0.cell? ⟨w.heap.size, 2, none⟩ = some (.int .i64 a) := by rw [L0_4.out.cell]; rfl
  have xL03 : u0.cell? ⟨w.heap.size, 3, none⟩ = some (.int .i64 b) := by rw [L0_4.out.cell]; rfl
  have xL04 : u0.cell? ⟨w.heap.size, 4, none⟩ = some (.int .i64 s) := by rw [L0_4.out.cell]; rfl
  have xL05 : u0.cell? ⟨w.heap.size, 5, none⟩ = some (.int .i64 g) := by rw [L0_4.out.cell]; rfl
  go_wp2_with fail
  clear xL00 xL01 xL02 xL03 xL04 xL05
  refine (toLk_row A n c zs Z.out p a b s g _ (S.out.below B4.out) le0).mono ?_
  rintro e w3 ⟨A3, c3, rfl, r3, hb⟩
  have sz5 := hb.size
  have B5 := Lib.hid (below_chain B4.out hb)
  have L0_5 := Lib.hid (L0_4.out.below hb)
  have L1_5 := Lib.hid (L1_4.out.below hb)
  clear hb B4 L0_4 L1_4
  have X3_5 := Lib.hid r3
  clear r3
  obtain ⟨V3, hW⟩ : ∃ z, (w3.alloc (.cells #[.int .i64 p, .slice A3 n c3, .int .i64 a, .int .i64 b, .int .i64 s, .int .i64 g] 26)) = z := ⟨_, rfl⟩
  have hb : Below w3.heap.size w3 V3 := by rw [← hW]; exact ((Below.refl _ _).alloc (by first | (simp; done) | (simp; omega) | omega) _)
  have az : V3.heap.size = w3.heap.size + 1 := by rw [← hW]; simp
  have Nx0 := Lib.hid (show Blk V3 (w3.heap.size) 26 #[.int .i64 p, .slice A3 n c3, .int .i64 a, .int .i64 b, .int .i64 s, .int .i64 g] by rw [← hW]; exact (Blk.new _ _ _))
  have AZV3 := Lib.hid az
  clear az
  have sz6 := hb.size
  have B6 := Lib.hid (below_chain B5.out hb)
  have X3_6 := Lib.hid (X3_5.out.below hb)
  have L0_6 := Lib.hid (L0_5.out.below hb)
  have L1_6 := Lib.hid (L1_5.out.below hb)
  clear hb B5 X3_5 L0_5 L1_5
  have x0_6 := Nx0
  clear Nx0
  have ltx0 : w3.heap.size < V3.heap.size := x0_6.out.lt
  have xL10 : V3.cell? ⟨w.heap.size + 1, 0, none⟩ = some (.int .i64 p') := by rw [L1_6.out.cell]; rfl
  have xL11 : V3.cell? ⟨w.heap.size + 1, 1, none⟩ = some (.slice A' n' c') := by rw [L1_6.out.cell]; rfl
  have xL12 : V3.cell? ⟨w.heap.size + 1, 2, none⟩ = some (.int .i64 a') := by rw [L1_6.out.cell]; rfl
  have xL13 : V3.cell? ⟨w.heap.size + 1, 3, none⟩ = some (.int .i64 b') := by rw [L1_6.out.cell]; rfl
  have xL14 : V3.cell? ⟨w.heap.size + 1, 4, none⟩ = some (.int .i64 s') := by rw [L1_6.out.cell]; rfl
  have xL15 : V3.cell? ⟨w.heap.size + 1, 5, none⟩ = some (.int .i64 g') := by rw [L1_6.out.cell]; rfl
  go_wp2_with fail
  clear hW xL10 xL11 xL12 xL13 xL14 xL15
  refine (toLk_row A' n' c' ys ZY.out p' a' b' s' g' _ (SY.out.below B6.out) le1).mono ?_
  rintro e w4 ⟨A4, c4, rfl, r4, hb⟩
  have sz7 := hb.size
  have B7 := Lib.hid (below_chain B6.out hb)
  have X3_7 := Lib.hid (X3_6.out.below hb)
  have L0_7 := Lib.hid (L0_6.out.below hb)
  have L1_7 := Lib.hid (L1_6.out.below hb)
  have x0_7 := Lib.hid (x0_6.out.below hb)
  clear hb B6 X3_6 L0_6 L1_6 x0_6
  have X4_7 := Lib.hid r4
  clear r4
  obtain ⟨V4, hW⟩ : ∃ z, (w4.alloc (.cells #[.int .i64 p', .slice A4 n' c4, .int .i64 a', .int .i64 b', .int .i64 s', .int .i64 g'] 26)) = z := ⟨_, rfl⟩
  have hb : Below w4.heap.size w4 V4 := by rw [← hW]; exact ((Below.refl _ _).alloc (by first | (simp; done) | (simp; omega) | omega) _)
  have az : V4.heap.size = w4.heap.size + 1 := by rw [← hW]; simp
  have Nx1 := Lib.hid (show Blk V4 (w4.heap.size) 26 #[.int .i64 p', .slice A4 n' c4, .int .i64 a', .int .i64 b', .int .i64 s', .int .i64 g'] by rw [← hW]; exact (Blk.new _ _ _))
  have AZV4 := Lib.hid az
  clear az
  have sz8 := hb.size
  have B8 := Lib.hid (below_chain B7.out hb)
  have X3_8 := Lib.hid (X3_7.out.below hb)
  have X4_8 := Lib.hid (X4_7.out.below hb)
  have L0_8 := Lib.hid (L0_7.out.below hb)
  have L1_8 := Lib.hid (L1_7.out.below hb)
  have x0_8 := Lib.hid (x0_7.out.below hb)
  clear hb B7 X3_7 X4_7 L0_7 L1_7 x0_7
  have x1_8 := Nx1
  clear Nx1
  have ltx1 : w4.heap.size < V4.heap.size := x1_8.out.lt
  have xx00 : V4.cell? ⟨w3.heap.size, 0, none⟩ = some (.int .i64 p) := by rw [x0_8.out.cell]; rfl
  have xx01 : V4.cell? ⟨w3.heap.size, 1, none⟩ = some (.slice A3 n c3) := by rw [x0_8.out.cell]; rfl
  have xx02 : V4.cell? ⟨w3.heap.size, 2, none⟩ = some (.int .i64 a) := by rw [x0_8.out.cell]; rfl
  have xx03 : V4.cell? ⟨w3.heap.size, 3, none⟩ = some (.int .i64 b) := by rw [x0_8.out.cell]; rfl
  have xx04 : V4.cell? ⟨w3.heap.size, 4, none⟩ = some (.int .i64 s) := by rw [x0_8.out.cell]; rfl
  have xx05 : V4.cell? ⟨w3.heap.size, 5, none⟩ = some (.int .i64 g) := by rw [x0_8.out.cell]; rfl
  have xx10 : V4.cell? ⟨w4.heap.size, 0, none⟩ = some (.int .i64 p') := by rw [x1_8.out.cell]; rfl
  have xx11 : V4.cell? ⟨w4.heap.size, 1, none⟩ = some (.slice A4 n' c4) := by rw [x1_8.out.cell]; rfl
  have xx12 : V4.cell? ⟨w4.heap.size, 2, none⟩ = some (.int .i64 a') := by rw [x1_8.out.cell]; rfl
  have xx13 : V4.cell? ⟨w4.heap.size, 3, none⟩ = some (.int .i64 b') := by rw [x1_8.out.cell]; rfl
  have xx14 : V4.cell? ⟨w4.heap.size, 4, none⟩ = some (.int .i64 s') := by rw [x1_8.out.cell]; rfl
  have xx15 : V4.cell? ⟨w4.heap.size, 5, none⟩ = some (.int .i64 g') := by rw [x1_8.out.cell]; rfl
  go_wp2_with fail
  clear hW xx00 xx01 xx02 xx03 xx04 xx05 xx10 xx11 xx12 xx13 xx14 xx15
  refine (implSame_is n n' zs ys Z.out ZY.out A3 A4 c3 c4 p a b s g p' a' b' s' g' _ X3_8.out.rc X4_8.out.rc (by omega) HR.out).mono ?_
  rintro e w5 ⟨rfl, hb⟩
  have sz9 := hb.size
  have B9 := Lib.hid (below_chain B8.out hb)
  have X3_9 := Lib.hid (X3_8.out.below hb)
  have X4_9 := Lib.hid (X4_8.out.below hb)
  have L0_9 := Lib.hid (L0_8.out.below hb)
  have L1_9 := Lib.hid (L1_8.out.below hb)
  have x0_9 := Lib.hid (x0_8.out.below hb)
  have x1_9 := Lib.hid (x1_8.out.below hb)
  clear hb B8 X3_8 X4_8 L0_8 L1_8 x0_8 x1_8
  go_upto_region 14 with fail
  have k0 : w5.cell? ⟨w3.heap.size, 0, none⟩ = some (.int .i64 p) := by rw [x0_9.out.cell]; rfl
  have k1 : w5.cell? ⟨w3.heap.size, 1, none⟩ = some (.slice A3 n c3) := by rw [x0_9.out.cell]; rfl
  have k2 : w5.cell? ⟨w3.heap.size, 2, none⟩ = some (.int .i64 a) := by rw [x0_9.out.cell]; rfl
  have k3 : w5.cell? ⟨w3.heap.size, 3, none⟩ = some (.int .i64 b) := by rw [x0_9.out.cell]; rfl
  have k4 : w5.cell? ⟨w3.heap.size, 4, none⟩ = some (.int .i64 s) := by rw [x0_9.out.cell]; rfl
  have k5 : w5.cell? ⟨w3.heap.size, 5, none⟩ = some (.int .i64 g) := by rw [x0_9.out.cell]; rfl
  have k6 : w5.cell? ⟨w.heap.size, 0, none⟩ = some (.int .i64 p) := by rw [L0_9.out.cell]; rfl
  have k7 : w5.cell? ⟨w.heap.size, 1, none⟩ = some (.slice A n c) := by rw [L0_9.out.cell]; rfl
  have k8 : w5.cell? ⟨w.heap.size, 2, none⟩ = some (.int .i64 a) := by rw [L0_9.out.cell]; rfl
  have k9 : w5.cell? ⟨w.heap.size, 3, none⟩ = some (.int .i64 b) := by rw [L0_9.out.cell]; rfl
  have k10 : w5.cell? ⟨w.heap.size, 4, none⟩ = some (.int .i64 s) := by rw [L0_9.out.cell]; rfl
  have k11 : w5.cell? ⟨w.heap.size, 5, none⟩ = some (.int .i64 g) := by rw [L0_9.out.cell]; rfl
  have kb := Below.refl w5.heap.size w5
  have ks := (S.out.below B9.out)
  have kx := X3_9.out
  go_cut [39] (fun t wx => t = .bool false ∧ Below w5.heap.size w5 wx)
  case first =>
    go_region_held3 (fun w' => w'.cell? ⟨w3.heap.size, 0, none⟩ = some (.int .i64 p) ∧ w'.cell? ⟨w3.heap.size, 1, none⟩ = some (.slice A3 n c3) ∧ w'.cell? ⟨w3.heap.size, 2, none⟩ = some (.int .i64 a) ∧ w'.cell? ⟨w3.heap.size, 3, none⟩ = some (.int .i64 b) ∧ w'.cell? ⟨w3.heap.size, 4, none⟩ = some (.int .i64 s) ∧ w'.cell? ⟨w3.heap.size, 5, none⟩ = some (.int .i64 g) ∧ w'.cell? ⟨w.heap.size, 0, none⟩ = some (.int .i64 p) ∧ w'.cell? ⟨w.heap.size, 1, none⟩ = some (.slice A n c) ∧ w'.cell? ⟨w.heap.size, 2, none⟩ = some (.int .i64 a) ∧ w'.cell? ⟨w.heap.size, 3, none⟩ = some (.int .i64 b) ∧ w'.cell? ⟨w.heap.size, 4, none⟩ = some (.int .i64 s) ∧ w'.cell? ⟨w.heap.size, 5, none⟩ = some (.int .i64 g) ∧ Rcs w' A zs ∧ Below w5.heap.size w5 w')
      (((try go_split_ands); refine ⟨?_, ?_, ?_, ?_, ?_, ?_, ?_, ?_, ?_, ?_, ?_, ?_, ?_, ?_⟩ <;> (repeat (first | with_reducible assumption | with_reducible refine drew_keep ?_ | with_reducible refine below_keep hbd ?_ | with_reducible refine rcs_drew ?_ | with_reducible refine Rcs.below ?_ hbd | with_reducible refine Below.drew ?_ | with_reducible refine below_chain ?_ hbd))))
      (first | (go_at_call 37; (try go_split_ands); (with_reducible refine (toLk_row A n c zs Z.out p a b s g _ (by assumption) le0).mono ?_); rintro e w5 ⟨A5, c5, rfl, s5, hbd⟩) | (go_at_call 33; (try go_split_ands); (with_reducible refine (eqLk_row p a b s g (Row.below kx (by assumption)) s5 (by omega)).mono ?_); rintro e w6 ⟨rfl, hbd⟩))
    all_goals (
      go_wp2_with fail
      go_meet
      refine ⟨rfl, ?_⟩
      (try go_split_ands)
      assumption)
  case rest =>
  obtain ⟨rfl, hb⟩ := hcut
  clear kb ks kx k0 k1 k2 k3 k4 k5 k6 k7 k8 k9 k10 k11
  obtain ⟨u3, hwc⟩ : ∃ z, z = wc := ⟨_, rfl⟩
  subst hwc
  have sz10 := hb.size
  have B10 := Lib.hid (below_chain B9.out hb)
  have X3_10 := Lib.hid (X3_9.out.below hb)
  have X4_10 := Lib.hid (X4_9.out.below hb)
  have L0_10 := Lib.hid (L0_9.out.below hb)
  have L1_10 := Lib.hid (L1_9.out.below hb)
  have x0_10 := Lib.hid (x0_9.out.below hb)
  have x1_10 := Lib.hid (x1_9.out.below hb)
  clear hb B9 X3_9 X4_9 L0_9 L1_9 x0_9 x1_9
  go_upto_region 16 with fail
  have k0 : u3.cell? ⟨w4.heap.size, 0, none⟩ = some (.int .i64 p') := by rw [x1_10.out.cell]; rfl
  have k1 : u3.cell? ⟨w4.heap.size, 1, none⟩ = some (.slice A4 n' c4) := by rw [x1_10.out.cell]; rfl
  have k2 : u3.cell? ⟨w4.heap.size, 2, none⟩ = some (.int .i64 a') := by rw [x1_10.out.cell]; rfl
  have k3 : u3.cell? ⟨w4.heap.size, 3, none⟩ = some (.int .i64 b') := by rw [x1_10.out.cell]; rfl
  have k4 : u3.cell? ⟨w4.heap.size, 4, none⟩ = some (.int .i64 s') := by rw [x1_10.out.cell]; rfl
  have k5 : u3.cell? ⟨w4.heap.size, 5, none⟩ = some (.int .i64 g') := by rw [x1_10.out.cell]; rfl
  have k6 : u3.cell? ⟨w.heap.size + 1, 0, none⟩ = some (.int .i64 p') := by rw [L1_10.out.cell]; rfl
  have k7 : u3.cell? ⟨w.heap.size + 1, 1, none⟩ = some (.slice A' n' c') := by rw [L1_10.out.cell]; rfl
  have k8 : u3.cell? ⟨w.heap.size + 1, 2, none⟩ = some (.int .i64 a') := by rw [L1_10.out.cell]; rfl
  have k9 : u3.cell? ⟨w.heap.size + 1, 3, none⟩ = some (.int .i64 b') := by rw [L1_10.out.cell]; rfl
  have k10 : u3.cell? ⟨w.heap.size + 1, 4, none⟩ = some (.int .i64 s') := by rw [L1_10.out.cell]; rfl
  have k11 : u3.cell? ⟨w.heap.size + 1, 5, none⟩ = some (.int .i64 g') := by rw [L1_10.out.cell]; rfl
  have kb := Below.refl u3.heap.size u3
  have ks := (SY.out.below B10.out)
  have kx := X4_10.out
  go_cut [44] (fun t wx => t = .bool false ∧ Below u3.heap.size u3 wx)
  case first =>
    go_region_held3 (fun w' => w'.cell? ⟨w4.heap.size, 0, none⟩ = some (.int .i64 p') ∧ w'.cell? ⟨w4.heap.size, 1, none⟩ = some (.slice A4 n' c4) ∧ w'.cell? ⟨w4.heap.size, 2, none⟩ = some (.int .i64 a') ∧ w'.cell? ⟨w4.heap.size, 3, none⟩ = some (.int .i64 b') ∧ w'.cell? ⟨w4.heap.size, 4, none⟩ = some (.int .i64 s') ∧ w'.cell? ⟨w4.heap.size, 5, none⟩ = some (.int .i64 g') ∧ w'.cell? ⟨w.heap.size + 1, 0, none⟩ = some (.int .i64 p') ∧ w'.cell? ⟨w.heap.size + 1, 1, none⟩ = some (.slice A' n' c') ∧ w'.cell? ⟨w.heap.size + 1, 2, none⟩ = some (.int .i64 a') ∧ w'.cell? ⟨w.heap.size + 1, 3, none⟩ = some (.int .i64 b') ∧ w'.cell? ⟨w.heap.size + 1, 4, none⟩ = some (.int .i64 s') ∧ w'.cell? ⟨w.heap.size + 1, 5, none⟩ = some (.int .i64 g') ∧ Rcs w' A' ys ∧ Below u3.heap.size u3 w')
      (((try go_split_ands); refine ⟨?_, ?_, ?_, ?_, ?_, ?_, ?_, ?_, ?_, ?_, ?_, ?_, ?_, ?_⟩ <;> (repeat (first | with_reducible assumption | with_reducible refine drew_keep ?_ | with_reducible refine below_keep hbd ?_ | with_reducible refine rcs_drew ?_ | with_reducible refine Rcs.below ?_ hbd | with_reducible refine Below.drew ?_ | with_reducible refine below_chain ?_ hbd))))
      (first | (go_at_call 37; (try go_split_ands); (with_reducible refine (toLk_row A' n' c' ys ZY.out p' a' b' s' g' _ (by assumption) le1).mono ?_); rintro e w5 ⟨A5, c5, rfl, s5, hbd⟩) | (go_at_call 33; (try go_split_ands); (with_reducible refine (eqLk_row p' a' b' s' g' (Row.below kx (by assumption)) s5 (by omega)).mono ?_); rintro e w6 ⟨rfl, hbd⟩))
    all_goals (
      go_wp2_with fail
      go_meet
      refine ⟨rfl, ?_⟩
      (try go_split_ands)
      assumption)
  case rest =>
  obtain ⟨rfl, hb⟩ := hcut
  clear kb ks kx k0 k1 k2 k3 k4 k5 k6 k7 k8 k9 k10 k11
  obtain ⟨u4, hwc⟩ : ∃ z, z = wc := ⟨_, rfl⟩
  subst hwc
  have sz11 := hb.size
  have B11 := Lib.hid (below_chain B10.out hb)
  have X3_11 := Lib.hid (X3_10.out.below hb)
  have X4_11 := Lib.hid (X4_10.out.below hb)
  have L0_11 := Lib.hid (L0_10.out.below hb)
  have L1_11 := Lib.hid (L1_10.out.below hb)
  have x0_11 := Lib.hid (x0_10.out.below hb)
  have x1_11 := Lib.hid (x1_10.out.below hb)
  clear hb B10 X3_10 X4_10 L0_10 L1_10 x0_10 x1_10
  go_wp2
  go_ret
  exact ⟨rfl, B11.out⟩
end Go.Proofs.Ytidpjpakodndhaa.fnExactSameLink
