/-
  The program's TakeFrom.
-/
import Derived.Test.YthkkleicekhelaaImplLk1
import Derived.Test.YthkkleicekhelaaLkCopy
import Derived.Test.YthkkleicekhelaaRingOf
import Derived.RegionTactic
import Derived.BigRegion
namespace Go.Proofs.Ythkkleicekhelaa.hexes
open Go.RowKit

theorem inRing_drop {rs zs : List Rc} {G : Nat} (h : InRing rs G zs) : InRing rs (G + 1) (zs.drop 1) := by
  intro j hj
  rw [List.length_drop] at hj
  have := h (j + 1) (by omega)
  rw [List.getElem_drop]
  rw [show G + 1 + j = G + (j + 1) by omega, this]
  congr 2
  omega

set_option maxRecDepth 100000 in
set_option maxHeartbeats 4000000 in
theorem implTake_any (n : Nat) (zs : List Rc) (hz : zs.length = n) (A : Option Addr) (c : Nat) (hA : A = none → c = 0) (p a b s g : Int) (hg : g ≤ 9223372036854775807) (w : World) (h1 : Rcs w A zs) (hn : n ≤ 1048576) {r : Bool} {us : List Rc} {m : Nat} {q0 q1 q2 q3 q4 : Int} (hr : takeOk p a b s g n zs = r) (hu : takeQ r zs = us) (hm : us.length = m) (hq : takeR r zs = (q0, (q1, q2), q3, q4)) :
    Calls Try.prog 17 #[.agg #[.int .i64 p, .slice A n c, .int .i64 a, .int .i64 b, .int .i64 s, .int .i64 g]] w fun e w' => ∃ A1 c1, e = .returned (.tuple #[.agg #[.int .i64 p, .slice A1 m c1, .int .i64 a, .int .i64 (turnI r b 1), .int .i64 s, .int .i64 (turnI r g 1)], .agg #[.int .i64 q0, .int .i64 q1, .int .i64 q2, .int .i64 q3, .int .i64 q4], .bool r]) ∧ w'.ownsRow w.heap.size 30 5 (.slice A1 m c1) m (rcCells us) ∧ Below w.heap.size w w' := by
  have H1 := Lib.hid h1
  have HZ := Lib.hid hz
  have HA := Lib.hid hA
  have HR := Lib.hid hr
  have HU := Lib.hid hu
  have HM := Lib.hid hm
  have HQ := Lib.hid hq
  clear h1 hz hA hr hu hm hq
  go_enter Try.func17, Try.ntmps17
  go_wp2_with fail
  generalize hW : (((w.alloc _).alloc _).alloc _) = W
  have B0 := Lib.hid (show Below w.heap.size w W by rw [← hW]; exact ((((Below.refl _ _).alloc (by first | (simp; done) | (simp; omega) | omega) _).alloc (by first | (simp; done) | (simp; omega) | omega) _).alloc (by first | (simp; done) | (simp; omega) | omega) _))
  have HS := Lib.hid (show W.heap.size = w.heap.size + 3 by rw [← hW]; simp)
  have K0_0 := Lib.hid (show Blk W (w.heap.size) 26 #[.int .i64 p, .slice A n c, .int .i64 a, .int .i64 b, .int .i64 s, .int .i64 g] by rw [← hW]; exact ((Below.heap_alloc _ _ _ (by first | (simp; done) | (simp; omega))).trans ((Below.heap_alloc _ _ _ (by first | (simp; done) | (simp; omega))).trans (Blk.new _ _ _))))
  have K1_0 := Lib.hid (show Blk W (w.heap.size + 1) 26 #[.int .i64 0, .slice none 0 0, .int .i64 0, .int .i64 0, .int .i64 0, .int .i64 0] by rw [← hW]; exact ((Below.heap_alloc _ _ _ (by first | (simp; done) | (simp; omega))).trans ((show w.heap.size + 1 = ((w.alloc _)).heap.size by simp) ▸ Blk.new _ _ _)))
  have K2_0 := Lib.hid (show Blk W (w.heap.size + 2) 30 #[.int .i64 0, .int .i64 0, .int .i64 0, .int .i64 0, .int .i64 0] by rw [← hW]; exact ((show w.heap.size + 2 = (((w.alloc _).alloc _)).heap.size by simp) ▸ Blk.new _ _ _))
  clear hW
  refine (implLkOk_any n zs HZ.out A c p a b s g hg W (H1.out.below B0.out) (by omega)).mono ?_
  rintro e w1 ⟨rfl, hb⟩
  have B1 := Lib.hid (below_chain B0.out hb)
  have K0_1 := Lib.hid (K0_0.out.below hb)
  have K1_1 := Lib.hid (K1_0.out.below hb)
  have K2_1 := Lib.hid (K2_0.out.below hb)
  clear hb B0 K0_0 K1_0 K2_0
  cases hok : okLk p a b s g n zs with
  | false =>
    obtain rfl : r = false := by rw [← HR.out]; unfold takeOk; rw [hok]; rfl
    clear hok
    obtain rfl : zs = us := HU.out
    obtain rfl : n = m := HZ.out.symm.trans HM.out
    obtain ⟨rfl, ⟨rfl, rfl⟩, rfl, rfl⟩ : 0 = q0 ∧ (0 = q1 ∧ 0 = q2) ∧ 0 = q3 ∧ 0 = q4 := by have h := HQ.out; simpa [takeR] using h
    have x0_0 : w1.cell? ⟨w.heap.size, 0, none⟩ = some (.int .i64 p) := by rw [K0_1.out.cell]; rfl
    have x0_1 : w1.cell? ⟨w.heap.size, 1, none⟩ = some (.slice A n c) := by rw [K0_1.out.cell]; rfl
    have x0_2 : w1.cell? ⟨w.heap.size, 2, none⟩ = some (.int .i64 a) := by rw [K0_1.out.cell]; rfl
    have x0_3 : w1.cell? ⟨w.heap.size, 3, none⟩ = some (.int .i64 b) := by rw [K0_1.out.cell]; rfl
    have x0_4 : w1.cell? ⟨w.heap.size, 4, none⟩ = some (.int .i64 s) := by rw [K0_1.out.cell]; rfl
    have x0_5 : w1.cell? ⟨w.heap.size, 5, none⟩ = some (.int .i64 g) := by rw [K0_1.out.cell]; rfl
    go_wp2_with fail
    clear x0_0 x0_1 x0_2 x0_3 x0_4 x0_5
    refine (implCopy_any n zs HZ.out A c HA.out p a b s g w1 (H1.out.below B1.out) hn).mono ?_
    rintro e wc ⟨A8, c8, rfl, own8, hb⟩
    replace own8 := own_base own8 (show W.heap.size ≤ w1.heap.size by have hs := HS.out; have hk := K2_1.out.lt; omega)
    have B2 := Lib.hid (below_chain B1.out hb)
    have K0_2 := Lib.hid (K0_1.out.below hb)
    have K1_2 := Lib.hid (K1_1.out.below hb)
    have K2_2 := Lib.hid (K2_1.out.below hb)
    clear hb B1 K0_1 K1_1 K2_1
    have O_2 := Lib.hid own8
    clear own8
    have x1_0 : wc.cell? ⟨w.heap.size + 1, 0, none⟩ = some (.int .i64 0) := by rw [K1_2.out.cell]; rfl
    have y1_0 := K1_2.out.frozen 0
    have x1_1 : wc.cell? ⟨w.heap.size + 1, 1, none⟩ = some (.slice none 0 0) := by rw [K1_2.out.cell]; rfl
    have y1_1 := K1_2.out.frozen 1
    have x1_2 : wc.cell? ⟨w.heap.size + 1, 2, none⟩ = some (.int .i64 0) := by rw [K1_2.out.cell]; rfl
    have y1_2 := K1_2.out.frozen 2
    have x1_3 : wc.cell? ⟨w.heap.size + 1, 3, none⟩ = some (.int .i64 0) := by rw [K1_2.out.cell]; rfl
    have y1_3 := K1_2.out.frozen 3
    have x1_4 : wc.cell? ⟨w.heap.size + 1, 4, none⟩ = some (.int .i64 0) := by rw [K1_2.out.cell]; rfl
    have y1_4 := K1_2.out.frozen 4
    have x1_5 : wc.cell? ⟨w.heap.size + 1, 5, none⟩ = some (.int .i64 0) := by rw [K1_2.out.cell]; rfl
    have y1_5 := K1_2.out.frozen 5
    have x2_0 : wc.cell? ⟨w.heap.size + 2, 0, none⟩ = some (.int .i64 0) := by rw [K2_2.out.cell]; rfl
    have y2_0 := K2_2.out.frozen 0
    have x2_1 : wc.cell? ⟨w.heap.size + 2, 1, none⟩ = some (.int .i64 0) := by rw [K2_2.out.cell]; rfl
    have y2_1 := K2_2.out.frozen 1
    have x2_2 : wc.cell? ⟨w.heap.size + 2, 2, none⟩ = some (.int .i64 0) := by rw [K2_2.out.cell]; rfl
    have y2_2 := K2_2.out.frozen 2
    have x2_3 : wc.cell? ⟨w.heap.size + 2, 3, none⟩ = some (.int .i64 0) := by rw [K2_2.out.cell]; rfl
    have y2_3 := K2_2.out.frozen 3
    have x2_4 : wc.cell? ⟨w.heap.size + 2, 4, none⟩ = some (.int .i64 0) := by rw [K2_2.out.cell]; rfl
    have y2_4 := K2_2.out.frozen 4
    go_wp2_with fail
    clear x1_0 y1_0 x1_1 y1_1 x1_2 y1_2 x1_3 y1_3 x1_4 y1_4 x1_5 y1_5 x2_0 y2_0 x2_1 y2_1 x2_2 y2_2 x2_3 y2_3 x2_4 y2_4
    generalize hV : (((((((((((wc.setCell _ _).setCell _ _).setCell _ _).setCell _ _).setCell _ _).setCell _ _).setCell _ _).setCell _ _).setCell _ _).setCell _ _).setCell _ _) = Wf
    have B3 := Lib.hid (show Below w.heap.size w Wf by rw [← hV]; exact (((((((((((B2.out.setCell (by first | (simp; done) | (simp; omega) | omega) _).setCell (by first | (simp; done) | (simp; omega) | omega) _).setCell (by first | (simp; done) | (simp; omega) | omega) _).setCell (by first | (simp; done) | (simp; omega) | omega) _).setCell (by first | (simp; done) | (simp; omega) | omega) _).setCell (by first | (simp; done) | (simp; omega) | omega) _).setCell (by first | (simp; done) | (simp; omega) | omega) _).setCell (by first | (simp; done) | (simp; omega) | omega) _).setCell (by first | (simp; done) | (simp; omega) | omega) _).setCell (by first | (simp; done) | (simp; omega) | omega) _).setCell (by first | (simp; done) | (simp; omega) | omega) _))
    have O_3 := Lib.hid (show Wf.ownsRow W.heap.size 30 5 (.slice A8 n c8) (n) (rcCells (zs)) by rw [← hV]; exact (own_set (own_set (own_set (own_set (own_set (own_set (own_set (own_set (own_set (own_set (own_set O_2.out _ (by have hs := HS.out; first | (simp; done) | (simp; omega) | omega)) _ (by have hs := HS.out; first | (simp; done) | (simp; omega) | omega)) _ (by have hs := HS.out; first | (simp; done) | (simp; omega) | omega)) _ (by have hs := HS.out; first | (simp; done) | (simp; omega) | omega)) _ (by have hs := HS.out; first | (simp; done) | (simp; omega) | omega)) _ (by have hs := HS.out; first | (simp; done) | (simp; omega) | omega)) _ (by have hs := HS.out; first | (simp; done) | (simp; omega) | omega)) _ (by have hs := HS.out; first | (simp; done) | (simp; omega) | omega)) _ (by have hs := HS.out; first | (simp; done) | (simp; omega) | omega)) _ (by have hs := HS.out; first | (simp; done) | (simp; omega) | omega)) _ (by have hs := HS.out; first | (simp; done) | (simp; omega) | omega)))
    have K0_3 := Lib.hid (show Blk Wf (w.heap.size) 26 #[.int .i64 p, .slice A n c, .int .i64 a, .int .i64 b, .int .i64 s, .int .i64 g] by rw [← hV]; exact (((((((((((K0_2.out.other (by first | (simp; done) | (simp; omega) | omega) _).other (by first | (simp; done) | (simp; omega) | omega) _).other (by first | (simp; done) | (simp; omega) | omega) _).other (by first | (simp; done) | (simp; omega) | omega) _).other (by first | (simp; done) | (simp; omega) | omega) _).other (by first | (simp; done) | (simp; omega) | omega) _).other (by first | (simp; done) | (simp; omega) | omega) _).other (by first | (simp; done) | (simp; omega) | omega) _).other (by first | (simp; done) | (simp; omega) | omega) _).other (by first | (simp; done) | (simp; omega) | omega) _).other (by first | (simp; done) | (simp; omega) | omega) _))
    have K1_3 := Lib.hid (show Blk Wf (w.heap.size + 1) 26 #[.int .i64 p, .slice A8 n c8, .int .i64 a, .int .i64 b, .int .i64 s, .int .i64 g] by rw [← hV]; exact (((((((((((K1_2.out.put 0 _).put 1 _).put 2 _).put 3 _).put 4 _).put 5 _).other (by first | (simp; done) | (simp; omega) | omega) _).other (by first | (simp; done) | (simp; omega) | omega) _).other (by first | (simp; done) | (simp; omega) | omega) _).other (by first | (simp; done) | (simp; omega) | omega) _).other (by first | (simp; done) | (simp; omega) | omega) _))
    have K2_3 := Lib.hid (show Blk Wf (w.heap.size + 2) 30 #[.int .i64 0, .int .i64 0, .int .i64 0, .int .i64 0, .int .i64 0] by rw [← hV]; exact (((((((((((K2_2.out.other (by first | (simp; done) | (simp; omega) | omega) _).other (by first | (simp; done) | (simp; omega) | omega) _).other (by first | (simp; done) | (simp; omega) | omega) _).other (by first | (simp; done) | (simp; omega) | omega) _).other (by first | (simp; done) | (simp; omega) | omega) _).other (by first | (simp; done) | (simp; omega) | omega) _).put 0 _).put 1 _).put 2 _).put 3 _).put 4 _))
    clear hV B2 K0_2 K1_2 K2_2 O_2
    have r1_0 : Wf.cell? ⟨w.heap.size + 1, 0, none⟩ = some (.int .i64 p) := by rw [K1_3.out.cell]; rfl
    have r1_1 : Wf.cell? ⟨w.heap.size + 1, 1, none⟩ = some (.slice A8 n c8) := by rw [K1_3.out.cell]; rfl
    have r1_2 : Wf.cell? ⟨w.heap.size + 1, 2, none⟩ = some (.int .i64 a) := by rw [K1_3.out.cell]; rfl
    have r1_3 : Wf.cell? ⟨w.heap.size + 1, 3, none⟩ = some (.int .i64 b) := by rw [K1_3.out.cell]; rfl
    have r1_4 : Wf.cell? ⟨w.heap.size + 1, 4, none⟩ = some (.int .i64 s) := by rw [K1_3.out.cell]; rfl
    have r1_5 : Wf.cell? ⟨w.heap.size + 1, 5, none⟩ = some (.int .i64 g) := by rw [K1_3.out.cell]; rfl
    have r2_0 : Wf.cell? ⟨w.heap.size + 2, 0, none⟩ = some (.int .i64 0) := by rw [K2_3.out.cell]; rfl
    have r2_1 : Wf.cell? ⟨w.heap.size + 2, 1, none⟩ = some (.int .i64 0) := by rw [K2_3.out.cell]; rfl
    have r2_2 : Wf.cell? ⟨w.heap.size + 2, 2, none⟩ = some (.int .i64 0) := by rw [K2_3.out.cell]; rfl
    have r2_3 : Wf.cell? ⟨w.heap.size + 2, 3, none⟩ = some (.int .i64 0) := by rw [K2_3.out.cell]; rfl
    have r2_4 : Wf.cell? ⟨w.heap.size + 2, 4, none⟩ = some (.int .i64 0) := by rw [K2_3.out.cell]; rfl
    exact bodyPost_ret (v := .tuple #[.agg #[.int .i64 p, .slice A8 n c8, .int .i64 a, .int .i64 b, .int .i64 s, .int .i64 g], .agg #[.int .i64 0, .int .i64 0, .int .i64 0, .int .i64 0, .int .i64 0], .bool false]) (by simp [results, Try.results17, go_sem, r1_0, r1_1, r1_2, r1_3, r1_4, r1_5, r2_0, r2_1, r2_2, r2_3, r2_4]) rfl ⟨A8, c8, rfl, own_base O_3.out (by have hs := HS.out; omega), B3.out⟩
  | true =>
    by_cases hn0 : n = 0
    · skip
      have qn : ((n : Int) == 0) = true := by simp; omega
      obtain rfl : r = false := by rw [← HR.out]; unfold takeOk; rw [hok]; simp; omega
      clear hok hn0
      obtain rfl : zs = us := HU.out
      obtain rfl : n = m := HZ.out.symm.trans HM.out
      obtain ⟨rfl, ⟨rfl, rfl⟩, rfl, rfl⟩ : 0 = q0 ∧ (0 = q1 ∧ 0 = q2) ∧ 0 = q3 ∧ 0 = q4 := by have h := HQ.out; simpa [takeR] using h
      have x0_0 : w1.cell? ⟨w.heap.size, 0, none⟩ = some (.int .i64 p) := by rw [K0_1.out.cell]; rfl
      have x0_1 : w1.cell? ⟨w.heap.size, 1, none⟩ = some (.slice A n c) := by rw [K0_1.out.cell]; rfl
      have x0_2 : w1.cell? ⟨w.heap.size, 2, none⟩ = some (.int .i64 a) := by rw [K0_1.out.cell]; rfl
      have x0_3 : w1.cell? ⟨w.heap.size, 3, none⟩ = some (.int .i64 b) := by rw [K0_1.out.cell]; rfl
      have x0_4 : w1.cell? ⟨w.heap.size, 4, none⟩ = some (.int .i64 s) := by rw [K0_1.out.cell]; rfl
      have x0_5 : w1.cell? ⟨w.heap.size, 5, none⟩ = some (.int .i64 g) := by rw [K0_1.out.cell]; rfl
      go_wp2_with fail
      clear x0_0 x0_1 x0_2 x0_3 x0_4 x0_5
      refine (implCopy_any n zs HZ.out A c HA.out p a b s g w1 (H1.out.below B1.out) hn).mono ?_
      rintro e wc ⟨A8, c8, rfl, own8, hb⟩
      replace own8 := own_base own8 (show W.heap.size ≤ w1.heap.size by have hs := HS.out; have hk := K2_1.out.lt; omega)
      have B2 := Lib.hid (below_chain B1.out hb)
      have K0_2 := Lib.hid (K0_1.out.below hb)
      have K1_2 := Lib.hid (K1_1.out.below hb)
      have K2_2 := Lib.hid (K2_1.out.below hb)
      clear hb B1 K0_1 K1_1 K2_1
      have O_2 := Lib.hid own8
      clear own8
      have x1_0 : wc.cell? ⟨w.heap.size + 1, 0, none⟩ = some (.int .i64 0) := by rw [K1_2.out.cell]; rfl
      have y1_0 := K1_2.out.frozen 0
      have x1_1 : wc.cell? ⟨w.heap.size + 1, 1, none⟩ = some (.slice none 0 0) := by rw [K1_2.out.cell]; rfl
      have y1_1 := K1_2.out.frozen 1
      have x1_2 : wc.cell? ⟨w.heap.size + 1, 2, none⟩ = some (.int .i64 0) := by rw [K1_2.out.cell]; rfl
      have y1_2 := K1_2.out.frozen 2
      have x1_3 : wc.cell? ⟨w.heap.size + 1, 3, none⟩ = some (.int .i64 0) := by rw [K1_2.out.cell]; rfl
      have y1_3 := K1_2.out.frozen 3
      have x1_4 : wc.cell? ⟨w.heap.size + 1, 4, none⟩ = some (.int .i64 0) := by rw [K1_2.out.cell]; rfl
      have y1_4 := K1_2.out.frozen 4
      have x1_5 : wc.cell? ⟨w.heap.size + 1, 5, none⟩ = some (.int .i64 0) := by rw [K1_2.out.cell]; rfl
      have y1_5 := K1_2.out.frozen 5
      have x2_0 : wc.cell? ⟨w.heap.size + 2, 0, none⟩ = some (.int .i64 0) := by rw [K2_2.out.cell]; rfl
      have y2_0 := K2_2.out.frozen 0
      have x2_1 : wc.cell? ⟨w.heap.size + 2, 1, none⟩ = some (.int .i64 0) := by rw [K2_2.out.cell]; rfl
      have y2_1 := K2_2.out.frozen 1
      have x2_2 : wc.cell? ⟨w.heap.size + 2, 2, none⟩ = some (.int .i64 0) := by rw [K2_2.out.cell]; rfl
      have y2_2 := K2_2.out.frozen 2
      have x2_3 : wc.cell? ⟨w.heap.size + 2, 3, none⟩ = some (.int .i64 0) := by rw [K2_2.out.cell]; rfl
      have y2_3 := K2_2.out.frozen 3
      have x2_4 : wc.cell? ⟨w.heap.size + 2, 4, none⟩ = some (.int .i64 0) := by rw [K2_2.out.cell]; rfl
      have y2_4 := K2_2.out.frozen 4
      go_wp2_with fail
      clear x1_0 y1_0 x1_1 y1_1 x1_2 y1_2 x1_3 y1_3 x1_4 y1_4 x1_5 y1_5 x2_0 y2_0 x2_1 y2_1 x2_2 y2_2 x2_3 y2_3 x2_4 y2_4
      generalize hV : (((((((((((wc.setCell _ _).setCell _ _).setCell _ _).setCell _ _).setCell _ _).setCell _ _).setCell _ _).setCell _ _).setCell _ _).setCell _ _).setCell _ _) = Wf
      have B3 := Lib.hid (show Below w.heap.size w Wf by rw [← hV]; exact (((((((((((B2.out.setCell (by first | (simp; done) | (simp; omega) | omega) _).setCell (by first | (simp; done) | (simp; omega) | omega) _).setCell (by first | (simp; done) | (simp; omega) | omega) _).setCell (by first | (simp; done) | (simp; omega) | omega) _).setCell (by first | (simp; done) | (simp; omega) | omega) _).setCell (by first | (simp; done) | (simp; omega) | omega) _).setCell (by first | (simp; done) | (simp; omega) | omega) _).setCell (by first | (simp; done) | (simp; omega) | omega) _).setCell (by first | (simp; done) | (simp; omega) | omega) _).setCell (by first | (simp; done) | (simp; omega) | omega) _).setCell (by first | (simp; done) | (simp; omega) | omega) _))
      have O_3 := Lib.hid (show Wf.ownsRow W.heap.size 30 5 (.slice A8 n c8) (n) (rcCells (zs)) by rw [← hV]; exact (own_set (own_set (own_set (own_set (own_set (own_set (own_set (own_set (own_set (own_set (own_set O_2.out _ (by have hs := HS.out; first | (simp; done) | (simp; omega) | omega)) _ (by have hs := HS.out; first | (simp; done) | (simp; omega) | omega)) _ (by have hs := HS.out; first | (simp; done) | (simp; omega) | omega)) _ (by have hs := HS.out; first | (simp; done) | (simp; omega) | omega)) _ (by have hs := HS.out; first | (simp; done) | (simp; omega) | omega)) _ (by have hs := HS.out; first | (simp; done) | (simp; omega) | omega)) _ (by have hs := HS.out; first | (simp; done) | (simp; omega) | omega)) _ (by have hs := HS.out; first | (simp; done) | (simp; omega) | omega)) _ (by have hs := HS.out; first | (simp; done) | (simp; omega) | omega)) _ (by have hs := HS.out; first | (simp; done) | (simp; omega) | omega)) _ (by have hs := HS.out; first | (simp; done) | (simp; omega) | omega)))
      have K0_3 := Lib.hid (show Blk Wf (w.heap.size) 26 #[.int .i64 p, .slice A n c, .int .i64 a, .int .i64 b, .int .i64 s, .int .i64 g] by rw [← hV]; exact (((((((((((K0_2.out.other (by first | (simp; done) | (simp; omega) | omega) _).other (by first | (simp; done) | (simp; omega) | omega) _).other (by first | (simp; done) | (simp; omega) | omega) _).other (by first | (simp; done) | (simp; omega) | omega) _).other (by first | (simp; done) | (simp; omega) | omega) _).other (by first | (simp; done) | (simp; omega) | omega) _).other (by first | (simp; done) | (simp; omega) | omega) _).other (by first | (simp; done) | (simp; omega) | omega) _).other (by first | (simp; done) | (simp; omega) | omega) _).other (by first | (simp; done) | (simp; omega) | omega) _).other (by first | (simp; done) | (simp; omega) | omega) _))
      have K1_3 := Lib.hid (show Blk Wf (w.heap.size + 1) 26 #[.int .i64 p, .slice A8 n c8, .int .i64 a, .int .i64 b, .int .i64 s, .int .i64 g] by rw [← hV]; exact (((((((((((K1_2.out.put 0 _).put 1 _).put 2 _).put 3 _).put 4 _).put 5 _).other (by first | (simp; done) | (simp; omega) | omega) _).other (by first | (simp; done) | (simp; omega) | omega) _).other (by first | (simp; done) | (simp; omega) | omega) _).other (by first | (simp; done) | (simp; omega) | omega) _).other (by first | (simp; done) | (simp; omega) | omega) _))
      have K2_3 := Lib.hid (show Blk Wf (w.heap.size + 2) 30 #[.int .i64 0, .int .i64 0, .int .i64 0, .int .i64 0, .int .i64 0] by rw [← hV]; exact (((((((((((K2_2.out.other (by first | (simp; done) | (simp; omega) | omega) _).other (by first | (simp; done) | (simp; omega) | omega) _).other (by first | (simp; done) | (simp; omega) | omega) _).other (by first | (simp; done) | (simp; omega) | omega) _).other (by first | (simp; done) | (simp; omega) | omega) _).other (by first | (simp; done) | (simp; omega) | omega) _).put 0 _).put 1 _).put 2 _).put 3 _).put 4 _))
      clear hV B2 K0_2 K1_2 K2_2 O_2
      have r1_0 : Wf.cell? ⟨w.heap.size + 1, 0, none⟩ = some (.int .i64 p) := by rw [K1_3.out.cell]; rfl
      have r1_1 : Wf.cell? ⟨w.heap.size + 1, 1, none⟩ = some (.slice A8 n c8) := by rw [K1_3.out.cell]; rfl
      have r1_2 : Wf.cell? ⟨w.heap.size + 1, 2, none⟩ = some (.int .i64 a) := by rw [K1_3.out.cell]; rfl
      have r1_3 : Wf.cell? ⟨w.heap.size + 1, 3, none⟩ = some (.int .i64 b) := by rw [K1_3.out.cell]; rfl
      have r1_4 : Wf.cell? ⟨w.heap.size + 1, 4, none⟩ = some (.int .i64 s) := by rw [K1_3.out.cell]; rfl
      have r1_5 : Wf.cell? ⟨w.heap.size + 1, 5, none⟩ = some (.int .i64 g) := by rw [K1_3.out.cell]; rfl
      have r2_0 : Wf.cell? ⟨w.heap.size + 2, 0, none⟩ = some (.int .i64 0) := by rw [K2_3.out.cell]; rfl
      have r2_1 : Wf.cell? ⟨w.heap.size + 2, 1, none⟩ = some (.int .i64 0) := by rw [K2_3.out.cell]; rfl
      have r2_2 : Wf.cell? ⟨w.heap.size + 2, 2, none⟩ = some (.int .i64 0) := by rw [K2_3.out.cell]; rfl
      have r2_3 : Wf.cell? ⟨w.heap.size + 2, 3, none⟩ = some (.int .i64 0) := by rw [K2_3.out.cell]; rfl
      have r2_4 : Wf.cell? ⟨w.heap.size + 2, 4, none⟩ = some (.int .i64 0) := by rw [K2_3.out.cell]; rfl
      exact bodyPost_ret (v := .tuple #[.agg #[.int .i64 p, .slice A8 n c8, .int .i64 a, .int .i64 b, .int .i64 s, .int .i64 g], .agg #[.int .i64 0, .int .i64 0, .int .i64 0, .int .i64 0, .int .i64 0], .bool false]) (by simp [results, Try.results17, go_sem, r1_0, r1_1, r1_2, r1_3, r1_4, r1_5, r2_0, r2_1, r2_2, r2_3, r2_4]) rfl ⟨A8, c8, rfl, own_base O_3.out (by have hs := HS.out; omega), B3.out⟩
    · skip
      have K := okLk_iff.1 hok
      have qn : ((n : Int) == 0) = false := by simp; omega
      obtain rfl : r = true := by rw [← HR.out]; unfold takeOk; rw [hok]; simp; omega
      have ks9 := K.s9
      have ks0 := K.s0
      have kg0 := K.g0
      have kgs := K.gs
      have ka := K.a0
      have kb := K.b0
      have kp := K.p4
      have ksum := K.sum
      have kbp := K.bp
      have l0 : 0 < zs.length := by rw [HZ.out]; omega
      obtain rfl : zs.drop 1 = us := HU.out
      obtain rfl : n - 1 = m := by rw [← HM.out, List.length_drop, HZ.out]
      obtain ⟨G, rfl⟩ : ∃ G : Nat, g = (G : Int) := ⟨g.toNat, by omega⟩
      have hn4 : n ≤ 4 := by omega
      have hG9 : G ≤ 1000000000 := by omega
      have hsG : s = (G : Int) + (n : Int) := by omega
      have HSG := Lib.hid hsG
      clear hsG hok K
      have x0_0 : w1.cell? ⟨w.heap.size, 0, none⟩ = some (.int .i64 p) := by rw [K0_1.out.cell]; rfl
      have x0_1 : w1.cell? ⟨w.heap.size, 1, none⟩ = some (.slice A n c) := by rw [K0_1.out.cell]; rfl
      have x0_2 : w1.cell? ⟨w.heap.size, 2, none⟩ = some (.int .i64 a) := by rw [K0_1.out.cell]; rfl
      have x0_3 : w1.cell? ⟨w.heap.size, 3, none⟩ = some (.int .i64 b) := by rw [K0_1.out.cell]; rfl
      have x0_4 : w1.cell? ⟨w.heap.size, 4, none⟩ = some (.int .i64 s) := by rw [K0_1.out.cell]; rfl
      have x0_5 : w1.cell? ⟨w.heap.size, 5, none⟩ = some (.int .i64 (G : Int)) := by rw [K0_1.out.cell]; rfl
      go_wp2_with fail
      clear x0_0 x0_1 x0_2 x0_3 x0_4 x0_5
      refine (implRing_any n zs HZ.out A c p a b s G w1 (H1.out.below B1.out) hn4 hG9).mono ?_
      rintro e w4 ⟨rs, hrl, hin, rfl, hb⟩
      have RL := Lib.hid hrl
      have RI := Lib.hid hin
      clear hrl hin
      have B2 := Lib.hid (below_chain B1.out hb)
      have K0_2 := Lib.hid (K0_1.out.below hb)
      have K1_2 := Lib.hid (K1_1.out.below hb)
      have K2_2 := Lib.hid (K2_1.out.below hb)
      clear hb B1 K0_1 K1_1 K2_1
      have SZ4 := Lib.hid (show w.heap.size + 3 ≤ w4.heap.size by have hk := K2_2.out.lt; omega)
      obtain ⟨V4, hV4⟩ : ∃ V4, w4.alloc (.cells #[.int .i64 0, .int .i64 0, .int .i64 0, .int .i64 0, .int .i64 0, .int .i64 0, .int .i64 0, .int .i64 0, .int .i64 0, .int .i64 0, .int .i64 0, .int .i64 0, .int .i64 0, .int .i64 0, .int .i64 0, .int .i64 0, .int .i64 0, .int .i64 0, .int .i64 0, .int .i64 0] 69) = V4 := ⟨_, rfl⟩
      have hb : Below w4.heap.size w4 V4 := by rw [← hV4]; exact (Below.refl _ _).alloc (Nat.le_refl _) _
      have RG0 := Lib.hid (show Blk V4 w4.heap.size 69 #[.int .i64 0, .int .i64 0, .int .i64 0, .int .i64 0, .int .i64 0, .int .i64 0, .int .i64 0, .int .i64 0, .int .i64 0, .int .i64 0, .int .i64 0, .int .i64 0, .int .i64 0, .int .i64 0, .int .i64 0, .int .i64 0, .int .i64 0, .int .i64 0, .int .i64 0, .int .i64 0] by rw [← hV4]; exact Blk.new _ _ _)
      have B3 := Lib.hid (below_chain B2.out hb)
      have K0_3 := Lib.hid (K0_2.out.below hb)
      have K1_3 := Lib.hid (K1_2.out.below hb)
      have K2_3 := Lib.hid (K2_2.out.below hb)
      clear hb B2 K0_2 K1_2 K2_2
      go_wp2_with (refine wpList_store_blk rfl 69 _ _ rfl w4.heap.size (rcCells rs).toArray (by rfl) (by rfl) 69 _ RG0.out (by rw [rcCells_size RL.out]; exact ringinfo) (by rw [rcCells_size RL.out]; rfl) rcCells_all ?_; intro V5 kb gr; generalize hGG : wpList _ _ _ _ _ _ = GG)
      subst hGG
      have B4 := Lib.hid (B3.out.grown gr B3.out.size (fun j hj => by have hq := SZ4.out; simp only [Option.some.injEq] at hj; omega))
      have K0_4 := Lib.hid (K0_3.out.grown gr (by have hq := SZ4.out; simp; omega))
      have K1_4 := Lib.hid (K1_3.out.grown gr (by have hq := SZ4.out; simp; omega))
      have K2_4 := Lib.hid (K2_3.out.grown gr (by have hq := SZ4.out; simp; omega))
      have RG_4 := Lib.hid kb
      clear gr kb hV4 RG0 B3 K0_3 K1_3 K2_3
      have m1 : IntKind.i64.wrap (b + 1) = b + 1 := IntWalk.i64_in _ (by omega)
      have m2 : IntKind.i64.wrap ((G : Int) + 1) = (G : Int) + 1 := IntWalk.i64_in _ (by omega)
      obtain ⟨d, hd⟩ : ∃ d, G % 4 = d := ⟨_, rfl⟩
      have hd4 : d < 4 := by omega
      have i3 : (0 : Int) ≤ (d : Int) := by omega
      have i4 : (d : Int) < 4 := by omega
      have E := Lib.hid (fun W => implSlot_is (x := (G : Int)) (d := d) (by omega) (by omega) (by omega) W)
      have hzd : rs[d]? = some (q0, (q1, q2), q3, q4) := by
        have h := RI.out 0 l0
        rw [Nat.add_zero, hd] at h
        rw [h, ← HQ.out]
        cases zs with
        | nil => simp at l0
        | cons z zs => rfl
      have HI := Lib.hid (inRing_drop RI.out)
      have HN := Lib.hid (show (zs.drop 1).length = n - 1 by rw [List.length_drop, HZ.out])
      obtain ⟨c0, c1, c2, c3, c4⟩ := inRing_cells RG_4.out hzd
      have hnp : 0 < n := by omega
      have hn1 : ((G + 1 : Nat) : Int) = (G : Int) + 1 := by omega
      have HG1 := Lib.hid hn1
      clear hd hzd hn0 hn1 ks9 ks0 kg0 kgs ka kb kp ksum kbp l0
      have x0_0 : V5.cell? ⟨w.heap.size, 0, none⟩ = some (.int .i64 p) := by rw [K0_4.out.cell]; rfl
      have x0_1 : V5.cell? ⟨w.heap.size, 1, none⟩ = some (.slice A n c) := by rw [K0_4.out.cell]; rfl
      have x0_2 : V5.cell? ⟨w.heap.size, 2, none⟩ = some (.int .i64 a) := by rw [K0_4.out.cell]; rfl
      have x0_3 : V5.cell? ⟨w.heap.size, 3, none⟩ = some (.int .i64 b) := by rw [K0_4.out.cell]; rfl
      have x0_4 : V5.cell? ⟨w.heap.size, 4, none⟩ = some (.int .i64 s) := by rw [K0_4.out.cell]; rfl
      have x0_5 : V5.cell? ⟨w.heap.size, 5, none⟩ = some (.int .i64 (G : Int)) := by rw [K0_4.out.cell]; rfl
      go_wp2_with fail
      have CC := Lib.hid (And.intro c0 (And.intro c1 (And.intro c2 (And.intro c3 c4))))
      clear c0 c1 c2 c3 c4 x0_0 x0_1 x0_2 x0_3 x0_4 x0_5
      refine (E.out _).mono ?_
      rintro e w6 ⟨rfl, rfl⟩
      obtain ⟨V6, hV6⟩ : ∃ V6, V5.alloc (.cells #[.int .i64 q0, .int .i64 q1, .int .i64 q2, .int .i64 q3, .int .i64 q4] 30) = V6 := ⟨_, rfl⟩
      have hb : Below V5.heap.size V5 V6 := by rw [← hV6]; exact (Below.refl _ _).alloc (Nat.le_refl _) _
      have R6 := Lib.hid (show Blk V6 V5.heap.size 30 #[.int .i64 q0, .int .i64 q1, .int .i64 q2, .int .i64 q3, .int .i64 q4] by rw [← hV6]; exact Blk.new _ _ _)
      have RG6 := Lib.hid (RG_4.out.below hb)
      have SZ5 := Lib.hid (show w4.heap.size < V5.heap.size from RG_4.out.lt)
      have B5 := Lib.hid (below_chain B4.out hb)
      have K0_5 := Lib.hid (K0_4.out.below hb)
      have K1_5 := Lib.hid (K1_4.out.below hb)
      have K2_5 := Lib.hid (K2_4.out.below hb)
      clear hb B4 K0_4 K1_4 K2_4
      obtain ⟨c0, c1, c2, c3, c4⟩ := CC.out
      have x0_0 : V6.cell? ⟨w.heap.size, 0, none⟩ = some (.int .i64 p) := by rw [K0_5.out.cell]; rfl
      have x0_1 : V6.cell? ⟨w.heap.size, 1, none⟩ = some (.slice A n c) := by rw [K0_5.out.cell]; rfl
      have x0_2 : V6.cell? ⟨w.heap.size, 2, none⟩ = some (.int .i64 a) := by rw [K0_5.out.cell]; rfl
      have x0_3 : V6.cell? ⟨w.heap.size, 3, none⟩ = some (.int .i64 b) := by rw [K0_5.out.cell]; rfl
      have x0_4 : V6.cell? ⟨w.heap.size, 4, none⟩ = some (.int .i64 s) := by rw [K0_5.out.cell]; rfl
      have x0_5 : V6.cell? ⟨w.heap.size, 5, none⟩ = some (.int .i64 (G : Int)) := by rw [K0_5.out.cell]; rfl
      have y0_3 := K0_5.out.frozen 3
      have y0_5 := K0_5.out.frozen 5
      go_wp2_with (refine wpList_load_row rfl 69 _ rfl w4.heap.size (by rfl) 69 (rcCells rs).toArray (0, 0) _ ((RG6.out.other (by have hq := SZ4.out; first | (simp; done) | (simp; omega) | omega) _).other (by have hq := SZ4.out; first | (simp; done) | (simp; omega) | omega) _) Try.underlying69 rfl (by rw [rcCells_size RL.out]; exact ringinfo) ?_)
      clear hV6
      clear c0 c1 c2 c3 c4 x0_0 x0_1 x0_2 x0_3 x0_4 x0_5 y0_3 y0_5
      generalize hV : ((V6.setCell _ _).setCell _ _) = V7
      have R7 := Lib.hid (show Blk V7 V5.heap.size 30 #[.int .i64 q0, .int .i64 q1, .int .i64 q2, .int .i64 q3, .int .i64 q4] by rw [← hV]; exact ((R6.out.other (by have h1 := SZ4.out; have h2 := SZ5.out; simp; omega) _).other (by have h1 := SZ4.out; have h2 := SZ5.out; simp; omega) _))
      have B6 := Lib.hid (show Below w.heap.size w V7 by rw [← hV]; exact ((B5.out.setCell (by first | (simp; done) | (simp; omega) | omega) _).setCell (by first | (simp; done) | (simp; omega) | omega) _))
      have K0_6 := Lib.hid (show Blk V7 (w.heap.size) 26 #[.int .i64 p, .slice A n c, .int .i64 a, .int .i64 (b + 1), .int .i64 s, .int .i64 ((G : Int) + 1)] by rw [← hV]; exact ((K0_5.out.put 5 _).put 3 _))
      have K1_6 := Lib.hid (show Blk V7 (w.heap.size + 1) 26 #[.int .i64 0, .slice none 0 0, .int .i64 0, .int .i64 0, .int .i64 0, .int .i64 0] by rw [← hV]; exact ((K1_5.out.other (by first | (simp; done) | (simp; omega) | omega) _).other (by first | (simp; done) | (simp; omega) | omega) _))
      have K2_6 := Lib.hid (show Blk V7 (w.heap.size + 2) 30 #[.int .i64 0, .int .i64 0, .int .i64 0, .int .i64 0, .int .i64 0] by rw [← hV]; exact ((K2_5.out.other (by first | (simp; done) | (simp; omega) | omega) _).other (by first | (simp; done) | (simp; omega) | omega) _))
      clear hV B5 K0_5 K1_5 K2_5
      rw [← HG1.out]
      refine (implQueue_any rs RL.out (G + 1) (n - 1) (zs.drop 1) HN.out HI.out (by omega) (by omega) s (by have h := HSG.out; omega) V7).mono ?_
      rintro e w8 ⟨A9, c9, rfl, own9, hb⟩
      replace own9 := own_base own9 (show W.heap.size ≤ V7.heap.size by have hs := HS.out; have hk := K2_6.out.lt; omega)
      have R8 := Lib.hid (R7.out.below hb)
      have B7 := Lib.hid (below_chain B6.out hb)
      have K0_7 := Lib.hid (K0_6.out.below hb)
      have K1_7 := Lib.hid (K1_6.out.below hb)
      have K2_7 := Lib.hid (K2_6.out.below hb)
      clear hb B6 K0_6 K1_6 K2_6
      have O_7 := Lib.hid own9
      clear own9
      have x0_0 : w8.cell? ⟨w.heap.size, 0, none⟩ = some (.int .i64 p) := by rw [K0_7.out.cell]; rfl
      have x0_1 : w8.cell? ⟨w.heap.size, 1, none⟩ = some (.slice A n c) := by rw [K0_7.out.cell]; rfl
      have x0_2 : w8.cell? ⟨w.heap.size, 2, none⟩ = some (.int .i64 a) := by rw [K0_7.out.cell]; rfl
      have x0_3 : w8.cell? ⟨w.heap.size, 3, none⟩ = some (.int .i64 (b + 1)) := by rw [K0_7.out.cell]; rfl
      have x0_4 : w8.cell? ⟨w.heap.size, 4, none⟩ = some (.int .i64 s) := by rw [K0_7.out.cell]; rfl
      have x0_5 : w8.cell? ⟨w.heap.size, 5, none⟩ = some (.int .i64 ((G : Int) + 1)) := by rw [K0_7.out.cell]; rfl
      have y0_1 := K0_7.out.frozen 1
      have x1_0 : w8.cell? ⟨w.heap.size + 1, 0, none⟩ = some (.int .i64 0) := by rw [K1_7.out.cell]; rfl
      have y1_0 := K1_7.out.frozen 0
      have x1_1 : w8.cell? ⟨w.heap.size + 1, 1, none⟩ = some (.slice none 0 0) := by rw [K1_7.out.cell]; rfl
      have y1_1 := K1_7.out.frozen 1
      have x1_2 : w8.cell? ⟨w.heap.size + 1, 2, none⟩ = some (.int .i64 0) := by rw [K1_7.out.cell]; rfl
      have y1_2 := K1_7.out.frozen 2
      have x1_3 : w8.cell? ⟨w.heap.size + 1, 3, none⟩ = some (.int .i64 0) := by rw [K1_7.out.cell]; rfl
      have y1_3 := K1_7.out.frozen 3
      have x1_4 : w8.cell? ⟨w.heap.size + 1, 4, none⟩ = some (.int .i64 0) := by rw [K1_7.out.cell]; rfl
      have y1_4 := K1_7.out.frozen 4
      have x1_5 : w8.cell? ⟨w.heap.size + 1, 5, none⟩ = some (.int .i64 0) := by rw [K1_7.out.cell]; rfl
      have y1_5 := K1_7.out.frozen 5
      have x2_0 : w8.cell? ⟨w.heap.size + 2, 0, none⟩ = some (.int .i64 0) := by rw [K2_7.out.cell]; rfl
      have y2_0 := K2_7.out.frozen 0
      have x2_1 : w8.cell? ⟨w.heap.size + 2, 1, none⟩ = some (.int .i64 0) := by rw [K2_7.out.cell]; rfl
      have y2_1 := K2_7.out.frozen 1
      have x2_2 : w8.cell? ⟨w.heap.size + 2, 2, none⟩ = some (.int .i64 0) := by rw [K2_7.out.cell]; rfl
      have y2_2 := K2_7.out.frozen 2
      have x2_3 : w8.cell? ⟨w.heap.size + 2, 3, none⟩ = some (.int .i64 0) := by rw [K2_7.out.cell]; rfl
      have y2_3 := K2_7.out.frozen 3
      have x2_4 : w8.cell? ⟨w.heap.size + 2, 4, none⟩ = some (.int .i64 0) := by rw [K2_7.out.cell]; rfl
      have y2_4 := K2_7.out.frozen 4
      have u0 : w8.cell? ⟨V5.heap.size, 0, none⟩ = some (.int .i64 q0) := by rw [R8.out.cell]; rfl
      have u1 : w8.cell? ⟨V5.heap.size, 1, none⟩ = some (.int .i64 q1) := by rw [R8.out.cell]; rfl
      have u2 : w8.cell? ⟨V5.heap.size, 2, none⟩ = some (.int .i64 q2) := by rw [R8.out.cell]; rfl
      have u3 : w8.cell? ⟨V5.heap.size, 3, none⟩ = some (.int .i64 q3) := by rw [R8.out.cell]; rfl
      have u4 : w8.cell? ⟨V5.heap.size, 4, none⟩ = some (.int .i64 q4) := by rw [R8.out.cell]; rfl
      have hq4 := SZ4.out
      have hq5 := SZ5.out
      go_wp2
      go_region
      go_wp2
      clear x0_0 x0_1 x0_2 x0_3 x0_4 x0_5 y0_1 x1_0 y1_0 x1_1 y1_1 x1_2 y1_2 x1_3 y1_3 x1_4 y1_4 x1_5 y1_5 x2_0 y2_0 x2_1 y2_1 x2_2 y2_2 x2_3 y2_3 x2_4 y2_4 u0 u1 u2 u3 u4 hq4 hq5
      generalize hV : ((((((((((((w8.setCell _ _).setCell _ _).setCell _ _).setCell _ _).setCell _ _).setCell _ _).setCell _ _).setCell _ _).setCell _ _).setCell _ _).setCell _ _).setCell _ _).drew = Wf
      have B8 := Lib.hid (show Below w.heap.size w Wf by rw [← hV]; exact ((((((((((((B7.out.setCell (by first | (simp; done) | (simp; omega) | omega) _).setCell (by first | (simp; done) | (simp; omega) | omega) _).setCell (by first | (simp; done) | (simp; omega) | omega) _).setCell (by first | (simp; done) | (simp; omega) | omega) _).setCell (by first | (simp; done) | (simp; omega) | omega) _).setCell (by first | (simp; done) | (simp; omega) | omega) _).setCell (by first | (simp; done) | (simp; omega) | omega) _).setCell (by first | (simp; done) | (simp; omega) | omega) _).setCell (by first | (simp; done) | (simp; omega) | omega) _).setCell (by first | (simp; done) | (simp; omega) | omega) _).setCell (by first | (simp; done) | (simp; omega) | omega) _).setCell (by first | (simp; done) | (simp; omega) | omega) _).drew)
      have O_8 := Lib.hid (show Wf.ownsRow W.heap.size 30 5 (.slice A9 (n - 1) c9) (n - 1) (rcCells (zs.drop 1)) by rw [← hV]; exact (own_set (own_set (own_set (own_set (own_set (own_set (own_set (own_set (own_set (own_set (own_set (own_set O_7.out _ (by have hs := HS.out; first | (simp; done) | (simp; omega) | omega)) _ (by have hs := HS.out; first | (simp; done) | (simp; omega) | omega)) _ (by have hs := HS.out; first | (simp; done) | (simp; omega) | omega)) _ (by have hs := HS.out; first | (simp; done) | (simp; omega) | omega)) _ (by have hs := HS.out; first | (simp; done) | (simp; omega) | omega)) _ (by have hs := HS.out; first | (simp; done) | (simp; omega) | omega)) _ (by have hs := HS.out; first | (simp; done) | (simp; omega) | omega)) _ (by have hs := HS.out; first | (simp; done) | (simp; omega) | omega)) _ (by have hs := HS.out; first | (simp; done) | (simp; omega) | omega)) _ (by have hs := HS.out; first | (simp; done) | (simp; omega) | omega)) _ (by have hs := HS.out; first | (simp; done) | (simp; omega) | omega)) _ (by have hs := HS.out; first | (simp; done) | (simp; omega) | omega)).drew)
      have K0_8 := Lib.hid (show Blk Wf (w.heap.size) 26 #[.int .i64 p, .slice A9 (n - 1) c9, .int .i64 a, .int .i64 (b + 1), .int .i64 s, .int .i64 ((G : Int) + 1)] by rw [← hV]; exact ((((((((((((K0_7.out.put 1 _).other (by first | (simp; done) | (simp; omega) | omega) _).other (by first | (simp; done) | (simp; omega) | omega) _).other (by first | (simp; done) | (simp; omega) | omega) _).other (by first | (simp; done) | (simp; omega) | omega) _).other (by first | (simp; done) | (simp; omega) | omega) _).other (by first | (simp; done) | (simp; omega) | omega) _).other (by first | (simp; done) | (simp; omega) | omega) _).other (by first | (simp; done) | (simp; omega) | omega) _).other (by first | (simp; done) | (simp; omega) | omega) _).other (by first | (simp; done) | (simp; omega) | omega) _).other (by first | (simp; done) | (simp; omega) | omega) _).drewN 1)
      have K1_8 := Lib.hid (show Blk Wf (w.heap.size + 1) 26 #[.int .i64 p, .slice A9 (n - 1) c9, .int .i64 a, .int .i64 (b + 1), .int .i64 s, .int .i64 ((G : Int) + 1)] by rw [← hV]; exact ((((((((((((K1_7.out.other (by first | (simp; done) | (simp; omega) | omega) _).put 0 _).put 1 _).put 2 _).put 3 _).put 4 _).put 5 _).other (by first | (simp; done) | (simp; omega) | omega) _).other (by first | (simp; done) | (simp; omega) | omega) _).other (by first | (simp; done) | (simp; omega) | omega) _).other (by first | (simp; done) | (simp; omega) | omega) _).other (by first | (simp; done) | (simp; omega) | omega) _).drewN 1)
      have K2_8 := Lib.hid (show Blk Wf (w.heap.size + 2) 30 #[.int .i64 q0, .int .i64 q1, .int .i64 q2, .int .i64 q3, .int .i64 q4] by rw [← hV]; exact ((((((((((((K2_7.out.other (by first | (simp; done) | (simp; omega) | omega) _).other (by first | (simp; done) | (simp; omega) | omega) _).other (by first | (simp; done) | (simp; omega) | omega) _).other (by first | (simp; done) | (simp; omega) | omega) _).other (by first | (simp; done) | (simp; omega) | omega) _).other (by first | (simp; done) | (simp; omega) | omega) _).other (by first | (simp; done) | (simp; omega) | omega) _).put 0 _).put 1 _).put 2 _).put 3 _).put 4 _).drewN 1)
      clear hV B7 K0_7 K1_7 K2_7 O_7
      have r1_0 : Wf.cell? ⟨w.heap.size + 1, 0, none⟩ = some (.int .i64 p) := by rw [K1_8.out.cell]; rfl
      have r1_1 : Wf.cell? ⟨w.heap.size + 1, 1, none⟩ = some (.slice A9 (n - 1) c9) := by rw [K1_8.out.cell]; rfl
      have r1_2 : Wf.cell? ⟨w.heap.size + 1, 2, none⟩ = some (.int .i64 a) := by rw [K1_8.out.cell]; rfl
      have r1_3 : Wf.cell? ⟨w.heap.size + 1, 3, none⟩ = some (.int .i64 (b + 1)) := by rw [K1_8.out.cell]; rfl
      have r1_4 : Wf.cell? ⟨w.heap.size + 1, 4, none⟩ = some (.int .i64 s) := by rw [K1_8.out.cell]; rfl
      have r1_5 : Wf.cell? ⟨w.heap.size + 1, 5, none⟩ = some (.int .i64 ((G : Int) + 1)) := by rw [K1_8.out.cell]; rfl
      have r2_0 : Wf.cell? ⟨w.heap.size + 2, 0, none⟩ = some (.int .i64 q0) := by rw [K2_8.out.cell]; rfl
      have r2_1 : Wf.cell? ⟨w.heap.size + 2, 1, none⟩ = some (.int .i64 q1) := by rw [K2_8.out.cell]; rfl
      have r2_2 : Wf.cell? ⟨w.heap.size + 2, 2, none⟩ = some (.int .i64 q2) := by rw [K2_8.out.cell]; rfl
      have r2_3 : Wf.cell? ⟨w.heap.size + 2, 3, none⟩ = some (.int .i64 q3) := by rw [K2_8.out.cell]; rfl
      have r2_4 : Wf.cell? ⟨w.heap.size + 2, 4, none⟩ = some (.int .i64 q4) := by rw [K2_8.out.cell]; rfl
      exact bodyPost_ret (v := .tuple #[.agg #[.int .i64 p, .slice A9 (n - 1) c9, .int .i64 a, .int .i64 (b + 1), .int .i64 s, .int .i64 ((G : Int) + 1)], .agg #[.int .i64 q0, .int .i64 q1, .int .i64 q2, .int .i64 q3, .int .i64 q4], .bool true]) (by simp [results, Try.results17, go_sem, r1_0, r1_1, r1_2, r1_3, r1_4, r1_5, r2_0, r2_1, r2_2, r2_3, r2_4]) rfl ⟨A9, c9, rfl, own_base O_8.out (by have hs := HS.out; omega), B8.out⟩

end Go.Proofs.Ythkkleicekhelaa.hexes
