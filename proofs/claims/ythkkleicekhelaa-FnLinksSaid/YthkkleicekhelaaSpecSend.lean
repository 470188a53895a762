/-
  The reference's SendOn.
-/
import Derived.Test.YthkkleicekhelaaLkCopy
import Derived.Test.YthkkleicekhelaaSpecLk1
namespace Go.Proofs.Ythkkleicekhelaa.hexes
open Go.RowKit

set_option maxRecDepth 100000 in
set_option maxHeartbeats 4000000 in
theorem specSend_any (n : Nat) (zs : List Rc) (hz : zs.length = n) (A : Option Addr) (c : Nat) (hA : A = none → c = 0) (p a b s g p0 p1 p2 p3 p4 : Int) (w : World) (h1 : Rcs w A zs) (hn : n ≤ 1048576) {r : Bool} {us : List Rc} {m : Nat} (hr : sendOk p a b s g n zs (p0, (p1, p2), p3, p4) = r) (hu : sendQ r zs (p0, (p1, p2), p3, p4) = us) (hm : us.length = m) :
    Calls Try.prog 12 #[.agg #[.int .i64 p, .slice A n c, .int .i64 a, .int .i64 b, .int .i64 s, .int .i64 g], .agg #[.int .i64 p0, .int .i64 p1, .int .i64 p2, .int .i64 p3, .int .i64 p4]] w fun e w' => ∃ A1 c1, e = .returned (.tuple #[.agg #[.int .i64 p, .slice A1 m c1, .int .i64 (turnI r a (-1)), .int .i64 b, .int .i64 (turnI r s 1), .int .i64 g], .bool r]) ∧ w'.ownsRow w.heap.size 30 5 (.slice A1 m c1) m (rcCells us) ∧ Below w.heap.size w w' := by
  have H1 := Lib.hid h1
  have HZ := Lib.hid hz
  have HA := Lib.hid hA
  have HR := Lib.hid hr
  have HU := Lib.hid hu
  have HM := Lib.hid hm
  clear h1 hz hA hr hu hm
  go_enter Try.func12, Try.ntmps12
  go_wp2_with fail
  generalize hW : (((w.alloc _).alloc _).alloc _) = W
  have B0 := Lib.hid (show Below w.heap.size w W by rw [← hW]; exact ((((Below.refl _ _).alloc (by first | (simp; done) | (simp; omega) | omega) _).alloc (by first | (simp; done) | (simp; omega) | omega) _).alloc (by first | (simp; done) | (simp; omega) | omega) _))
  have HS := Lib.hid (show W.heap.size = w.heap.size + 3 by rw [← hW]; simp)
  have K0_0 := Lib.hid (show Blk W (w.heap.size) 26 #[.int .i64 p, .slice A n c, .int .i64 a, .int .i64 b, .int .i64 s, .int .i64 g] by rw [← hW]; exact ((Below.heap_alloc _ _ _ (by first | (simp; done) | (simp; omega))).trans ((Below.heap_alloc _ _ _ (by first | (simp; done) | (simp; omega))).trans (Blk.new _ _ _))))
  have K1_0 := Lib.hid (show Blk W (w.heap.size + 1) 30 #[.int .i64 p0, .int .i64 p1, .int .i64 p2, .int .i64 p3, .int .i64 p4] by rw [← hW]; exact ((Below.heap_alloc _ _ _ (by first | (simp; done) | (simp; omega))).trans ((show w.heap.size + 1 = ((w.alloc _)).heap.size by simp) ▸ Blk.new _ _ _)))
  have K2_0 := Lib.hid (show Blk W (w.heap.size + 2) 26 #[.int .i64 0, .slice none 0 0, .int .i64 0, .int .i64 0, .int .i64 0, .int .i64 0] by rw [← hW]; exact ((show w.heap.size + 2 = (((w.alloc _).alloc _)).heap.size by simp) ▸ Blk.new _ _ _))
  clear hW
  refine (specCopy_any n zs HZ.out A c HA.out p a b s g W (H1.out.below B0.out) hn).mono ?_
  rintro e w1 ⟨A8, c8, rfl, own8, hb⟩
  have B1 := Lib.hid (below_chain B0.out hb)
  have K0_1 := Lib.hid (K0_0.out.below hb)
  have K1_1 := Lib.hid (K1_0.out.below hb)
  have K2_1 := Lib.hid (K2_0.out.below hb)
  clear hb B0 K0_0 K1_0 K2_0
  have O_1 := Lib.hid own8
  clear own8
  have x0_0 : w1.cell? ⟨w.heap.size, 0, none⟩ = some (.int .i64 p) := by rw [K0_1.out.cell]; rfl
  have y0_0 := K0_1.out.frozen 0
  have x0_1 : w1.cell? ⟨w.heap.size, 1, none⟩ = some (.slice A n c) := by rw [K0_1.out.cell]; rfl
  have y0_1 := K0_1.out.frozen 1
  have x0_2 : w1.cell? ⟨w.heap.size, 2, none⟩ = some (.int .i64 a) := by rw [K0_1.out.cell]; rfl
  have y0_2 := K0_1.out.frozen 2
  have x0_3 : w1.cell? ⟨w.heap.size, 3, none⟩ = some (.int .i64 b) := by rw [K0_1.out.cell]; rfl
  have y0_3 := K0_1.out.frozen 3
  have x0_4 : w1.cell? ⟨w.heap.size, 4, none⟩ = some (.int .i64 s) := by rw [K0_1.out.cell]; rfl
  have y0_4 := K0_1.out.frozen 4
  have x0_5 : w1.cell? ⟨w.heap.size, 5, none⟩ = some (.int .i64 g) := by rw [K0_1.out.cell]; rfl
  have y0_5 := K0_1.out.frozen 5
  go_wp2_with fail
  clear x0_0 y0_0 x0_1 y0_1 x0_2 y0_2 x0_3 y0_3 x0_4 y0_4 x0_5 y0_5
  generalize hV : ((((((w1.setCell _ _).setCell _ _).setCell _ _).setCell _ _).setCell _ _).setCell _ _) = V1
  have B2 := Lib.hid (show Below w.heap.size w V1 by rw [← hV]; exact ((((((B1.out.setCell (by first | (simp; done) | (simp; omega) | omega) _).setCell (by first | (simp; done) | (simp; omega) | omega) _).setCell (by first | (simp; done) | (simp; omega) | omega) _).setCell (by first | (simp; done) | (simp; omega) | omega) _).setCell (by first | (simp; done) | (simp; omega) | omega) _).setCell (by first | (simp; done) | (simp; omega) | omega) _))
  have O_2 := Lib.hid (show V1.ownsRow W.heap.size 30 5 (.slice A8 n c8) (n) (rcCells (zs)) by rw [← hV]; exact (own_set (own_set (own_set (own_set (own_set (own_set O_1.out _ (by have hs := HS.out; first | (simp; done) | (simp; omega) | omega)) _ (by have hs := HS.out; first | (simp; done) | (simp; omega) | omega)) _ (by have hs := HS.out; first | (simp; done) | (simp; omega) | omega)) _ (by have hs := HS.out; first | (simp; done) | (simp; omega) | omega)) _ (by have hs := HS.out; first | (simp; done) | (simp; omega) | omega)) _ (by have hs := HS.out; first | (simp; done) | (simp; omega) | omega)))
  have K0_2 := Lib.hid (show Blk V1 (w.heap.size) 26 #[.int .i64 p, .slice A8 n c8, .int .i64 a, .int .i64 b, .int .i64 s, .int .i64 g] by rw [← hV]; exact ((((((K0_1.out.put 0 _).put 1 _).put 2 _).put 3 _).put 4 _).put 5 _))
  have K1_2 := Lib.hid (show Blk V1 (w.heap.size + 1) 30 #[.int .i64 p0, .int .i64 p1, .int .i64 p2, .int .i64 p3, .int .i64 p4] by rw [← hV]; exact ((((((K1_1.out.other (by first | (simp; done) | (simp; omega) | omega) _).other (by first | (simp; done) | (simp; omega) | omega) _).other (by first | (simp; done) | (simp; omega) | omega) _).other (by first | (simp; done) | (simp; omega) | omega) _).other (by first | (simp; done) | (simp; omega) | omega) _).other (by first | (simp; done) | (simp; omega) | omega) _))
  have K2_2 := Lib.hid (show Blk V1 (w.heap.size + 2) 26 #[.int .i64 0, .slice none 0 0, .int .i64 0, .int .i64 0, .int .i64 0, .int .i64 0] by rw [← hV]; exact ((((((K2_1.out.other (by first | (simp; done) | (simp; omega) | omega) _).other (by first | (simp; done) | (simp; omega) | omega) _).other (by first | (simp; done) | (simp; omega) | omega) _).other (by first | (simp; done) | (simp; omega) | omega) _).other (by first | (simp; done) | (simp; omega) | omega) _).other (by first | (simp; done) | (simp; omega) | omega) _))
  clear hV B1 K0_1 K1_1 K2_1 O_1
  refine (specLkOk_any n zs HZ.out A8 c8 p a b s g V1 (own_rcs O_2.out) (by omega)).mono ?_
  rintro e w2 ⟨rfl, hb⟩
  have B3 := Lib.hid (below_chain B2.out hb)
  have K0_3 := Lib.hid (K0_2.out.below hb)
  have K1_3 := Lib.hid (K1_2.out.below hb)
  have K2_3 := Lib.hid (K2_2.out.below hb)
  have O_3 := Lib.hid (own_below O_2.out hb)
  clear hb B2 K0_2 K1_2 K2_2 O_2
  cases hok : okLk p a b s g n zs with
  | false =>
    obtain rfl : r = false := by rw [← HR.out]; unfold sendOk; rw [hok]; rfl
    clear hok
    obtain rfl : zs = us := HU.out
    obtain rfl : n = m := HZ.out.symm.trans HM.out
    have x0_0 : w2.cell? ⟨w.heap.size, 0, none⟩ = some (.int .i64 p) := by rw [K0_3.out.cell]; rfl
    have x0_1 : w2.cell? ⟨w.heap.size, 1, none⟩ = some (.slice A8 n c8) := by rw [K0_3.out.cell]; rfl
    have x0_2 : w2.cell? ⟨w.heap.size, 2, none⟩ = some (.int .i64 a) := by rw [K0_3.out.cell]; rfl
    have x0_3 : w2.cell? ⟨w.heap.size, 3, none⟩ = some (.int .i64 b) := by rw [K0_3.out.cell]; rfl
    have x0_4 : w2.cell? ⟨w.heap.size, 4, none⟩ = some (.int .i64 s) := by rw [K0_3.out.cell]; rfl
    have x0_5 : w2.cell? ⟨w.heap.size, 5, none⟩ = some (.int .i64 g) := by rw [K0_3.out.cell]; rfl
    have x2_0 : w2.cell? ⟨w.heap.size + 2, 0, none⟩ = some (.int .i64 0) := by rw [K2_3.out.cell]; rfl
    have y2_0 := K2_3.out.frozen 0
    have x2_1 : w2.cell? ⟨w.heap.size + 2, 1, none⟩ = some (.slice none 0 0) := by rw [K2_3.out.cell]; rfl
    have y2_1 := K2_3.out.frozen 1
    have x2_2 : w2.cell? ⟨w.heap.size + 2, 2, none⟩ = some (.int .i64 0) := by rw [K2_3.out.cell]; rfl
    have y2_2 := K2_3.out.frozen 2
    have x2_3 : w2.cell? ⟨w.heap.size + 2, 3, none⟩ = some (.int .i64 0) := by rw [K2_3.out.cell]; rfl
    have y2_3 := K2_3.out.frozen 3
    have x2_4 : w2.cell? ⟨w.heap.size + 2, 4, none⟩ = some (.int .i64 0) := by rw [K2_3.out.cell]; rfl
    have y2_4 := K2_3.out.frozen 4
    have x2_5 : w2.cell? ⟨w.heap.size + 2, 5, none⟩ = some (.int .i64 0) := by rw [K2_3.out.cell]; rfl
    have y2_5 := K2_3.out.frozen 5
    go_wp2_with fail
    clear x0_0 x0_1 x0_2 x0_3 x0_4 x0_5 x2_0 y2_0 x2_1 y2_1 x2_2 y2_2 x2_3 y2_3 x2_4 y2_4 x2_5 y2_5
    generalize hV : ((((((w2.setCell _ _).setCell _ _).setCell _ _).setCell _ _).setCell _ _).setCell _ _) = Wf
    have B4 := Lib.hid (show Below w.heap.size w Wf by rw [← hV]; exact ((((((B3.out.setCell (by first | (simp; done) | (simp; omega) | omega) _).setCell (by first | (simp; done) | (simp; omega) | omega) _).setCell (by first | (simp; done) | (simp; omega) | omega) _).setCell (by first | (simp; done) | (simp; omega) | omega) _).setCell (by first | (simp; done) | (simp; omega) | omega) _).setCell (by first | (simp; done) | (simp; omega) | omega) _))
    have O_4 := Lib.hid (show Wf.ownsRow W.heap.size 30 5 (.slice A8 n c8) (n) (rcCells (zs)) by rw [← hV]; exact (own_set (own_set (own_set (own_set (own_set (own_set O_3.out _ (by have hs := HS.out; first | (simp; done) | (simp; omega) | omega)) _ (by have hs := HS.out; first | (simp; done) | (simp; omega) | omega)) _ (by have hs := HS.out; first | (simp; done) | (simp; omega) | omega)) _ (by have hs := HS.out; first | (simp; done) | (simp; omega) | omega)) _ (by have hs := HS.out; first | (simp; done) | (simp; omega) | omega)) _ (by have hs := HS.out; first | (simp; done) | (simp; omega) | omega)))
    have K0_4 := Lib.hid (show Blk Wf (w.heap.size) 26 #[.int .i64 p, .slice A8 n c8, .int .i64 a, .int .i64 b, .int .i64 s, .int .i64 g] by rw [← hV]; exact ((((((K0_3.out.other (by first | (simp; done) | (simp; omega) | omega) _).other (by first | (simp; done) | (simp; omega) | omega) _).other (by first | (simp; done) | (simp; omega) | omega) _).other (by first | (simp; done) | (simp; omega) | omega) _).other (by first | (simp; done) | (simp; omega) | omega) _).other (by first | (simp; done) | (simp; omega) | omega) _))
    have K1_4 := Lib.hid (show Blk Wf (w.heap.size + 1) 30 #[.int .i64 p0, .int .i64 p1, .int .i64 p2, .int .i64 p3, .int .i64 p4] by rw [← hV]; exact ((((((K1_3.out.other (by first | (simp; done) | (simp; omega) | omega) _).other (by first | (simp; done) | (simp; omega) | omega) _).other (by first | (simp; done) | (simp; omega) | omega) _).other (by first | (simp; done) | (simp; omega) | omega) _).other (by first | (simp; done) | (simp; omega) | omega) _).other (by first | (simp; done) | (simp; omega) | omega) _))
    have K2_4 := Lib.hid (show Blk Wf (w.heap.size + 2) 26 #[.int .i64 p, .slice A8 n c8, .int .i64 a, .int .i64 b, .int .i64 s, .int .i64 g] by rw [← hV]; exact ((((((K2_3.out.put 0 _).put 1 _).put 2 _).put 3 _).put 4 _).put 5 _))
    clear hV B3 K0_3 K1_3 K2_3 O_3
    have r2_0 : Wf.cell? ⟨w.heap.size + 2, 0, none⟩ = some (.int .i64 p) := by rw [K2_4.out.cell]; rfl
    have r2_1 : Wf.cell? ⟨w.heap.size + 2, 1, none⟩ = some (.slice A8 n c8) := by rw [K2_4.out.cell]; rfl
    have r2_2 : Wf.cell? ⟨w.heap.size + 2, 2, none⟩ = some (.int .i64 a) := by rw [K2_4.out.cell]; rfl
    have r2_3 : Wf.cell? ⟨w.heap.size + 2, 3, none⟩ = some (.int .i64 b) := by rw [K2_4.out.cell]; rfl
    have r2_4 : Wf.cell? ⟨w.heap.size + 2, 4, none⟩ = some (.int .i64 s) := by rw [K2_4.out.cell]; rfl
    have r2_5 : Wf.cell? ⟨w.heap.size + 2, 5, none⟩ = some (.int .i64 g) := by rw [K2_4.out.cell]; rfl
    exact bodyPost_ret (v := .tuple #[.agg #[.int .i64 p, .slice A8 n c8, .int .i64 a, .int .i64 b, .int .i64 s, .int .i64 g], .bool false]) (by simp [results, Try.results12, go_sem, r2_0, r2_1, r2_2, r2_3, r2_4, r2_5]) rfl ⟨A8, c8, rfl, own_base O_4.out (by have hs := HS.out; omega), B4.out⟩
  | true =>
    have x0_0 : w2.cell? ⟨w.heap.size, 0, none⟩ = some (.int .i64 p) := by rw [K0_3.out.cell]; rfl
    have x0_1 : w2.cell? ⟨w.heap.size, 1, none⟩ = some (.slice A8 n c8) := by rw [K0_3.out.cell]; rfl
    have x0_2 : w2.cell? ⟨w.heap.size, 2, none⟩ = some (.int .i64 a) := by rw [K0_3.out.cell]; rfl
    have x0_3 : w2.cell? ⟨w.heap.size, 3, none⟩ = some (.int .i64 b) := by rw [K0_3.out.cell]; rfl
    have x0_4 : w2.cell? ⟨w.heap.size, 4, none⟩ = some (.int .i64 s) := by rw [K0_3.out.cell]; rfl
    have x0_5 : w2.cell? ⟨w.heap.size, 5, none⟩ = some (.int .i64 g) := by rw [K0_3.out.cell]; rfl
    have x1_0 : w2.cell? ⟨w.heap.size + 1, 0, none⟩ = some (.int .i64 p0) := by rw [K1_3.out.cell]; rfl
    have x1_1 : w2.cell? ⟨w.heap.size + 1, 1, none⟩ = some (.int .i64 p1) := by rw [K1_3.out.cell]; rfl
    have x1_2 : w2.cell? ⟨w.heap.size + 1, 2, none⟩ = some (.int .i64 p2) := by rw [K1_3.out.cell]; rfl
    have x1_3 : w2.cell? ⟨w.heap.size + 1, 3, none⟩ = some (.int .i64 p3) := by rw [K1_3.out.cell]; rfl
    have x1_4 : w2.cell? ⟨w.heap.size + 1, 4, none⟩ = some (.int .i64 p4) := by rw [K1_3.out.cell]; rfl
    go_wp2_with fail
    clear x0_0 x0_1 x0_2 x0_3 x0_4 x0_5 x1_0 x1_1 x1_2 x1_3 x1_4
    cases hrc : okRc (p0, (p1, p2), p3, p4) with
    | false =>
      refine (specRcOk_is hrc _).mono ?_
      rintro e w3 ⟨rfl, hb⟩
      have B4 := Lib.hid (below_chain B3.out hb)
      have K0_4 := Lib.hid (K0_3.out.below hb)
      have K1_4 := Lib.hid (K1_3.out.below hb)
      have K2_4 := Lib.hid (K2_3.out.below hb)
      have O_4 := Lib.hid (own_below O_3.out hb)
      clear hb B3 K0_3 K1_3 K2_3 O_3
      obtain rfl : r = false := by rw [← HR.out]; unfold sendOk; rw [hok, hrc]; rfl
      clear hok hrc
      obtain rfl : zs = us := HU.out
      obtain rfl : n = m := HZ.out.symm.trans HM.out
      have x0_0 : w3.cell? ⟨w.heap.size, 0, none⟩ = some (.int .i64 p) := by rw [K0_4.out.cell]; rfl
      have x0_1 : w3.cell? ⟨w.heap.size, 1, none⟩ = some (.slice A8 n c8) := by rw [K0_4.out.cell]; rfl
      have x0_2 : w3.cell? ⟨w.heap.size, 2, none⟩ = some (.int .i64 a) := by rw [K0_4.out.cell]; rfl
      have x0_3 : w3.cell? ⟨w.heap.size, 3, none⟩ = some (.int .i64 b) := by rw [K0_4.out.cell]; rfl
      have x0_4 : w3.cell? ⟨w.heap.size, 4, none⟩ = some (.int .i64 s) := by rw [K0_4.out.cell]; rfl
      have x0_5 : w3.cell? ⟨w.heap.size, 5, none⟩ = some (.int .i64 g) := by rw [K0_4.out.cell]; rfl
      have x2_0 : w3.cell? ⟨w.heap.size + 2, 0, none⟩ = some (.int .i64 0) := by rw [K2_4.out.cell]; rfl
      have y2_0 := K2_4.out.frozen 0
      have x2_1 : w3.cell? ⟨w.heap.size + 2, 1, none⟩ = some (.slice none 0 0) := by rw [K2_4.out.cell]; rfl
      have y2_1 := K2_4.out.frozen 1
      have x2_2 : w3.cell? ⟨w.heap.size + 2, 2, none⟩ = some (.int .i64 0) := by rw [K2_4.out.cell]; rfl
      have y2_2 := K2_4.out.frozen 2
      have x2_3 : w3.cell? ⟨w.heap.size + 2, 3, none⟩ = some (.int .i64 0) := by rw [K2_4.out.cell]; rfl
      have y2_3 := K2_4.out.frozen 3
      have x2_4 : w3.cell? ⟨w.heap.size + 2, 4, none⟩ = some (.int .i64 0) := by rw [K2_4.out.cell]; rfl
      have y2_4 := K2_4.out.frozen 4
      have x2_5 : w3.cell? ⟨w.heap.size + 2, 5, none⟩ = some (.int .i64 0) := by rw [K2_4.out.cell]; rfl
      have y2_5 := K2_4.out.frozen 5
      go_wp2_with fail
      clear x0_0 x0_1 x0_2 x0_3 x0_4 x0_5 x2_0 y2_0 x2_1 y2_1 x2_2 y2_2 x2_3 y2_3 x2_4 y2_4 x2_5 y2_5
      generalize hV : ((((((w3.setCell _ _).setCell _ _).setCell _ _).setCell _ _).setCell _ _).setCell _ _) = Wf
      have B5 := Lib.hid (show Below w.heap.size w Wf by rw [← hV]; exact ((((((B4.out.setCell (by first | (simp; done) | (simp; omega) | omega) _).setCell (by first | (simp; done) | (simp; omega) | omega) _).setCell (by first | (simp; done) | (simp; omega) | omega) _).setCell (by first | (simp; done) | (simp; omega) | omega) _).setCell (by first | (simp; done) | (simp; omega) | omega) _).setCell (by first | (simp; done) | (simp; omega) | omega) _))
      have O_5 := Lib.hid (show Wf.ownsRow W.heap.size 30 5 (.slice A8 n c8) (n) (rcCells (zs)) by rw [← hV]; exact (own_set (own_set (own_set (own_set (own_set (own_set O_4.out _ (by have hs := HS.out; first | (simp; done) | (simp; omega) | omega)) _ (by have hs := HS.out; first | (simp; done) | (simp; omega) | omega)) _ (by have hs := HS.out; first | (simp; done) | (simp; omega) | omega)) _ (by have hs := HS.out; first | (simp; done) | (simp; omega) | omega)) _ (by have hs := HS.out; first | (simp; done) | (simp; omega) | omega)) _ (by have hs := HS.out; first | (simp; done) | (simp; omega) | omega)))
      have K0_5 := Lib.hid (show Blk Wf (w.heap.size) 26 #[.int .i64 p, .slice A8 n c8, .int .i64 a, .int .i64 b, .int .i64 s, .int .i64 g] by rw [← hV]; exact ((((((K0_4.out.other (by first | (simp; done) | (simp; omega) | omega) _).other (by first | (simp; done) | (simp; omega) | omega) _).other (by first | (simp; done) | (simp; omega) | omega) _).other (by first | (simp; done) | (simp; omega) | omega) _).other (by first | (simp; done) | (simp; omega) | omega) _).other (by first | (simp; done) | (simp; omega) | omega) _))
      have K1_5 := Lib.hid (show Blk Wf (w.heap.size + 1) 30 #[.int .i64 p0, .int .i64 p1, .int .i64 p2, .int .i64 p3, .int .i64 p4] by rw [← hV]; exact ((((((K1_4.out.other (by first | (simp; done) | (simp; omega) | omega) _).other (by first | (simp; done) | (simp; omega) | omega) _).other (by first | (simp; done) | (simp; omega) | omega) _).other (by first | (simp; done) | (simp; omega) | omega) _).other (by first | (simp; done) | (simp; omega) | omega) _).other (by first | (simp; done) | (simp; omega) | omega) _))
      have K2_5 := Lib.hid (show Blk Wf (w.heap.size + 2) 26 #[.int .i64 p, .slice A8 n c8, .int .i64 a, .int .i64 b, .int .i64 s, .int .i64 g] by rw [← hV]; exact ((((((K2_4.out.put 0 _).put 1 _).put 2 _).put 3 _).put 4 _).put 5 _))
      clear hV B4 K0_4 K1_4 K2_4 O_4
      have r2_0 : Wf.cell? ⟨w.heap.size + 2, 0, none⟩ = some (.int .i64 p) := by rw [K2_5.out.cell]; rfl
      have r2_1 : Wf.cell? ⟨w.heap.size + 2, 1, none⟩ = some (.slice A8 n c8) := by rw [K2_5.out.cell]; rfl
      have r2_2 : Wf.cell? ⟨w.heap.size + 2, 2, none⟩ = some (.int .i64 a) := by rw [K2_5.out.cell]; rfl
      have r2_3 : Wf.cell? ⟨w.heap.size + 2, 3, none⟩ = some (.int .i64 b) := by rw [K2_5.out.cell]; rfl
      have r2_4 : Wf.cell? ⟨w.heap.size + 2, 4, none⟩ = some (.int .i64 s) := by rw [K2_5.out.cell]; rfl
      have r2_5 : Wf.cell? ⟨w.heap.size + 2, 5, none⟩ = some (.int .i64 g) := by rw [K2_5.out.cell]; rfl
      exact bodyPost_ret (v := .tuple #[.agg #[.int .i64 p, .slice A8 n c8, .int .i64 a, .int .i64 b, .int .i64 s, .int .i64 g], .bool false]) (by simp [results, Try.results12, go_sem, r2_0, r2_1, r2_2, r2_3, r2_4, r2_5]) rfl ⟨A8, c8, rfl, own_base O_5.out (by have hs := HS.out; omega), B5.out⟩
    | true =>
      refine (specRcOk_is hrc _).mono ?_
      rintro e w3 ⟨rfl, hb⟩
      have B4 := Lib.hid (below_chain B3.out hb)
      have K0_4 := Lib.hid (K0_3.out.below hb)
      have K1_4 := Lib.hid (K1_3.out.below hb)
      have K2_4 := Lib.hid (K2_3.out.below hb)
      have O_4 := Lib.hid (own_below O_3.out hb)
      clear hb B3 K0_3 K1_3 K2_3 O_3
      have K := okLk_iff.1 hok
      by_cases ha0 : a = 0
      · skip
        have qa : (a == 0) = true := by simpa using ha0
        obtain rfl : r = false := by rw [← HR.out]; unfold sendOk; rw [hok, hrc]; simp [ha0]
        clear hok hrc K ha0
        obtain rfl : zs = us := HU.out
        obtain rfl : n = m := HZ.out.symm.trans HM.out
        have x0_0 : w3.cell? ⟨w.heap.size, 0, none⟩ = some (.int .i64 p) := by rw [K0_4.out.cell]; rfl
        have x0_1 : w3.cell? ⟨w.heap.size, 1, none⟩ = some (.slice A8 n c8) := by rw [K0_4.out.cell]; rfl
        have x0_2 : w3.cell? ⟨w.heap.size, 2, none⟩ = some (.int .i64 a) := by rw [K0_4.out.cell]; rfl
        have x0_3 : w3.cell? ⟨w.heap.size, 3, none⟩ = some (.int .i64 b) := by rw [K0_4.out.cell]; rfl
        have x0_4 : w3.cell? ⟨w.heap.size, 4, none⟩ = some (.int .i64 s) := by rw [K0_4.out.cell]; rfl
        have x0_5 : w3.cell? ⟨w.heap.size, 5, none⟩ = some (.int .i64 g) := by rw [K0_4.out.cell]; rfl
        have x2_0 : w3.cell? ⟨w.heap.size + 2, 0, none⟩ = some (.int .i64 0) := by rw [K2_4.out.cell]; rfl
        have y2_0 := K2_4.out.frozen 0
        have x2_1 : w3.cell? ⟨w.heap.size + 2, 1, none⟩ = some (.slice none 0 0) := by rw [K2_4.out.cell]; rfl
        have y2_1 := K2_4.out.frozen 1
        have x2_2 : w3.cell? ⟨w.heap.size + 2, 2, none⟩ = some (.int .i64 0) := by rw [K2_4.out.cell]; rfl
        have y2_2 := K2_4.out.frozen 2
        have x2_3 : w3.cell? ⟨w.heap.size + 2, 3, none⟩ = some (.int .i64 0) := by rw [K2_4.out.cell]; rfl
        have y2_3 := K2_4.out.frozen 3
        have x2_4 : w3.cell? ⟨w.heap.size + 2, 4, none⟩ = some (.int .i64 0) := by rw [K2_4.out.cell]; rfl
        have y2_4 := K2_4.out.frozen 4
        have x2_5 : w3.cell? ⟨w.heap.size + 2, 5, none⟩ = some (.int .i64 0) := by rw [K2_4.out.cell]; rfl
        have y2_5 := K2_4.out.frozen 5
        go_wp2_with fail
        clear x0_0 x0_1 x0_2 x0_3 x0_4 x0_5 x2_0 y2_0 x2_1 y2_1 x2_2 y2_2 x2_3 y2_3 x2_4 y2_4 x2_5 y2_5
        generalize hV : ((((((w3.setCell _ _).setCell _ _).setCell _ _).setCell _ _).setCell _ _).setCell _ _) = Wf
        have B5 := Lib.hid (show Below w.heap.size w Wf by rw [← hV]; exact ((((((B4.out.setCell (by first | (simp; done) | (simp; omega) | omega) _).setCell (by first | (simp; done) | (simp; omega) | omega) _).setCell (by first | (simp; done) | (simp; omega) | omega) _).setCell (by first | (simp; done) | (simp; omega) | omega) _).setCell (by first | (simp; done) | (simp; omega) | omega) _).setCell (by first | (simp; done) | (simp; omega) | omega) _))
        have O_5 := Lib.hid (show Wf.ownsRow W.heap.size 30 5 (.slice A8 n c8) (n) (rcCells (zs)) by rw [← hV]; exact (own_set (own_set (own_set (own_set (own_set (own_set O_4.out _ (by have hs := HS.out; first | (simp; done) | (simp; omega) | omega)) _ (by have hs := HS.out; first | (simp; done) | (simp; omega) | omega)) _ (by have hs := HS.out; first | (simp; done) | (simp; omega) | omega)) _ (by have hs := HS.out; first | (simp; done) | (simp; omega) | omega)) _ (by have hs := HS.out; first | (simp; done) | (simp; omega) | omega)) _ (by have hs := HS.out; first | (simp; done) | (simp; omega) | omega)))
        have K0_5 := Lib.hid (show Blk Wf (w.heap.size) 26 #[.int .i64 p, .slice A8 n c8, .int .i64 a, .int .i64 b, .int .i64 s, .int .i64 g] by rw [← hV]; exact ((((((K0_4.out.other (by first | (simp; done) | (simp; omega) | omega) _).other (by first | (simp; done) | (simp; omega) | omega) _).other (by first | (simp; done) | (simp; omega) | omega) _).other (by first | (simp; done) | (simp; omega) | omega) _).other (by first | (simp; done) | (simp; omega) | omega) _).other (by first | (simp; done) | (simp; omega) | omega) _))
        have K1_5 := Lib.hid (show Blk Wf (w.heap.size + 1) 30 #[.int .i64 p0, .int .i64 p1, .int .i64 p2, .int .i64 p3, .int .i64 p4] by rw [← hV]; exact ((((((K1_4.out.other (by first | (simp; done) | (simp; omega) | omega) _).other (by first | (simp; done) | (simp; omega) | omega) _).other (by first | (simp; done) | (simp; omega) | omega) _).other (by first | (simp; done) | (simp; omega) | omega) _).other (by first | (simp; done) | (simp; omega) | omega) _).other (by first | (simp; done) | (simp; omega) | omega) _))
        have K2_5 := Lib.hid (show Blk Wf (w.heap.size + 2) 26 #[.int .i64 p, .slice A8 n c8, .int .i64 a, .int .i64 b, .int .i64 s, .int .i64 g] by rw [← hV]; exact ((((((K2_4.out.put 0 _).put 1 _).put 2 _).put 3 _).put 4 _).put 5 _))
        clear hV B4 K0_4 K1_4 K2_4 O_4
        have r2_0 : Wf.cell? ⟨w.heap.size + 2, 0, none⟩ = some (.int .i64 p) := by rw [K2_5.out.cell]; rfl
        have r2_1 : Wf.cell? ⟨w.heap.size + 2, 1, none⟩ = some (.slice A8 n c8) := by rw [K2_5.out.cell]; rfl
        have r2_2 : Wf.cell? ⟨w.heap.size + 2, 2, none⟩ = some (.int .i64 a) := by rw [K2_5.out.cell]; rfl
        have r2_3 : Wf.cell? ⟨w.heap.size + 2, 3, none⟩ = some (.int .i64 b) := by rw [K2_5.out.cell]; rfl
        have r2_4 : Wf.cell? ⟨w.heap.size + 2, 4, none⟩ = some (.int .i64 s) := by rw [K2_5.out.cell]; rfl
        have r2_5 : Wf.cell? ⟨w.heap.size + 2, 5, none⟩ = some (.int .i64 g) := by rw [K2_5.out.cell]; rfl
        exact bodyPost_ret (v := .tuple #[.agg #[.int .i64 p, .slice A8 n c8, .int .i64 a, .int .i64 b, .int .i64 s, .int .i64 g], .bool false]) (by simp [results, Try.results12, go_sem, r2_0, r2_1, r2_2, r2_3, r2_4, r2_5]) rfl ⟨A8, c8, rfl, own_base O_5.out (by have hs := HS.out; omega), B5.out⟩
      · skip
        have qa : (a == 0) = false := by simpa using ha0
        by_cases hs9 : s = 1000000000
        · skip
          have qs : decide (s ≥ 1000000000) = true := decide_eq_true (by omega)
          obtain rfl : r = false := by rw [← HR.out]; unfold sendOk; rw [hok, hrc]; simp [hs9]
          clear hok hrc K ha0 hs9
          obtain rfl : zs = us := HU.out
          obtain rfl : n = m := HZ.out.symm.trans HM.out
          have x0_0 : w3.cell? ⟨w.heap.size, 0, none⟩ = some (.int .i64 p) := by rw [K0_4.out.cell]; rfl
          have x0_1 : w3.cell? ⟨w.heap.size, 1, none⟩ = some (.slice A8 n c8) := by rw [K0_4.out.cell]; rfl
          have x0_2 : w3.cell? ⟨w.heap.size, 2, none⟩ = some (.int .i64 a) := by rw [K0_4.out.cell]; rfl
          have x0_3 : w3.cell? ⟨w.heap.size, 3, none⟩ = some (.int .i64 b) := by rw [K0_4.out.cell]; rfl
          have x0_4 : w3.cell? ⟨w.heap.size, 4, none⟩ = some (.int .i64 s) := by rw [K0_4.out.cell]; rfl
          have x0_5 : w3.cell? ⟨w.heap.size, 5, none⟩ = some (.int .i64 g) := by rw [K0_4.out.cell]; rfl
          have x2_0 : w3.cell? ⟨w.heap.size + 2, 0, none⟩ = some (.int .i64 0) := by rw [K2_4.out.cell]; rfl
          have y2_0 := K2_4.out.frozen 0
          have x2_1 : w3.cell? ⟨w.heap.size + 2, 1, none⟩ = some (.slice none 0 0) := by rw [K2_4.out.cell]; rfl
          have y2_1 := K2_4.out.frozen 1
          have x2_2 : w3.cell? ⟨w.heap.size + 2, 2, none⟩ = some (.int .i64 0) := by rw [K2_4.out.cell]; rfl
          have y2_2 := K2_4.out.frozen 2
          have x2_3 : w3.cell? ⟨w.heap.size + 2, 3, none⟩ = some (.int .i64 0) := by rw [K2_4.out.cell]; rfl
          have y2_3 := K2_4.out.frozen 3
          have x2_4 : w3.cell? ⟨w.heap.size + 2, 4, none⟩ = some (.int .i64 0) := by rw [K2_4.out.cell]; rfl
          have y2_4 := K2_4.out.frozen 4
          have x2_5 : w3.cell? ⟨w.heap.size + 2, 5, none⟩ = some (.int .i64 0) := by rw [K2_4.out.cell]; rfl
          have y2_5 := K2_4.out.frozen 5
          go_wp2_with fail
          clear x0_0 x0_1 x0_2 x0_3 x0_4 x0_5 x2_0 y2_0 x2_1 y2_1 x2_2 y2_2 x2_3 y2_3 x2_4 y2_4 x2_5 y2_5
          generalize hV : ((((((w3.setCell _ _).setCell _ _).setCell _ _).setCell _ _).setCell _ _).setCell _ _) = Wf
          have B5 := Lib.hid (show Below w.heap.size w Wf by rw [← hV]; exact ((((((B4.out.setCell (by first | (simp; done) | (simp; omega) | omega) _).setCell (by first | (simp; done) | (simp; omega) | omega) _).setCell (by first | (simp; done) | (simp; omega) | omega) _).setCell (by first | (simp; done) | (simp; omega) | omega) _).setCell (by first | (simp; done) | (simp; omega) | omega) _).setCell (by first | (simp; done) | (simp; omega) | omega) _))
          have O_5 := Lib.hid (show Wf.ownsRow W.heap.size 30 5 (.slice A8 n c8) (n) (rcCells (zs)) by rw [← hV]; exact (own_set (own_set (own_set (own_set (own_set (own_set O_4.out _ (by have hs := HS.out; first | (simp; done) | (simp; omega) | omega)) _ (by have hs := HS.out; first | (simp; done) | (simp; omega) | omega)) _ (by have hs := HS.out; first | (simp; done) | (simp; omega) | omega)) _ (by have hs := HS.out; first | (simp; done) | (simp; omega) | omega)) _ (by have hs := HS.out; first | (simp; done) | (simp; omega) | omega)) _ (by have hs := HS.out; first | (simp; done) | (simp; omega) | omega)))
          have K0_5 := Lib.hid (show Blk Wf (w.heap.size) 26 #[.int .i64 p, .slice A8 n c8, .int .i64 a, .int .i64 b, .int .i64 s, .int .i64 g] by rw [← hV]; exact ((((((K0_4.out.other (by first | (simp; done) | (simp; omega) | omega) _).other (by first | (simp; done) | (simp; omega) | omega) _).other (by first | (simp; done) | (simp; omega) | omega) _).other (by first | (simp; done) | (simp; omega) | omega) _).other (by first | (simp; done) | (simp; omega) | omega) _).other (by first | (simp; done) | (simp; omega) | omega) _))
          have K1_5 := Lib.hid (show Blk Wf (w.heap.size + 1) 30 #[.int .i64 p0, .int .i64 p1, .int .i64 p2, .int .i64 p3, .int .i64 p4] by rw [← hV]; exact ((((((K1_4.out.other (by first | (simp; done) | (simp; omega) | omega) _).other (by first | (simp; done) | (simp; omega) | omega) _).other (by first | (simp; done) | (simp; omega) | omega) _).other (by first | (simp; done) | (simp; omega) | omega) _).other (by first | (simp; done) | (simp; omega) | omega) _).other (by first | (simp; done) | (simp; omega) | omega) _))
          have K2_5 := Lib.hid (show Blk Wf (w.heap.size + 2) 26 #[.int .i64 p, .slice A8 n c8, .int .i64 a, .int .i64 b, .int .i64 s, .int .i64 g] by rw [← hV]; exact ((((((K2_4.out.put 0 _).put 1 _).put 2 _).put 3 _).put 4 _).put 5 _))
          clear hV B4 K0_4 K1_4 K2_4 O_4
          have r2_0 : Wf.cell? ⟨w.heap.size + 2, 0, none⟩ = some (.int .i64 p) := by rw [K2_5.out.cell]; rfl
          have r2_1 : Wf.cell? ⟨w.heap.size + 2, 1, none⟩ = some (.slice A8 n c8) := by rw [K2_5.out.cell]; rfl
          have r2_2 : Wf.cell? ⟨w.heap.size + 2, 2, none⟩ = some (.int .i64 a) := by rw [K2_5.out.cell]; rfl
          have r2_3 : Wf.cell? ⟨w.heap.size + 2, 3, none⟩ = some (.int .i64 b) := by rw [K2_5.out.cell]; rfl
          have r2_4 : Wf.cell? ⟨w.heap.size + 2, 4, none⟩ = some (.int .i64 s) := by rw [K2_5.out.cell]; rfl
          have r2_5 : Wf.cell? ⟨w.heap.size + 2, 5, none⟩ = some (.int .i64 g) := by rw [K2_5.out.cell]; rfl
          exact bodyPost_ret (v := .tuple #[.agg #[.int .i64 p, .slice A8 n c8, .int .i64 a, .int .i64 b, .int .i64 s, .int .i64 g], .bool false]) (by simp [results, Try.results12, go_sem, r2_0, r2_1, r2_2, r2_3, r2_4, r2_5]) rfl ⟨A8, c8, rfl, own_base O_5.out (by have hs := HS.out; omega), B5.out⟩
        · skip
          have ks9 := K.s9
          have ks0 := K.s0
          have kg0 := K.g0
          have kgs := K.gs
          have ka := K.a0
          have kb := K.b0
          have kp := K.p4
          have ksum := K.sum
          have qs : decide (s ≥ 1000000000) = false := decide_eq_false (by omega)
          obtain rfl : r = true := by rw [← HR.out]; unfold sendOk; rw [hok, hrc]; simp [ha0, hs9]
          have m1 : IntKind.i64.wrap (a - 1) = a - 1 := IntWalk.i64_in _ (by omega)
          have m2 : IntKind.i64.wrap (s + 1) = s + 1 := IntWalk.i64_in _ (by omega)
          obtain rfl : zs ++ [(p0, (p1, p2), p3, p4)] = us := HU.out
          obtain rfl : n + 1 = m := by rw [← HM.out, ← HZ.out]; simp
          clear hok hrc K ha0 hs9 ks9 ks0 kg0 kgs ka kb kp ksum
          have x0_0 : w3.cell? ⟨w.heap.size, 0, none⟩ = some (.int .i64 p) := by rw [K0_4.out.cell]; rfl
          have x0_1 : w3.cell? ⟨w.heap.size, 1, none⟩ = some (.slice A8 n c8) := by rw [K0_4.out.cell]; rfl
          have x0_2 : w3.cell? ⟨w.heap.size, 2, none⟩ = some (.int .i64 a) := by rw [K0_4.out.cell]; rfl
          have x0_3 : w3.cell? ⟨w.heap.size, 3, none⟩ = some (.int .i64 b) := by rw [K0_4.out.cell]; rfl
          have x0_4 : w3.cell? ⟨w.heap.size, 4, none⟩ = some (.int .i64 s) := by rw [K0_4.out.cell]; rfl
          have x0_5 : w3.cell? ⟨w.heap.size, 5, none⟩ = some (.int .i64 g) := by rw [K0_4.out.cell]; rfl
          have x1_0 : w3.cell? ⟨w.heap.size + 1, 0, none⟩ = some (.int .i64 p0) := by rw [K1_4.out.cell]; rfl
          have x1_1 : w3.cell? ⟨w.heap.size + 1, 1, none⟩ = some (.int .i64 p1) := by rw [K1_4.out.cell]; rfl
          have x1_2 : w3.cell? ⟨w.heap.size + 1, 2, none⟩ = some (.int .i64 p2) := by rw [K1_4.out.cell]; rfl
          have x1_3 : w3.cell? ⟨w.heap.size + 1, 3, none⟩ = some (.int .i64 p3) := by rw [K1_4.out.cell]; rfl
          have x1_4 : w3.cell? ⟨w.heap.size + 1, 4, none⟩ = some (.int .i64 p4) := by rw [K1_4.out.cell]; rfl
          have OA := Lib.hid (O_4.out.alloc (.cells #[.int .i64 p0, .int .i64 p1, .int .i64 p2, .int .i64 p3, .int .i64 p4] 30))
          have BA := Lib.hid (B4.out.alloc B4.out.size (.cells #[.int .i64 p0, .int .i64 p1, .int .i64 p2, .int .i64 p3, .int .i64 p4] 30))
          skip
          have SZ := Lib.hid (show W.heap.size ≤ w3.heap.size by have hs := HS.out; have hk := K2_4.out.lt; omega)
          have SA := Lib.hid (show (w3.alloc (.cells #[.int .i64 p0, .int .i64 p1, .int .i64 p2, .int .i64 p3, .int .i64 p4] 30)).heap.size = w3.heap.size + 1 by simp)
          go_wp2_with (at_builtin; refine wpList_append_rc rfl (.tmp 28) (.tmp 30) (by rfl) W.heap.size (.slice A8 n c8) n zs (by rfl) OA.out (some ⟨w3.heap.size, 0, none⟩) 1 1 [(p0, (p1, p2), p3, p4)] (by rfl) (fun h => by cases h) rfl (rc_new _ _ _ _ _ _) (by omega) (by have h1 := SA.out; have h2 := SZ.out; omega) ?_; intro v9 w9 own9 gr9; generalize hG : wpList _ _ _ _ _ _ = G)
          subst hG
          clear x0_0 x0_1 x0_2 x0_3 x0_4 x0_5 x1_0 x1_1 x1_2 x1_3 x1_4
          obtain ⟨A9, c9, rfl, _⟩ := own_slice own9
          have B5 := Lib.hid (BA.out.grown gr9 (by have h1 := BA.out.size; omega) (fun j hj => Nat.le_trans (by have hs := HS.out; omega) (own_ge OA.out j hj)))
          have K0_5 := Lib.hid ((K0_4.out.below ((Below.refl _ _).alloc (Nat.le_refl _) (.cells #[.int .i64 p0, .int .i64 p1, .int .i64 p2, .int .i64 p3, .int .i64 p4] 30))).rowed OA.out gr9 (by have hs := HS.out; first | (simp; done) | (simp; omega) | omega))
          have K1_5 := Lib.hid ((K1_4.out.below ((Below.refl _ _).alloc (Nat.le_refl _) (.cells #[.int .i64 p0, .int .i64 p1, .int .i64 p2, .int .i64 p3, .int .i64 p4] 30))).rowed OA.out gr9 (by have hs := HS.out; first | (simp; done) | (simp; omega) | omega))
          have K2_5 := Lib.hid ((K2_4.out.below ((Below.refl _ _).alloc (Nat.le_refl _) (.cells #[.int .i64 p0, .int .i64 p1, .int .i64 p2, .int .i64 p3, .int .i64 p4] 30))).rowed OA.out gr9 (by have hs := HS.out; first | (simp; done) | (simp; omega) | omega))
          clear gr9 B4 K0_4 K1_4 K2_4 O_4
          have O_5 := Lib.hid own9
          clear own9 OA BA SZ SA
          have x0_0 : w9.cell? ⟨w.heap.size, 0, none⟩ = some (.int .i64 p) := by rw [K0_5.out.cell]; rfl
          have x0_1 : w9.cell? ⟨w.heap.size, 1, none⟩ = some (.slice A8 n c8) := by rw [K0_5.out.cell]; rfl
          have x0_2 : w9.cell? ⟨w.heap.size, 2, none⟩ = some (.int .i64 a) := by rw [K0_5.out.cell]; rfl
          have x0_3 : w9.cell? ⟨w.heap.size, 3, none⟩ = some (.int .i64 b) := by rw [K0_5.out.cell]; rfl
          have x0_4 : w9.cell? ⟨w.heap.size, 4, none⟩ = some (.int .i64 s) := by rw [K0_5.out.cell]; rfl
          have x0_5 : w9.cell? ⟨w.heap.size, 5, none⟩ = some (.int .i64 g) := by rw [K0_5.out.cell]; rfl
          have y0_1 := K0_5.out.frozen 1
          have y0_2 := K0_5.out.frozen 2
          have y0_4 := K0_5.out.frozen 4
          have x2_0 : w9.cell? ⟨w.heap.size + 2, 0, none⟩ = some (.int .i64 0) := by rw [K2_5.out.cell]; rfl
          have y2_0 := K2_5.out.frozen 0
          have x2_1 : w9.cell? ⟨w.heap.size + 2, 1, none⟩ = some (.slice none 0 0) := by rw [K2_5.out.cell]; rfl
          have y2_1 := K2_5.out.frozen 1
          have x2_2 : w9.cell? ⟨w.heap.size + 2, 2, none⟩ = some (.int .i64 0) := by rw [K2_5.out.cell]; rfl
          have y2_2 := K2_5.out.frozen 2
          have x2_3 : w9.cell? ⟨w.heap.size + 2, 3, none⟩ = some (.int .i64 0) := by rw [K2_5.out.cell]; rfl
          have y2_3 := K2_5.out.frozen 3
          have x2_4 : w9.cell? ⟨w.heap.size + 2, 4, none⟩ = some (.int .i64 0) := by rw [K2_5.out.cell]; rfl
          have y2_4 := K2_5.out.frozen 4
          have x2_5 : w9.cell? ⟨w.heap.size + 2, 5, none⟩ = some (.int .i64 0) := by rw [K2_5.out.cell]; rfl
          have y2_5 := K2_5.out.frozen 5
          go_wp2_with fail
          clear x0_0 x0_1 x0_2 x0_3 x0_4 x0_5 y0_1 y0_2 y0_4 x2_0 y2_0 x2_1 y2_1 x2_2 y2_2 x2_3 y2_3 x2_4 y2_4 x2_5 y2_5
          generalize hV : (((((((((w9.setCell _ _).setCell _ _).setCell _ _).setCell _ _).setCell _ _).setCell _ _).setCell _ _).setCell _ _).setCell _ _) = Wf
          have B6 := Lib.hid (show Below w.heap.size w Wf by rw [← hV]; exact (((((((((B5.out.setCell (by first | (simp; done) | (simp; omega) | omega) _).setCell (by first | (simp; done) | (simp; omega) | omega) _).setCell (by first | (simp; done) | (simp; omega) | omega) _).setCell (by first | (simp; done) | (simp; omega) | omega) _).setCell (by first | (simp; done) | (simp; omega) | omega) _).setCell (by first | (simp; done) | (simp; omega) | omega) _).setCell (by first | (simp; done) | (simp; omega) | omega) _).setCell (by first | (simp; done) | (simp; omega) | omega) _).setCell (by first | (simp; done) | (simp; omega) | omega) _))
          have O_6 := Lib.hid (show Wf.ownsRow W.heap.size 30 5 (.slice A9 (n + 1) c9) (n + 1) (rcCells (zs ++ [(p0, (p1, p2), p3, p4)])) by rw [← hV]; exact (own_set (own_set (own_set (own_set (own_set (own_set (own_set (own_set (own_set O_5.out _ (by have hs := HS.out; first | (simp; done) | (simp; omega) | omega)) _ (by have hs := HS.out; first | (simp; done) | (simp; omega) | omega)) _ (by have hs := HS.out; first | (simp; done) | (simp; omega) | omega)) _ (by have hs := HS.out; first | (simp; done) | (simp; omega) | omega)) _ (by have hs := HS.out; first | (simp; done) | (simp; omega) | omega)) _ (by have hs := HS.out; first | (simp; done) | (simp; omega) | omega)) _ (by have hs := HS.out; first | (simp; done) | (simp; omega) | omega)) _ (by have hs := HS.out; first | (simp; done) | (simp; omega) | omega)) _ (by have hs := HS.out; first | (simp; done) | (simp; omega) | omega)))
          have K0_6 := Lib.hid (show Blk Wf (w.heap.size) 26 #[.int .i64 p, .slice A9 (n + 1) c9, .int .i64 (a - 1), .int .i64 b, .int .i64 (s + 1), .int .i64 g] by rw [← hV]; exact (((((((((K0_5.out.put 1 _).put 2 _).put 4 _).other (by first | (simp; done) | (simp; omega) | omega) _).other (by first | (simp; done) | (simp; omega) | omega) _).other (by first | (simp; done) | (simp; omega) | omega) _).other (by first | (simp; done) | (simp; omega) | omega) _).other (by first | (simp; done) | (simp; omega) | omega) _).other (by first | (simp; done) | (simp; omega) | omega) _))
          have K1_6 := Lib.hid (show Blk Wf (w.heap.size + 1) 30 #[.int .i64 p0, .int .i64 p1, .int .i64 p2, .int .i64 p3, .int .i64 p4] by rw [← hV]; exact (((((((((K1_5.out.other (by first | (simp; done) | (simp; omega) | omega) _).other (by first | (simp; done) | (simp; omega) | omega) _).other (by first | (simp; done) | (simp; omega) | omega) _).other (by first | (simp; done) | (simp; omega) | omega) _).other (by first | (simp; done) | (simp; omega) | omega) _).other (by first | (simp; done) | (simp; omega) | omega) _).other (by first | (simp; done) | (simp; omega) | omega) _).other (by first | (simp; done) | (simp; omega) | omega) _).other (by first | (simp; done) | (simp; omega) | omega) _))
          have K2_6 := Lib.hid (show Blk Wf (w.heap.size + 2) 26 #[.int .i64 p, .slice A9 (n + 1) c9, .int .i64 (a - 1), .int .i64 b, .int .i64 (s + 1), .int .i64 g] by rw [← hV]; exact (((((((((K2_5.out.other (by first | (simp; done) | (simp; omega) | omega) _).other (by first | (simp; done) | (simp; omega) | omega) _).other (by first | (simp; done) | (simp; omega) | omega) _).put 0 _).put 1 _).put 2 _).put 3 _).put 4 _).put 5 _))
          clear hV B5 K0_5 K1_5 K2_5 O_5
          have r2_0 : Wf.cell? ⟨w.heap.size + 2, 0, none⟩ = some (.int .i64 p) := by rw [K2_6.out.cell]; rfl
          have r2_1 : Wf.cell? ⟨w.heap.size + 2, 1, none⟩ = some (.slice A9 (n + 1) c9) := by rw [K2_6.out.cell]; rfl
          have r2_2 : Wf.cell? ⟨w.heap.size + 2, 2, none⟩ = some (.int .i64 (a - 1)) := by rw [K2_6.out.cell]; rfl
          have r2_3 : Wf.cell? ⟨w.heap.size + 2, 3, none⟩ = some (.int .i64 b) := by rw [K2_6.out.cell]; rfl
          have r2_4 : Wf.cell? ⟨w.heap.size + 2, 4, none⟩ = some (.int .i64 (s + 1)) := by rw [K2_6.out.cell]; rfl
          have r2_5 : Wf.cell? ⟨w.heap.size + 2, 5, none⟩ = some (.int .i64 g) := by rw [K2_6.out.cell]; rfl
          exact bodyPost_ret (v := .tuple #[.agg #[.int .i64 p, .slice A9 (n + 1) c9, .int .i64 (a - 1), .int .i64 b, .int .i64 (s + 1), .int .i64 g], .bool true]) (by simp [results, Try.results12, go_sem, r2_0, r2_1, r2_2, r2_3, r2_4, r2_5]) rfl ⟨A9, c9, rfl, own_base O_6.out (by have hs := HS.out; omega), B6.out⟩

end Go.Proofs.Ythkkleicekhelaa.hexes
