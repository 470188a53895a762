/-
  The program's SendOn.
-/
import Derived.Test.YthkkleicekhelaaImplLk1
import Derived.Test.YthkkleicekhelaaLkCopy
import Derived.Test.YthkkleicekhelaaRingOf
import Derived.RegionTactic
import Derived.BigRegion
namespace Go.Proofs.Ythkkleicekhelaa.hexes
open Go.RowKit

theorem implRcOk_is {p0 p1 p2 p3 p4 : Int} {b : Bool} (h : okRc (p0, (p1, p2), p3, p4) = b) (w : World) : Calls Try.prog 43 #[.agg #[.int .i64 p0, .int .i64 p1, .int .i64 p2, .int .i64 p3, .int .i64 p4]] w fun e w' => e = .returned (.bool b) ∧ Below w.heap.size w w' := by
  subst h; exact implRcOk_any _ _ _ _ _ w
theorem inRing_snoc {rs zs : List Rc} {G d : Nat} {z : Rc} (hr : rs.length = 4) (hz : zs.length ≤ 3) (hd : (G + zs.length) % 4 = d) (h : InRing rs G zs) : InRing (rs.set d z) G (zs ++ [z]) := by
  have h1 := inRing_put (rs := rs) (zs := zs ++ [z]) (k := zs.length) hr (by simp) (by simp; omega) hd (by simpa using h)
  rw [List.take_of_length_le (by simp)] at h1
  simpa using h1

set_option maxRecDepth 100000 in
set_option maxHeartbeats 4000000 in
theorem implSend_any (n : Nat) (zs : List Rc) (hz : zs.length = n) (A : Option Addr) (c : Nat) (hA : A = none → c = 0) (p a b s g p0 p1 p2 p3 p4 : Int) (hg : g ≤ 9223372036854775807) (w : World) (h1 : Rcs w A zs) (hn : n ≤ 1048576) {r : Bool} {us : List Rc} {m : Nat} (hr : sendOk p a b s g n zs (p0, (p1, p2), p3, p4) = r) (hu : sendQ r zs (p0, (p1, p2), p3, p4) = us) (hm : us.length = m) :
    Calls Try.prog 11 #[.agg #[.int .i64 p, .slice A n c, .int .i64 a, .int .i64 b, .int .i64 s, .int .i64 g], .agg #[.int .i64 p0, .int .i64 p1, .int .i64 p2, .int .i64 p3, .int .i64 p4]] w fun e w' => ∃ A1 c1, e = .returned (.tuple #[.agg #[.int .i64 p, .slice A1 m c1, .int .i64 (turnI r a (-1)), .int .i64 b, .int .i64 (turnI r s 1), .int .i64 g], .bool r]) ∧ w'.ownsRow w.heap.size 30 5 (.slice A1 m c1) m (rcCells us) ∧ Below w.heap.size w w' := by
  have H1 := Lib.hid h1
  have HZ := Lib.hid hz
  have HA := Lib.hid hA
  have HR := Lib.hid hr
  have HU := Lib.hid hu
  have HM := Lib.hid hm
  clear h1 hz hA hr hu hm
  go_enter Try.func11, Try.ntmps11
  go_wp2_with fail
  generalize hW : (((w.alloc _).alloc _).alloc _) = W
  have B0 := Lib.hid (show Below w.heap.size w W by rw [← hW]; exact ((((Below.refl _ _).alloc (by first | (simp; done) | (simp; omega) | omega) _).alloc (by first | (simp; done) | (simp; omega) | omega) _).alloc (by first | (simp; done) | (simp; omega) | omega) _))
  have HS := Lib.hid (show W.heap.size = w.heap.size + 3 by rw [← hW]; simp)
  have K0_0 := Lib.hid (show Blk W (w.heap.size) 26 #[.int .i64 p, .slice A n c, .int .i64 a, .int .i64 b, .int .i64 s, .int .i64 g] by rw [← hW]; exact ((Below.heap_alloc _ _ _ (by first | (simp; done) | (simp; omega))).trans ((Below.heap_alloc _ _ _ (by first | (simp; done) | (simp; omega))).trans (Blk.new _ _ _))))
  have K1_0 := Lib.hid (show Blk W (w.heap.size + 1) 30 #[.int .i64 p0, .int .i64 p1, .int .i64 p2, .int .i64 p3, .int .i64 p4] by rw [← hW]; exact ((Below.heap_alloc _ _ _ (by first | (simp; done) | (simp; omega))).trans ((show w.heap.size + 1 = ((w.alloc _)).heap.size by simp) ▸ Blk.new _ _ _)))
  have K2_0 := Lib.hid (show Blk W (w.heap.size + 2) 26 #[.int .i64 0, .slice none 0 0, .int .i64 0, .int .i64 0, .int .i64 0, .int .i64 0] by rw [← hW]; exact ((show w.heap.size + 2 = (((w.alloc _).alloc _)).heap.size by simp) ▸ Blk.new _ _ _))
  clear hW
  refine (implLkOk_any n zs HZ.out A c p a b s g hg W (H1.out.below B0.out) (by omega)).mono ?_
  rintro e w1 ⟨rfl, hb⟩
  have B1 := Lib.hid (below_chain B0.out hb)
  have K0_1 := Lib.hid (K0_0.out.below hb)
  have K1_1 := Lib.hid (K1_0.out.below hb)
  have K2_1 := Lib.hid (K2_0.out.below hb)
  clear hb B0 K0_0 K1_0 K2_0
  cases hok : okLk p a b s g n zs with
  | false =>
    obtain rfl : r = false := by rw [← HR.out]; unfold sendOk; rw [hok]; rfl
    clear hok
    obtain rfl : zs = us := HU.out
    obtain rfl : n = m := HZ.out.symm.trans HM.out
    have x0_0 : w1.cell? ⟨w.heap.size, 0, none⟩ = some (.int .i64 p) := by rw [K0_1.out.cell]; rfl
    have x0_1 : w1.cell? ⟨w.heap.size, 1, none⟩ = some (.slice A n c) := by rw [K0_1.out.cell]; rfl
    have x0_2 : w1.cell? ⟨w.heap.size, 2, none⟩ = some (.int .i64 a) := by rw [K0_1.out.cell]; rfl
    have x0_3 : w1.cell? ⟨w.heap.size, 3, none⟩ = some (.int .i64 b) := by rw [K0_1.out.cell]; rfl
    have x0_4 : w1.cell? ⟨w.heap.size, 4, none⟩ = some (.int .i64 s) := by rw [K0_1.out.cell]; rfl
    have x0_5 : w1.cell? ⟨w.heap.size, 5, none⟩ = some (.int .i64 g) := by rw [K0_1.out.cell]; rfl
    go_wp2_with fail
    clear x0_0 x0_1 x0_2 x0_3 x0_4 x0_5
    refine (implCopy_any n zs HZ.out A c HA.out p a b s g w1 (H1.out.below B1.out) hn).mono ?_
    rintro e wc ⟨A8, c8, rfl, own8, hb⟩
    replace own8 := own_base own8 (show W.heap.size ≤ w1.heap.size by have hs := HS.out; have hk := K2_1.out.lt; omega)
    have B2 := Lib.hid (below_chain B1.out hb)
    have K0_2 := Lib.hid (K0_1.out.below hb)
    have K1_2 := Lib.hid (K1_1.out.below hb)
    have K2_2 := Lib.hid (K2_1.out.below hb)
    clear hb B1 K0_1 K1_1 K2_1
    have O_2 := Lib.hid own8
    clear own8
    have x2_0 : wc.cell? ⟨w.heap.size + 2, 0, none⟩ = some (.int .i64 0) := by rw [K2_2.out.cell]; rfl
    have y2_0 := K2_2.out.frozen 0
    have x2_1 : wc.cell? ⟨w.heap.size + 2, 1, none⟩ = some (.slice none 0 0) := by rw [K2_2.out.cell]; rfl
    have y2_1 := K2_2.out.frozen 1
    have x2_2 : wc.cell? ⟨w.heap.size + 2, 2, none⟩ = some (.int .i64 0) := by rw [K2_2.out.cell]; rfl
    have y2_2 := K2_2.out.frozen 2
    have x2_3 : wc.cell? ⟨w.heap.size + 2, 3, none⟩ = some (.int .i64 0) := by rw [K2_2.out.cell]; rfl
    have y2_3 := K2_2.out.frozen 3
    have x2_4 : wc.cell? ⟨w.heap.size + 2, 4, none⟩ = some (.int .i64 0) := by rw [K2_2.out.cell]; rfl
    have y2_4 := K2_2.out.frozen 4
    have x2_5 : wc.cell? ⟨w.heap.size + 2, 5, none⟩ = some (.int .i64 0) := by rw [K2_2.out.cell]; rfl
    have y2_5 := K2_2.out.frozen 5
    go_wp2_with fail
    clear x2_0 y2_0 x2_1 y2_1 x2_2 y2_2 x2_3 y2_3 x2_4 y2_4 x2_5 y2_5
    generalize hV : ((((((wc.setCell _ _).setCell _ _).setCell _ _).setCell _ _).setCell _ _).setCell _ _) = Wf
    have B3 := Lib.hid (show Below w.heap.size w Wf by rw [← hV]; exact ((((((B2.out.setCell (by first | (simp; done) | (simp; omega) | omega) _).setCell (by first | (simp; done) | (simp; omega) | omega) _).setCell (by first | (simp; done) | (simp; omega) | omega) _).setCell (by first | (simp; done) | (simp; omega) | omega) _).setCell (by first | (simp; done) | (simp; omega) | omega) _).setCell (by first | (simp; done) | (simp; omega) | omega) _))
    have O_3 := Lib.hid (show Wf.ownsRow W.heap.size 30 5 (.slice A8 n c8) (n) (rcCells (zs)) by rw [← hV]; exact (own_set (own_set (own_set (own_set (own_set (own_set O_2.out _ (by have hs := HS.out; first | (simp; done) | (simp; omega) | omega)) _ (by have hs := HS.out; first | (simp; done) | (simp; omega) | omega)) _ (by have hs := HS.out; first | (simp; done) | (simp; omega) | omega)) _ (by have hs := HS.out; first | (simp; done) | (simp; omega) | omega)) _ (by have hs := HS.out; first | (simp; done) | (simp; omega) | omega)) _ (by have hs := HS.out; first | (simp; done) | (simp; omega) | omega)))
    have K0_3 := Lib.hid (show Blk Wf (w.heap.size) 26 #[.int .i64 p, .slice A n c, .int .i64 a, .int .i64 b, .int .i64 s, .int .i64 g] by rw [← hV]; exact ((((((K0_2.out.other (by first | (simp; done) | (simp; omega) | omega) _).other (by first | (simp; done) | (simp; omega) | omega) _).other (by first | (simp; done) | (simp; omega) | omega) _).other (by first | (simp; done) | (simp; omega) | omega) _).other (by first | (simp; done) | (simp; omega) | omega) _).other (by first | (simp; done) | (simp; omega) | omega) _))
    have K1_3 := Lib.hid (show Blk Wf (w.heap.size + 1) 30 #[.int .i64 p0, .int .i64 p1, .int .i64 p2, .int .i64 p3, .int .i64 p4] by rw [← hV]; exact ((((((K1_2.out.other (by first | (simp; done) | (simp; omega) | omega) _).other (by first | (simp; done) | (simp; omega) | omega) _).other (by first | (simp; done) | (simp; omega) | omega) _).other (by first | (simp; done) | (simp; omega) | omega) _).other (by first | (simp; done) | (simp; omega) | omega) _).other (by first | (simp; done) | (simp; omega) | omega) _))
    have K2_3 := Lib.hid (show Blk Wf (w.heap.size + 2) 26 #[.int .i64 p, .slice A8 n c8, .int .i64 a, .int .i64 b, .int .i64 s, .int .i64 g] by rw [← hV]; exact ((((((K2_2.out.put 0 _).put 1 _).put 2 _).put 3 _).put 4 _).put 5 _))
    clear hV B2 K0_2 K1_2 K2_2 O_2
    have r2_0 : Wf.cell? ⟨w.heap.size + 2, 0, none⟩ = some (.int .i64 p) := by rw [K2_3.out.cell]; rfl
    have r2_1 : Wf.cell? ⟨w.heap.size + 2, 1, none⟩ = some (.slice A8 n c8) := by rw [K2_3.out.cell]; rfl
    have r2_2 : Wf.cell? ⟨w.heap.size + 2, 2, none⟩ = some (.int .i64 a) := by rw [K2_3.out.cell]; rfl
    have r2_3 : Wf.cell? ⟨w.heap.size + 2, 3, none⟩ = some (.int .i64 b) := by rw [K2_3.out.cell]; rfl
    have r2_4 : Wf.cell? ⟨w.heap.size + 2, 4, none⟩ = some (.int .i64 s) := by rw [K2_3.out.cell]; rfl
    have r2_5 : Wf.cell? ⟨w.heap.size + 2, 5, none⟩ = some (.int .i64 g) := by rw [K2_3.out.cell]; rfl
    exact bodyPost_ret (v := .tuple #[.agg #[.int .i64 p, .slice A8 n c8, .int .i64 a, .int .i64 b, .int .i64 s, .int .i64 g], .bool false]) (by simp [results, Try.results11, go_sem, r2_0, r2_1, r2_2, r2_3, r2_4, r2_5]) rfl ⟨A8, c8, rfl, own_base O_3.out (by have hs := HS.out; omega), B3.out⟩
  | true =>
    have x0_0 : w1.cell? ⟨w.heap.size, 0, none⟩ = some (.int .i64 p) := by rw [K0_1.out.cell]; rfl
    have x0_1 : w1.cell? ⟨w.heap.size, 1, none⟩ = some (.slice A n c) := by rw [K0_1.out.cell]; rfl
    have x0_2 : w1.cell? ⟨w.heap.size, 2, none⟩ = some (.int .i64 a) := by rw [K0_1.out.cell]; rfl
    have x0_3 : w1.cell? ⟨w.heap.size, 3, none⟩ = some (.int .i64 b) := by rw [K0_1.out.cell]; rfl
    have x0_4 : w1.cell? ⟨w.heap.size, 4, none⟩ = some (.int .i64 s) := by rw [K0_1.out.cell]; rfl
    have x0_5 : w1.cell? ⟨w.heap.size, 5, none⟩ = some (.int .i64 g) := by rw [K0_1.out.cell]; rfl
    have x1_0 : w1.cell? ⟨w.heap.size + 1, 0, none⟩ = some (.int .i64 p0) := by rw [K1_1.out.cell]; rfl
    have x1_1 : w1.cell? ⟨w.heap.size + 1, 1, none⟩ = some (.int .i64 p1) := by rw [K1_1.out.cell]; rfl
    have x1_2 : w1.cell? ⟨w.heap.size + 1, 2, none⟩ = some (.int .i64 p2) := by rw [K1_1.out.cell]; rfl
    have x1_3 : w1.cell? ⟨w.heap.size + 1, 3, none⟩ = some (.int .i64 p3) := by rw [K1_1.out.cell]; rfl
    have x1_4 : w1.cell? ⟨w.heap.size + 1, 4, none⟩ = some (.int .i64 p4) := by rw [K1_1.out.cell]; rfl
    go_wp2_with fail
    clear x0_0 x0_1 x0_2 x0_3 x0_4 x0_5 x1_0 x1_1 x1_2 x1_3 x1_4
    cases hrc : okRc (p0, (p1, p2), p3, p4) with
    | false =>
      refine (implRcOk_is hrc _).mono ?_
      rintro e w3 ⟨rfl, hb⟩
      have B2 := Lib.hid (below_chain B1.out hb)
      have K0_2 := Lib.hid (K0_1.out.below hb)
      have K1_2 := Lib.hid (K1_1.out.below hb)
      have K2_2 := Lib.hid (K2_1.out.below hb)
      clear hb B1 K0_1 K1_1 K2_1
      obtain rfl : r = false := by rw [← HR.out]; unfold sendOk; rw [hok, hrc]; rfl
      clear hok hrc
      obtain rfl : zs = us := HU.out
      obtain rfl : n = m := HZ.out.symm.trans HM.out
      have x0_0 : w3.cell? ⟨w.heap.size, 0, none⟩ = some (.int .i64 p) := by rw [K0_2.out.cell]; rfl
      have x0_1 : w3.cell? ⟨w.heap.size, 1, none⟩ = some (.slice A n c) := by rw [K0_2.out.cell]; rfl
      have x0_2 : w3.cell? ⟨w.heap.size, 2, none⟩ = some (.int .i64 a) := by rw [K0_2.out.cell]; rfl
      have x0_3 : w3.cell? ⟨w.heap.size, 3, none⟩ = some (.int .i64 b) := by rw [K0_2.out.cell]; rfl
      have x0_4 : w3.cell? ⟨w.heap.size, 4, none⟩ = some (.int .i64 s) := by rw [K0_2.out.cell]; rfl
      have x0_5 : w3.cell? ⟨w.heap.size, 5, none⟩ = some (.int .i64 g) := by rw [K0_2.out.cell]; rfl
      go_wp2_with fail
      clear x0_0 x0_1 x0_2 x0_3 x0_4 x0_5
      refine (implCopy_any n zs HZ.out A c HA.out p a b s g w3 (H1.out.below B2.out) hn).mono ?_
      rintro e wc ⟨A8, c8, rfl, own8, hb⟩
      replace own8 := own_base own8 (show W.heap.size ≤ w3.heap.size by have hs := HS.out; have hk := K2_2.out.lt; omega)
      have B3 := Lib.hid (below_chain B2.out hb)
      have K0_3 := Lib.hid (K0_2.out.below hb)
      have K1_3 := Lib.hid (K1_2.out.below hb)
      have K2_3 := Lib.hid (K2_2.out.below hb)
      clear hb B2 K0_2 K1_2 K2_2
      have O_3 := Lib.hid own8
      clear own8
      have x2_0 : wc.cell? ⟨w.heap.size + 2, 0, none⟩ = some (.int .i64 0) := by rw [K2_3.out.cell]; rfl
      have y2_0 := K2_3.out.frozen 0
      have x2_1 : wc.cell? ⟨w.heap.size + 2, 1, none⟩ = some (.slice none 0 0) := by rw [K2_3.out.cell]; rfl
      have y2_1 := K2_3.out.frozen 1
      have x2_2 : wc.cell? ⟨w.heap.size + 2, 2, none⟩ = some (.int .i64 0) := by rw [K2_3.out.cell]; rfl
      have y2_2 := K2_3.out.frozen 2
      have x2_3 : wc.cell? ⟨w.heap.size + 2, 3, none⟩ = some (.int .i64 0) := by rw [K2_3.out.cell]; rfl
      have y2_3 := K2_3.out.frozen 3
      have x2_4 : wc.cell? ⟨w.heap.size + 2, 4, none⟩ = some (.int .i64 0) := by rw [K2_3.out.cell]; rfl
      have y2_4 := K2_3.out.frozen 4
      have x2_5 : wc.cell? ⟨w.heap.size + 2, 5, none⟩ = some (.int .i64 0) := by rw [K2_3.out.cell]; rfl
      have y2_5 := K2_3.out.frozen 5
      go_wp2_with fail
      clear x2_0 y2_0 x2_1 y2_1 x2_2 y2_2 x2_3 y2_3 x2_4 y2_4 x2_5 y2_5
      generalize hV : ((((((wc.setCell _ _).setCell _ _).setCell _ _).setCell _ _).setCell _ _).setCell _ _) = Wf
      have B4 := Lib.hid (show Below w.heap.size w Wf by rw [← hV]; exact ((((((B3.out.setCell (by first | (simp; done) | (simp; omega) | omega) _).setCell (by first | (simp; done) | (simp; omega) | omega) _).setCell (by first | (simp; done) | (simp; omega) | omega) _).setCell (by first | (simp; done) | (simp; omega) | omega) _).setCell (by first | (simp; done) | (simp; omega) | omega) _).setCell (by first | (simp; done) | (simp; omega) | omega) _))
      have O_4 := Lib.hid (show Wf.ownsRow W.heap.size 30 5 (.slice A8 n c8) (n) (rcCells (zs)) by rw [← hV]; exact (own_set (own_set (own_set (own_set (own_set (own_set O_3.out _ (by have hs := HS.out; first | (simp; done) | (simp; omega) | omega)) _ (by have hs := HS.out; first | (simp; done) | (simp; omega) | omega)) _ (by have hs := HS.out; first | (simp; done) | (simp; omega) | omega)) _ (by have hs := HS.out; first | (simp; done) | (simp; omega) | omega)) _ (by have hs := HS.out; first | (simp; done) | (simp; omega) | omega)) _ (by have hs := HS.out; first | (simp; done) | (simp; omega) | omega)))
      have K0_4 := Lib.hid (show Blk Wf (w.heap.size) 26 #[.int .i64 p, .slice A n c, .int .i64 a, .int .i64 b, .int .i64 s, .int .i64 g] by rw [← hV]; exact ((((((K0_3.out.other (by first | (simp; done) | (simp; omega) | omega) _).other (by first | (simp; done) | (simp; omega) | omega) _).other (by first | (simp; done) | (simp; omega) | omega) _).other (by first | (simp; done) | (simp; omega) | omega) _).other (by first | (simp; done) | (simp; omega) | omega) _).other (by first | (simp; done) | (simp; omega) | omega) _))
      have K1_4 := Lib.hid (show Blk Wf (w.heap.size + 1) 30 #[.int .i64 p0, .int .i64 p1, .int .i64 p2, .int .i64 p3, .int .i64 p4] by rw [← hV]; exact ((((((K1_3.out.other (by first | (simp; done) | (simp; omega) | omega) _).other (by first | (simp; done) | (simp; omega) | omega) _).other (by first | (simp; done) | (simp; omega) | omega) _).other (by first | (simp; done) | (simp; omega) | omega) _).other (by first | (simp; done) | (simp; omega) | omega) _).other (by first | (simp; done) | (simp; omega) | omega) _))
      have K2_4 := Lib.hid (show Blk Wf (w.heap.size + 2) 26 #[.int .i64 p, .slice A8 n c8, .int .i64 a, .int .i64 b, .int .i64 s, .int .i64 g] by rw [← hV]; exact ((((((K2_3.out.put 0 _).put 1 _).put 2 _).put 3 _).put 4 _).put 5 _))
      clear hV B3 K0_3 K1_3 K2_3 O_3
      have r2_0 : Wf.cell? ⟨w.heap.size + 2, 0, none⟩ = some (.int .i64 p) := by rw [K2_4.out.cell]; rfl
      have r2_1 : Wf.cell? ⟨w.heap.size + 2, 1, none⟩ = some (.slice A8 n c8) := by rw [K2_4.out.cell]; rfl
      have r2_2 : Wf.cell? ⟨w.heap.size + 2, 2, none⟩ = some (.int .i64 a) := by rw [K2_4.out.cell]; rfl
      have r2_3 : Wf.cell? ⟨w.heap.size + 2, 3, none⟩ = some (.int .i64 b) := by rw [K2_4.out.cell]; rfl
      have r2_4 : Wf.cell? ⟨w.heap.size + 2, 4, none⟩ = some (.int .i64 s) := by rw [K2_4.out.cell]; rfl
      have r2_5 : Wf.cell? ⟨w.heap.size + 2, 5, none⟩ = some (.int .i64 g) := by rw [K2_4.out.cell]; rfl
      exact bodyPost_ret (v := .tuple #[.agg #[.int .i64 p, .slice A8 n c8, .int .i64 a, .int .i64 b, .int .i64 s, .int .i64 g], .bool false]) (by simp [results, Try.results11, go_sem, r2_0, r2_1, r2_2, r2_3, r2_4, r2_5]) rfl ⟨A8, c8, rfl, own_base O_4.out (by have hs := HS.out; omega), B4.out⟩
    | true =>
      refine (implRcOk_is hrc _).mono ?_
      rintro e w3 ⟨rfl, hb⟩
      have B2 := Lib.hid (below_chain B1.out hb)
      have K0_2 := Lib.hid (K0_1.out.below hb)
      have K1_2 := Lib.hid (K1_1.out.below hb)
      have K2_2 := Lib.hid (K2_1.out.below hb)
      clear hb B1 K0_1 K1_1 K2_1
      have K := okLk_iff.1 hok
      by_cases ha0 : a = 0
      · skip
        have qa : (a == 0) = true := by simpa using ha0
        obtain rfl : r = false := by rw [← HR.out]; unfold sendOk; rw [hok, hrc]; simp [ha0]
        clear hok hrc K ha0
        obtain rfl : zs = us := HU.out
        obtain rfl : n = m := HZ.out.symm.trans HM.out
        have x0_0 : w3.cell? ⟨w.heap.size, 0, none⟩ = some (.int .i64 p) := by rw [K0_2.out.cell]; rfl
        have x0_1 : w3.cell? ⟨w.heap.size, 1, none⟩ = some (.slice A n c) := by rw [K0_2.out.cell]; rfl
        have x0_2 : w3.cell? ⟨w.heap.size, 2, none⟩ = some (.int .i64 a) := by rw [K0_2.out.cell]; rfl
        have x0_3 : w3.cell? ⟨w.heap.size, 3, none⟩ = some (.int .i64 b) := by rw [K0_2.out.cell]; rfl
        have x0_4 : w3.cell? ⟨w.heap.size, 4, none⟩ = some (.int .i64 s) := by rw [K0_2.out.cell]; rfl
        have x0_5 : w3.cell? ⟨w.heap.size, 5, none⟩ = some (.int .i64 g) := by rw [K0_2.out.cell]; rfl
        go_wp2_with fail
        clear x0_0 x0_1 x0_2 x0_3 x0_4 x0_5
        refine (implCopy_any n zs HZ.out A c HA.out p a b s g w3 (H1.out.below B2.out) hn).mono ?_
        rintro e wc ⟨A8, c8, rfl, own8, hb⟩
        replace own8 := own_base own8 (show W.heap.size ≤ w3.heap.size by have hs := HS.out; have hk := K2_2.out.lt; omega)
        have B3 := Lib.hid (below_chain B2.out hb)
        have K0_3 := Lib.hid (K0_2.out.below hb)
        have K1_3 := Lib.hid (K1_2.out.below hb)
        have K2_3 := Lib.hid (K2_2.out.below hb)
        clear hb B2 K0_2 K1_2 K2_2
        have O_3 := Lib.hid own8
        clear own8
        have x2_0 : wc.cell? ⟨w.heap.size + 2, 0, none⟩ = some (.int .i64 0) := by rw [K2_3.out.cell]; rfl
        have y2_0 := K2_3.out.frozen 0
        have x2_1 : wc.cell? ⟨w.heap.size + 2, 1, none⟩ = some (.slice none 0 0) := by rw [K2_3.out.cell]; rfl
        have y2_1 := K2_3.out.frozen 1
        have x2_2 : wc.cell? ⟨w.heap.size + 2, 2, none⟩ = some (.int .i64 0) := by rw [K2_3.out.cell]; rfl
        have y2_2 := K2_3.out.frozen 2
        have x2_3 : wc.cell? ⟨w.heap.size + 2, 3, none⟩ = some (.int .i64 0) := by rw [K2_3.out.cell]; rfl
        have y2_3 := K2_3.out.frozen 3
        have x2_4 : wc.cell? ⟨w.heap.size + 2, 4, none⟩ = some (.int .i64 0) := by rw [K2_3.out.cell]; rfl
        have y2_4 := K2_3.out.frozen 4
        have x2_5 : wc.cell? ⟨w.heap.size + 2, 5, none⟩ = some (.int .i64 0) := by rw [K2_3.out.cell]; rfl
        have y2_5 := K2_3.out.frozen 5
        go_wp2_with fail
        clear x2_0 y2_0 x2_1 y2_1 x2_2 y2_2 x2_3 y2_3 x2_4 y2_4 x2_5 y2_5
        generalize hV : ((((((wc.setCell _ _).setCell _ _).setCell _ _).setCell _ _).setCell _ _).setCell _ _) = Wf
        have B4 := Lib.hid (show Below w.heap.size w Wf by rw [← hV]; exact ((((((B3.out.setCell (by first | (simp; done) | (simp; omega) | omega) _).setCell (by first | (simp; done) | (simp; omega) | omega) _).setCell (by first | (simp; done) | (simp; omega) | omega) _).setCell (by first | (simp; done) | (simp; omega) | omega) _).setCell (by first | (simp; done) | (simp; omega) | omega) _).setCell (by first | (simp; done) | (simp; omega) | omega) _))
        have O_4 := Lib.hid (show Wf.ownsRow W.heap.size 30 5 (.slice A8 n c8) (n) (rcCells (zs)) by rw [← hV]; exact (own_set (own_set (own_set (own_set (own_set (own_set O_3.out _ (by have hs := HS.out; first | (simp; done) | (simp; omega) | omega)) _ (by have hs := HS.out; first | (simp; done) | (simp; omega) | omega)) _ (by have hs := HS.out; first | (simp; done) | (simp; omega) | omega)) _ (by have hs := HS.out; first | (simp; done) | (simp; omega) | omega)) _ (by have hs := HS.out; first | (simp; done) | (simp; omega) | omega)) _ (by have hs := HS.out; first | (simp; done) | (simp; omega) | omega)))
        have K0_4 := Lib.hid (show Blk Wf (w.heap.size) 26 #[.int .i64 p, .slice A n c, .int .i64 a, .int .i64 b, .int .i64 s, .int .i64 g] by rw [← hV]; exact ((((((K0_3.out.other (by first | (simp; done) | (simp; omega) | omega) _).other (by first | (simp; done) | (simp; omega) | omega) _).other (by first | (simp; done) | (simp; omega) | omega) _).other (by first | (simp; done) | (simp; omega) | omega) _).other (by first | (simp; done) | (simp; omega) | omega) _).other (by first | (simp; done) | (simp; omega) | omega) _))
        have K1_4 := Lib.hid (show Blk Wf (w.heap.size + 1) 30 #[.int .i64 p0, .int .i64 p1, .int .i64 p2, .int .i64 p3, .int .i64 p4] by rw [← hV]; exact ((((((K1_3.out.other (by first | (simp; done) | (simp; omega) | omega) _).other (by first | (simp; done) | (simp; omega) | omega) _).other (by first | (simp; done) | (simp; omega) | omega) _).other (by first | (simp; done) | (simp; omega) | omega) _).other (by first | (simp; done) | (simp; omega) | omega) _).other (by first | (simp; done) | (simp; omega) | omega) _))
        have K2_4 := Lib.hid (show Blk Wf (w.heap.size + 2) 26 #[.int .i64 p, .slice A8 n c8, .int .i64 a, .int .i64 b, .int .i64 s, .int .i64 g] by rw [← hV]; exact ((((((K2_3.out.put 0 _).put 1 _).put 2 _).put 3 _).put 4 _).put 5 _))
        clear hV B3 K0_3 K1_3 K2_3 O_3
        have r2_0 : Wf.cell? ⟨w.heap.size + 2, 0, none⟩ = some (.int .i64 p) := by rw [K2_4.out.cell]; rfl
        have r2_1 : Wf.cell? ⟨w.heap.size + 2, 1, none⟩ = some (.slice A8 n c8) := by rw [K2_4.out.cell]; rfl
        have r2_2 : Wf.cell? ⟨w.heap.size + 2, 2, none⟩ = some (.int .i64 a) := by rw [K2_4.out.cell]; rfl
        have r2_3 : Wf.cell? ⟨w.heap.size + 2, 3, none⟩ = some (.int .i64 b) := by rw [K2_4.out.cell]; rfl
        have r2_4 : Wf.cell? ⟨w.heap.size + 2, 4, none⟩ = some (.int .i64 s) := by rw [K2_4.out.cell]; rfl
        have r2_5 : Wf.cell? ⟨w.heap.size + 2, 5, none⟩ = some (.int .i64 g) := by rw [K2_4.out.cell]; rfl
        exact bodyPost_ret (v := .tuple #[.agg #[.int .i64 p, .slice A8 n c8, .int .i64 a, .int .i64 b, .int .i64 s, .int .i64 g], .bool false]) (by simp [results, Try.results11, go_sem, r2_0, r2_1, r2_2, r2_3, r2_4, r2_5]) rfl ⟨A8, c8, rfl, own_base O_4.out (by have hs := HS.out; omega), B4.out⟩
      · skip
        have qa : (a == 0) = false := by simpa using ha0
        by_cases hs9 : s = 1000000000
        · skip
          have qs : (s == 1000000000) = true := by simpa using hs9
          obtain rfl : r = false := by rw [← HR.out]; unfold sendOk; rw [hok, hrc]; simp [hs9]
          clear hok hrc K ha0 hs9
          obtain rfl : zs = us := HU.out
          obtain rfl : n = m := HZ.out.symm.trans HM.out
          have x0_0 : w3.cell? ⟨w.heap.size, 0, none⟩ = some (.int .i64 p) := by rw [K0_2.out.cell]; rfl
          have x0_1 : w3.cell? ⟨w.heap.size, 1, none⟩ = some (.slice A n c) := by rw [K0_2.out.cell]; rfl
          have x0_2 : w3.cell? ⟨w.heap.size, 2, none⟩ = some (.int .i64 a) := by rw [K0_2.out.cell]; rfl
          have x0_3 : w3.cell? ⟨w.heap.size, 3, none⟩ = some (.int .i64 b) := by rw [K0_2.out.cell]; rfl
          have x0_4 : w3.cell? ⟨w.heap.size, 4, none⟩ = some (.int .i64 s) := by rw [K0_2.out.cell]; rfl
          have x0_5 : w3.cell? ⟨w.heap.size, 5, none⟩ = some (.int .i64 g) := by rw [K0_2.out.cell]; rfl
          go_wp2_with fail
          clear x0_0 x0_1 x0_2 x0_3 x0_4 x0_5
          refine (implCopy_any n zs HZ.out A c HA.out p a b s g w3 (H1.out.below B2.out) hn).mono ?_
          rintro e wc ⟨A8, c8, rfl, own8, hb⟩
          replace own8 := own_base own8 (show W.heap.size ≤ w3.heap.size by have hs := HS.out; have hk := K2_2.out.lt; omega)
          have B3 := Lib.hid (below_chain B2.out hb)
          have K0_3 := Lib.hid (K0_2.out.below hb)
          have K1_3 := Lib.hid (K1_2.out.below hb)
          have K2_3 := Lib.hid (K2_2.out.below hb)
          clear hb B2 K0_2 K1_2 K2_2
          have O_3 := Lib.hid own8
          clear own8
          have x2_0 : wc.cell? ⟨w.heap.size + 2, 0, none⟩ = some (.int .i64 0) := by rw [K2_3.out.cell]; rfl
          have y2_0 := K2_3.out.frozen 0
          have x2_1 : wc.cell? ⟨w.heap.size + 2, 1, none⟩ = some (.slice none 0 0) := by rw [K2_3.out.cell]; rfl
          have y2_1 := K2_3.out.frozen 1
          have x2_2 : wc.cell? ⟨w.heap.size + 2, 2, none⟩ = some (.int .i64 0) := by rw [K2_3.out.cell]; rfl
          have y2_2 := K2_3.out.frozen 2
          have x2_3 : wc.cell? ⟨w.heap.size + 2, 3, none⟩ = some (.int .i64 0) := by rw [K2_3.out.cell]; rfl
          have y2_3 := K2_3.out.frozen 3
          have x2_4 : wc.cell? ⟨w.heap.size + 2, 4, none⟩ = some (.int .i64 0) := by rw [K2_3.out.cell]; rfl
          have y2_4 := K2_3.out.frozen 4
          have x2_5 : wc.cell? ⟨w.heap.size + 2, 5, none⟩ = some (.int .i64 0) := by rw [K2_3.out.cell]; rfl
          have y2_5 := K2_3.out.frozen 5
          go_wp2_with fail
          clear x2_0 y2_0 x2_1 y2_1 x2_2 y2_2 x2_3 y2_3 x2_4 y2_4 x2_5 y2_5
          generalize hV : ((((((wc.setCell _ _).setCell _ _).setCell _ _).setCell _ _).setCell _ _).setCell _ _) = Wf
          have B4 := Lib.hid (show Below w.heap.size w Wf by rw [← hV]; exact ((((((B3.out.setCell (by first | (simp; done) | (simp; omega) | omega) _).setCell (by first | (simp; done) | (simp; omega) | omega) _).setCell (by first | (simp; done) | (simp; omega) | omega) _).setCell (by first | (simp; done) | (simp; omega) | omega) _).setCell (by first | (simp; done) | (simp; omega) | omega) _).setCell (by first | (simp; done) | (simp; omega) | omega) _))
          have O_4 := Lib.hid (show Wf.ownsRow W.heap.size 30 5 (.slice A8 n c8) (n) (rcCells (zs)) by rw [← hV]; exact (own_set (own_set (own_set (own_set (own_set (own_set O_3.out _ (by have hs := HS.out; first | (simp; done) | (simp; omega) | omega)) _ (by have hs := HS.out; first | (simp; done) | (simp; omega) | omega)) _ (by have hs := HS.out; first | (simp; done) | (simp; omega) | omega)) _ (by have hs := HS.out; first | (simp; done) | (simp; omega) | omega)) _ (by have hs := HS.out; first | (simp; done) | (simp; omega) | omega)) _ (by have hs := HS.out; first | (simp; done) | (simp; omega) | omega)))
          have K0_4 := Lib.hid (show Blk Wf (w.heap.size) 26 #[.int .i64 p, .slice A n c, .int .i64 a, .int .i64 b, .int .i64 s, .int .i64 g] by rw [← hV]; exact ((((((K0_3.out.other (by first | (simp; done) | (simp; omega) | omega) _).other (by first | (simp; done) | (simp; omega) | omega) _).other (by first | (simp; done) | (simp; omega) | omega) _).other (by first | (simp; done) | (simp; omega) | omega) _).other (by first | (simp; done) | (simp; omega) | omega) _).other (by first | (simp; done) | (simp; omega) | omega) _))
          have K1_4 := Lib.hid (show Blk Wf (w.heap.size + 1) 30 #[.int .i64 p0, .int .i64 p1, .int .i64 p2, .int .i64 p3, .int .i64 p4] by rw [← hV]; exact ((((((K1_3.out.other (by first | (simp; done) | (simp; omega) | omega) _).other (by first | (simp; done) | (simp; omega) | omega) _).other (by first | (simp; done) | (simp; omega) | omega) _).other (by first | (simp; done) | (simp; omega) | omega) _).other (by first | (simp; done) | (simp; omega) | omega) _).other (by first | (simp; done) | (simp; omega) | omega) _))
          have K2_4 := Lib.hid (show Blk Wf (w.heap.size + 2) 26 #[.int .i64 p, .slice A8 n c8, .int .i64 a, .int .i64 b, .int .i64 s, .int .i64 g] by rw [← hV]; exact ((((((K2_3.out.put 0 _).put 1 _).put 2 _).put 3 _).put 4 _).put 5 _))
          clear hV B3 K0_3 K1_3 K2_3 O_3
          have r2_0 : Wf.cell? ⟨w.heap.size + 2, 0, none⟩ = some (.int .i64 p) := by rw [K2_4.out.cell]; rfl
          have r2_1 : Wf.cell? ⟨w.heap.size + 2, 1, none⟩ = some (.slice A8 n c8) := by rw [K2_4.out.cell]; rfl
          have r2_2 : Wf.cell? ⟨w.heap.size + 2, 2, none⟩ = some (.int .i64 a) := by rw [K2_4.out.cell]; rfl
          have r2_3 : Wf.cell? ⟨w.heap.size + 2, 3, none⟩ = some (.int .i64 b) := by rw [K2_4.out.cell]; rfl
          have r2_4 : Wf.cell? ⟨w.heap.size + 2, 4, none⟩ = some (.int .i64 s) := by rw [K2_4.out.cell]; rfl
          have r2_5 : Wf.cell? ⟨w.heap.size + 2, 5, none⟩ = some (.int .i64 g) := by rw [K2_4.out.cell]; rfl
          exact bodyPost_ret (v := .tuple #[.agg #[.int .i64 p, .slice A8 n c8, .int .i64 a, .int .i64 b, .int .i64 s, .int .i64 g], .bool false]) (by simp [results, Try.results11, go_sem, r2_0, r2_1, r2_2, r2_3, r2_4, r2_5]) rfl ⟨A8, c8, rfl, own_base O_4.out (by have hs := HS.out; omega), B4.out⟩
        · skip
          have ks9 := K.s9
          have ks0 := K.s0
          have kg0 := K.g0
          have kgs := K.gs
          have ka := K.a0
          have kb := K.b0
          have kp := K.p4
          have ksum := K.sum
          have qs : (s == 1000000000) = false := by simpa using hs9
          obtain rfl : r = true := by rw [← HR.out]; unfold sendOk; rw [hok, hrc]; simp [ha0, hs9]
          have m1 : IntKind.i64.wrap (a - 1) = a - 1 := IntWalk.i64_in _ (by omega)
          have m2 : IntKind.i64.wrap (s + 1) = s + 1 := IntWalk.i64_in _ (by omega)
          obtain rfl : zs ++ [(p0, (p1, p2), p3, p4)] = us := HU.out
          obtain rfl : n + 1 = m := by rw [← HM.out, ← HZ.out]; simp
          obtain ⟨G, rfl⟩ : ∃ G : Nat, g = (G : Int) := ⟨g.toNat, by omega⟩
          have hn4 : n ≤ 4 := by omega
          have hG9 : G ≤ 1000000000 := by omega
          have hsG : s = (G : Int) + (n : Int) := by omega
          have HSG := Lib.hid hsG
          clear hsG hok K
          have x0_0 : w3.cell? ⟨w.heap.size, 0, none⟩ = some (.int .i64 p) := by rw [K0_2.out.cell]; rfl
          have x0_1 : w3.cell? ⟨w.heap.size, 1, none⟩ = some (.slice A n c) := by rw [K0_2.out.cell]; rfl
          have x0_2 : w3.cell? ⟨w.heap.size, 2, none⟩ = some (.int .i64 a) := by rw [K0_2.out.cell]; rfl
          have x0_3 : w3.cell? ⟨w.heap.size, 3, none⟩ = some (.int .i64 b) := by rw [K0_2.out.cell]; rfl
          have x0_4 : w3.cell? ⟨w.heap.size, 4, none⟩ = some (.int .i64 s) := by rw [K0_2.out.cell]; rfl
          have x0_5 : w3.cell? ⟨w.heap.size, 5, none⟩ = some (.int .i64 (G : Int)) := by rw [K0_2.out.cell]; rfl
          go_wp2_with fail
          clear x0_0 x0_1 x0_2 x0_3 x0_4 x0_5
          refine (implRing_any n zs HZ.out A c p a b s G w3 (H1.out.below B2.out) hn4 hG9).mono ?_
          rintro e w4 ⟨rs, hrl, hin, rfl, hb⟩
          have RL := Lib.hid hrl
          have RI := Lib.hid hin
          clear hrl hin
          have B3 := Lib.hid (below_chain B2.out hb)
          have K0_3 := Lib.hid (K0_2.out.below hb)
          have K1_3 := Lib.hid (K1_2.out.below hb)
          have K2_3 := Lib.hid (K2_2.out.below hb)
          clear hb B2 K0_2 K1_2 K2_2
          have SZ4 := Lib.hid (show w.heap.size + 3 ≤ w4.heap.size by have hk := K2_3.out.lt; omega)
          obtain ⟨V4, hV4⟩ : ∃ V4, w4.alloc (.cells #[.int .i64 0, .int .i64 0, .int .i64 0, .int .i64 0, .int .i64 0, .int .i64 0, .int .i64 0, .int .i64 0, .int .i64 0, .int .i64 0, .int .i64 0, .int .i64 0, .int .i64 0, .int .i64 0, .int .i64 0, .int .i64 0, .int .i64 0, .int .i64 0, .int .i64 0, .int .i64 0] 69) = V4 := ⟨_, rfl⟩
          have hb : Below w4.heap.size w4 V4 := by rw [← hV4]; exact (Below.refl _ _).alloc (Nat.le_refl _) _
          have RG0 := Lib.hid (show Blk V4 w4.heap.size 69 #[.int .i64 0, .int .i64 0, .int .i64 0, .int .i64 0, .int .i64 0, .int .i64 0, .int .i64 0, .int .i64 0, .int .i64 0, .int .i64 0, .int .i64 0, .int .i64 0, .int .i64 0, .int .i64 0, .int .i64 0, .int .i64 0, .int .i64 0, .int .i64 0, .int .i64 0, .int .i64 0] by rw [← hV4]; exact Blk.new _ _ _)
          have B4 := Lib.hid (below_chain B3.out hb)
          have K0_4 := Lib.hid (K0_3.out.below hb)
          have K1_4 := Lib.hid (K1_3.out.below hb)
          have K2_4 := Lib.hid (K2_3.out.below hb)
          clear hb B3 K0_3 K1_3 K2_3
          go_wp2_with (refine wpList_store_blk rfl 69 _ _ rfl w4.heap.size (rcCells rs).toArray (by rfl) (by rfl) 69 _ RG0.out (by rw [rcCells_size RL.out]; exact ringinfo) (by rw [rcCells_size RL.out]; rfl) rcCells_all ?_; intro V5 kb gr; generalize hGG : wpList _ _ _ _ _ _ = GG)
          subst hGG
          have B5 := Lib.hid (B4.out.grown gr B4.out.size (fun j hj => by have hq := SZ4.out; simp only [Option.some.injEq] at hj; omega))
          have K0_5 := Lib.hid (K0_4.out.grown gr (by have hq := SZ4.out; simp; omega))
          have K1_5 := Lib.hid (K1_4.out.grown gr (by have hq := SZ4.out; simp; omega))
          have K2_5 := Lib.hid (K2_4.out.grown gr (by have hq := SZ4.out; simp; omega))
          have RG_5 := Lib.hid kb
          clear gr kb hV4 RG0 B4 K0_4 K1_4 K2_4
          obtain ⟨d, hd⟩ : ∃ d, (G + n) % 4 = d := ⟨_, rfl⟩
          have hd4 : d < 4 := by omega
          have i3 : (0 : Int) ≤ (d : Int) := by omega
          have i4 : (d : Int) < 4 := by omega
          have E := Lib.hid (fun W => implSlot_is (x := s) (d := d) (by omega) (by omega) (by have h := HSG.out; omega) W)
          have HI := Lib.hid (inRing_snoc (d := d) (z := (p0, (p1, p2), p3, p4)) RL.out (by rw [HZ.out]; omega) (by rw [HZ.out]; exact hd) RI.out)
          have HN := Lib.hid (show (zs ++ [(p0, (p1, p2), p3, p4)]).length = n + 1 by simp [HZ.out])
          have RL2 := Lib.hid (show (rs.set d (p0, (p1, p2), p3, p4)).length = 4 by rw [List.length_set]; exact RL.out)
          obtain ⟨z, hzd⟩ : ∃ z, rs[d]? = some z := ⟨_, List.getElem?_eq_getElem (by rw [RL.out]; omega)⟩
          have x0_4 : V5.cell? ⟨w.heap.size, 4, none⟩ = some (.int .i64 s) := by rw [K0_5.out.cell]; rfl
          have x1_0 : V5.cell? ⟨w.heap.size + 1, 0, none⟩ = some (.int .i64 p0) := by rw [K1_5.out.cell]; rfl
          have x1_1 : V5.cell? ⟨w.heap.size + 1, 1, none⟩ = some (.int .i64 p1) := by rw [K1_5.out.cell]; rfl
          have x1_2 : V5.cell? ⟨w.heap.size + 1, 2, none⟩ = some (.int .i64 p2) := by rw [K1_5.out.cell]; rfl
          have x1_3 : V5.cell? ⟨w.heap.size + 1, 3, none⟩ = some (.int .i64 p3) := by rw [K1_5.out.cell]; rfl
          have x1_4 : V5.cell? ⟨w.heap.size + 1, 4, none⟩ = some (.int .i64 p4) := by rw [K1_5.out.cell]; rfl
          obtain ⟨c0, c1, c2, c3, c4⟩ := inRing_cells RG_5.out hzd
          have f0 := RG_5.out.frozen (d * 5)
          have f1 := RG_5.out.frozen (d * 5 + 1)
          have f2 := RG_5.out.frozen (d * 5 + 2)
          have f3 := RG_5.out.frozen (d * 5 + 3)
          have f4 := RG_5.out.frozen (d * 5 + 4)
          have hn3 : n ≤ 3 := by omega
          clear hd hzd ha0 hs9 hrc ks9 ks0 kg0 kgs ka kb kp ksum
          go_wp2
          go_region_with (go_at_call 46; refine (E.out _).mono ?_; rintro e w1 ⟨rfl, rfl⟩)
          all_goals
            clear x0_4 x1_0 x1_1 x1_2 x1_3 x1_4 c0 c1 c2 c3 c4 f0 f1 f2 f3 f4
            generalize hV : (((((V5.setCell _ _).setCell _ _).setCell _ _).setCell _ _).setCell _ _).drew = V6
            have B6 := Lib.hid (show Below w.heap.size w V6 by rw [← hV]; exact (((((B5.out.setCell (by have hq := SZ4.out; first | (simp; done) | (simp; omega) | omega) _).setCell (by have hq := SZ4.out; first | (simp; done) | (simp; omega) | omega) _).setCell (by have hq := SZ4.out; first | (simp; done) | (simp; omega) | omega) _).setCell (by have hq := SZ4.out; first | (simp; done) | (simp; omega) | omega) _).setCell (by have hq := SZ4.out; first | (simp; done) | (simp; omega) | omega) _).drew)
            have K0_6 := Lib.hid (show Blk V6 (w.heap.size) 26 #[.int .i64 p, .slice A n c, .int .i64 a, .int .i64 b, .int .i64 s, .int .i64 (G : Int)] by rw [← hV]; exact (((((K0_5.out.other (by have hq := SZ4.out; first | (simp; done) | (simp; omega) | omega) _).other (by have hq := SZ4.out; first | (simp; done) | (simp; omega) | omega) _).other (by have hq := SZ4.out; first | (simp; done) | (simp; omega) | omega) _).other (by have hq := SZ4.out; first | (simp; done) | (simp; omega) | omega) _).other (by have hq := SZ4.out; first | (simp; done) | (simp; omega) | omega) _).drewN 1)
            have K1_6 := Lib.hid (show Blk V6 (w.heap.size + 1) 30 #[.int .i64 p0, .int .i64 p1, .int .i64 p2, .int .i64 p3, .int .i64 p4] by rw [← hV]; exact (((((K1_5.out.other (by have hq := SZ4.out; first | (simp; done) | (simp; omega) | omega) _).other (by have hq := SZ4.out; first | (simp; done) | (simp; omega) | omega) _).other (by have hq := SZ4.out; first | (simp; done) | (simp; omega) | omega) _).other (by have hq := SZ4.out; first | (simp; done) | (simp; omega) | omega) _).other (by have hq := SZ4.out; first | (simp; done) | (simp; omega) | omega) _).drewN 1)
            have K2_6 := Lib.hid (show Blk V6 (w.heap.size + 2) 26 #[.int .i64 0, .slice none 0 0, .int .i64 0, .int .i64 0, .int .i64 0, .int .i64 0] by rw [← hV]; exact (((((K2_5.out.other (by have hq := SZ4.out; first | (simp; done) | (simp; omega) | omega) _).other (by have hq := SZ4.out; first | (simp; done) | (simp; omega) | omega) _).other (by have hq := SZ4.out; first | (simp; done) | (simp; omega) | omega) _).other (by have hq := SZ4.out; first | (simp; done) | (simp; omega) | omega) _).other (by have hq := SZ4.out; first | (simp; done) | (simp; omega) | omega) _).drewN 1)
            have RG_6 := Lib.hid (show Blk V6 w4.heap.size 69 (rcCells (rs.set d (p0, (p1, p2), p3, p4))).toArray by rw [← hV]; exact (ring_put RG_5.out d p0 p1 p2 p3 p4).drewN 1)
            clear hV B5 RG_5 K0_5 K1_5 K2_5
            have x0_0 : V6.cell? ⟨w.heap.size, 0, none⟩ = some (.int .i64 p) := by rw [K0_6.out.cell]; rfl
            have x0_1 : V6.cell? ⟨w.heap.size, 1, none⟩ = some (.slice A n c) := by rw [K0_6.out.cell]; rfl
            have x0_2 : V6.cell? ⟨w.heap.size, 2, none⟩ = some (.int .i64 a) := by rw [K0_6.out.cell]; rfl
            have x0_3 : V6.cell? ⟨w.heap.size, 3, none⟩ = some (.int .i64 b) := by rw [K0_6.out.cell]; rfl
            have x0_4 : V6.cell? ⟨w.heap.size, 4, none⟩ = some (.int .i64 s) := by rw [K0_6.out.cell]; rfl
            have x0_5 : V6.cell? ⟨w.heap.size, 5, none⟩ = some (.int .i64 (G : Int)) := by rw [K0_6.out.cell]; rfl
            have y0_2 := K0_6.out.frozen 2
            have y0_4 := K0_6.out.frozen 4
            go_wp2_with (refine wpList_load_row rfl 69 _ rfl w4.heap.size (by rfl) 69 (rcCells (rs.set d (p0, (p1, p2), p3, p4))).toArray (0, 0) _ ((RG_6.out.other (by have hq := SZ4.out; first | (simp; done) | (simp; omega) | omega) _).other (by have hq := SZ4.out; first | (simp; done) | (simp; omega) | omega) _) Try.underlying69 rfl (by rw [rcCells_size RL2.out]; exact ringinfo) ?_)
            clear x0_0 x0_1 x0_2 x0_3 x0_4 x0_5 y0_2 y0_4
            generalize hV : ((V6.setCell _ _).setCell _ _) = V7
            have B7 := Lib.hid (show Below w.heap.size w V7 by rw [← hV]; exact ((B6.out.setCell (by first | (simp; done) | (simp; omega) | omega) _).setCell (by first | (simp; done) | (simp; omega) | omega) _))
            have K0_7 := Lib.hid (show Blk V7 (w.heap.size) 26 #[.int .i64 p, .slice A n c, .int .i64 (a - 1), .int .i64 b, .int .i64 (s + 1), .int .i64 (G : Int)] by rw [← hV]; exact ((K0_6.out.put 4 _).put 2 _))
            have K1_7 := Lib.hid (show Blk V7 (w.heap.size + 1) 30 #[.int .i64 p0, .int .i64 p1, .int .i64 p2, .int .i64 p3, .int .i64 p4] by rw [← hV]; exact ((K1_6.out.other (by first | (simp; done) | (simp; omega) | omega) _).other (by first | (simp; done) | (simp; omega) | omega) _))
            have K2_7 := Lib.hid (show Blk V7 (w.heap.size + 2) 26 #[.int .i64 0, .slice none 0 0, .int .i64 0, .int .i64 0, .int .i64 0, .int .i64 0] by rw [← hV]; exact ((K2_6.out.other (by first | (simp; done) | (simp; omega) | omega) _).other (by first | (simp; done) | (simp; omega) | omega) _))
            clear hV B6 K0_6 K1_6 K2_6
            clear RG_6
            refine (implQueue_any (rs.set d (p0, (p1, p2), p3, p4)) RL2.out G (n + 1) (zs ++ [(p0, (p1, p2), p3, p4)]) HN.out HI.out (by omega) (by omega) (s + 1) (by have h := HSG.out; omega) V7).mono ?_
            rintro e w8 ⟨A9, c9, rfl, own9, hb⟩
            replace own9 := own_base own9 (show W.heap.size ≤ V7.heap.size by have hs := HS.out; have hk := K2_7.out.lt; omega)
            have B8 := Lib.hid (below_chain B7.out hb)
            have K0_8 := Lib.hid (K0_7.out.below hb)
            have K1_8 := Lib.hid (K1_7.out.below hb)
            have K2_8 := Lib.hid (K2_7.out.below hb)
            clear hb B7 K0_7 K1_7 K2_7
            have O_8 := Lib.hid own9
            clear own9
            have x0_0 : w8.cell? ⟨w.heap.size, 0, none⟩ = some (.int .i64 p) := by rw [K0_8.out.cell]; rfl
            have x0_1 : w8.cell? ⟨w.heap.size, 1, none⟩ = some (.slice A n c) := by rw [K0_8.out.cell]; rfl
            have x0_2 : w8.cell? ⟨w.heap.size, 2, none⟩ = some (.int .i64 (a - 1)) := by rw [K0_8.out.cell]; rfl
            have x0_3 : w8.cell? ⟨w.heap.size, 3, none⟩ = some (.int .i64 b) := by rw [K0_8.out.cell]; rfl
            have x0_4 : w8.cell? ⟨w.heap.size, 4, none⟩ = some (.int .i64 (s + 1)) := by rw [K0_8.out.cell]; rfl
            have x0_5 : w8.cell? ⟨w.heap.size, 5, none⟩ = some (.int .i64 (G : Int)) := by rw [K0_8.out.cell]; rfl
            have y0_1 := K0_8.out.frozen 1
            have x2_0 : w8.cell? ⟨w.heap.size + 2, 0, none⟩ = some (.int .i64 0) := by rw [K2_8.out.cell]; rfl
            have y2_0 := K2_8.out.frozen 0
            have x2_1 : w8.cell? ⟨w.heap.size + 2, 1, none⟩ = some (.slice none 0 0) := by rw [K2_8.out.cell]; rfl
            have y2_1 := K2_8.out.frozen 1
            have x2_2 : w8.cell? ⟨w.heap.size + 2, 2, none⟩ = some (.int .i64 0) := by rw [K2_8.out.cell]; rfl
            have y2_2 := K2_8.out.frozen 2
            have x2_3 : w8.cell? ⟨w.heap.size + 2, 3, none⟩ = some (.int .i64 0) := by rw [K2_8.out.cell]; rfl
            have y2_3 := K2_8.out.frozen 3
            have x2_4 : w8.cell? ⟨w.heap.size + 2, 4, none⟩ = some (.int .i64 0) := by rw [K2_8.out.cell]; rfl
            have y2_4 := K2_8.out.frozen 4
            have x2_5 : w8.cell? ⟨w.heap.size + 2, 5, none⟩ = some (.int .i64 0) := by rw [K2_8.out.cell]; rfl
            have y2_5 := K2_8.out.frozen 5
            go_wp2_with fail
            clear x0_0 x0_1 x0_2 x0_3 x0_4 x0_5 y0_1 x2_0 y2_0 x2_1 y2_1 x2_2 y2_2 x2_3 y2_3 x2_4 y2_4 x2_5 y2_5
            generalize hV : (((((((w8.setCell _ _).setCell _ _).setCell _ _).setCell _ _).setCell _ _).setCell _ _).setCell _ _) = Wf
            have B9 := Lib.hid (show Below w.heap.size w Wf by rw [← hV]; exact (((((((B8.out.setCell (by first | (simp; done) | (simp; omega) | omega) _).setCell (by first | (simp; done) | (simp; omega) | omega) _).setCell (by first | (simp; done) | (simp; omega) | omega) _).setCell (by first | (simp; done) | (simp; omega) | omega) _).setCell (by first | (simp; done) | (simp; omega) | omega) _).setCell (by first | (simp; done) | (simp; omega) | omega) _).setCell (by first | (simp; done) | (simp; omega) | omega) _))
            have O_9 := Lib.hid (show Wf.ownsRow W.heap.size 30 5 (.slice A9 (n + 1) c9) (n + 1) (rcCells (zs ++ [(p0, (p1, p2), p3, p4)])) by rw [← hV]; exact (own_set (own_set (own_set (own_set (own_set (own_set (own_set O_8.out _ (by have hs := HS.out; first | (simp; done) | (simp; omega) | omega)) _ (by have hs := HS.out; first | (simp; done) | (simp; omega) | omega)) _ (by have hs := HS.out; first | (simp; done) | (simp; omega) | omega)) _ (by have hs := HS.out; first | (simp; done) | (simp; omega) | omega)) _ (by have hs := HS.out; first | (simp; done) | (simp; omega) | omega)) _ (by have hs := HS.out; first | (simp; done) | (simp; omega) | omega)) _ (by have hs := HS.out; first | (simp; done) | (simp; omega) | omega)))
            have K0_9 := Lib.hid (show Blk Wf (w.heap.size) 26 #[.int .i64 p, .slice A9 (n + 1) c9, .int .i64 (a - 1), .int .i64 b, .int .i64 (s + 1), .int .i64 (G : Int)] by rw [← hV]; exact (((((((K0_8.out.put 1 _).other (by first | (simp; done) | (simp; omega) | omega) _).other (by first | (simp; done) | (simp; omega) | omega) _).other (by first | (simp; done) | (simp; omega) | omega) _).other (by first | (simp; done) | (simp; omega) | omega) _).other (by first | (simp; done) | (simp; omega) | omega) _).other (by first | (simp; done) | (simp; omega) | omega) _))
            have K1_9 := Lib.hid (show Blk Wf (w.heap.size + 1) 30 #[.int .i64 p0, .int .i64 p1, .int .i64 p2, .int .i64 p3, .int .i64 p4] by rw [← hV]; exact (((((((K1_8.out.other (by first | (simp; done) | (simp; omega) | omega) _).other (by first | (simp; done) | (simp; omega) | omega) _).other (by first | (simp; done) | (simp; omega) | omega) _).other (by first | (simp; done) | (simp; omega) | omega) _).other (by first | (simp; done) | (simp; omega) | omega) _).other (by first | (simp; done) | (simp; omega) | omega) _).other (by first | (simp; done) | (simp; omega) | omega) _))
            have K2_9 := Lib.hid (show Blk Wf (w.heap.size + 2) 26 #[.int .i64 p, .slice A9 (n + 1) c9, .int .i64 (a - 1), .int .i64 b, .int .i64 (s + 1), .int .i64 (G : Int)] by rw [← hV]; exact (((((((K2_8.out.other (by first | (simp; done) | (simp; omega) | omega) _).put 0 _).put 1 _).put 2 _).put 3 _).put 4 _).put 5 _))
            clear hV B8 K0_8 K1_8 K2_8 O_8
            have r2_0 : Wf.cell? ⟨w.heap.size + 2, 0, none⟩ = some (.int .i64 p) := by rw [K2_9.out.cell]; rfl
            have r2_1 : Wf.cell? ⟨w.heap.size + 2, 1, none⟩ = some (.slice A9 (n + 1) c9) := by rw [K2_9.out.cell]; rfl
            have r2_2 : Wf.cell? ⟨w.heap.size + 2, 2, none⟩ = some (.int .i64 (a - 1)) := by rw [K2_9.out.cell]; rfl
            have r2_3 : Wf.cell? ⟨w.heap.size + 2, 3, none⟩ = some (.int .i64 b) := by rw [K2_9.out.cell]; rfl
            have r2_4 : Wf.cell? ⟨w.heap.size + 2, 4, none⟩ = some (.int .i64 (s + 1)) := by rw [K2_9.out.cell]; rfl
            have r2_5 : Wf.cell? ⟨w.heap.size + 2, 5, none⟩ = some (.int .i64 (G : Int)) := by rw [K2_9.out.cell]; rfl
            exact bodyPost_ret (v := .tuple #[.agg #[.int .i64 p, .slice A9 (n + 1) c9, .int .i64 (a - 1), .int .i64 b, .int .i64 (s + 1), .int .i64 (G : Int)], .bool true]) (by simp [results, Try.results11, go_sem, r2_0, r2_1, r2_2, r2_3, r2_4, r2_5]) rfl ⟨A9, c9, rfl, own_base O_9.out (by have hs := HS.out; omega), B9.out⟩

end Go.Proofs.Ythkkleicekhelaa.hexes
