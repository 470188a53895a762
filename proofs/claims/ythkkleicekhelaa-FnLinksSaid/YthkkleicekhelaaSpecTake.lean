/-
  The reference's TakeFrom.
-/
import Derived.Test.YthkkleicekhelaaLkCopy
import Derived.Test.YthkkleicekhelaaSpecLk1
import Derived.RegionTactic
import Derived.BigRegion
namespace Go.Proofs.Ythkkleicekhelaa.hexes
open Go.RowKit

theorem rcs_drop {w : World} {b off : Nat} {zs : List Rc} (h : Rcs w (some ⟨b, off, none⟩) zs) (k : Nat) (hk : k ≤ zs.length) : Rcs w (some ⟨b, off + k * 5, none⟩) (zs.drop k) := fun hl => by
  rw [List.length_drop] at hl
  obtain ⟨b', off', hA, hlt, hz⟩ := h (by omega)
  simp only [Option.some.injEq, Addr.mk.injEq, and_true] at hA
  obtain ⟨rfl, rfl⟩ := hA
  refine ⟨b, off + k * 5, rfl, hlt, fun j hj => ?_⟩
  rw [List.length_drop] at hj
  have := hz (k + j) (by omega)
  simp only [List.getElem_drop]
  rw [show off + k * 5 + j * 5 = off + (k + j) * 5 by omega]
  exact this

set_option maxRecDepth 100000 in
set_option maxHeartbeats 4000000 in
theorem specTake_any (n : Nat) (zs : List Rc) (hz : zs.length = n) (A : Option Addr) (c : Nat) (hA : A = none → c = 0) (p a b s g : Int) (w : World) (h1 : Rcs w A zs) (hn : n ≤ 1048576) {r : Bool} {us : List Rc} {m : Nat} {q0 q1 q2 q3 q4 : Int} (hr : takeOk p a b s g n zs = r) (hu : takeQ r zs = us) (hm : us.length = m) (hq : takeR r zs = (q0, (q1, q2), q3, q4)) :
    Calls Try.prog 18 #[.agg #[.int .i64 p, .slice A n c, .int .i64 a, .int .i64 b, .int .i64 s, .int .i64 g]] w fun e w' => ∃ A1 c1, e = .returned (.tuple #[.agg #[.int .i64 p, .slice A1 m c1, .int .i64 a, .int .i64 (turnI r b 1), .int .i64 s, .int .i64 (turnI r g 1)], .agg #[.int .i64 q0, .int .i64 q1, .int .i64 q2, .int .i64 q3, .int .i64 q4], .bool r]) ∧ w'.ownsRow w.heap.size 30 5 (.slice A1 m c1) m (rcCells us) ∧ Below w.heap.size w w' := by
  have H1 := Lib.hid h1
  have HZ := Lib.hid hz
  have HA := Lib.hid hA
  have HR := Lib.hid hr
  have HU := Lib.hid hu
  have HM := Lib.hid hm
  have HQ := Lib.hid hq
  clear h1 hz hA hr hu hm hq
  go_enter Try.func18, Try.ntmps18
  go_wp2_with fail
  generalize hW : (((w.alloc _).alloc _).alloc _) = W
  have B0 := Lib.hid (show Below w.heap.size w W by rw [← hW]; exact ((((Below.refl _ _).alloc (by first | (simp; done) | (simp; omega) | omega) _).alloc (by first | (simp; done) | (simp; omega) | omega) _).alloc (by first | (simp; done) | (simp; omega) | omega) _))
  have HS := Lib.hid (show W.heap.size = w.heap.size + 3 by rw [← hW]; simp)
  have K0_0 := Lib.hid (show Blk W (w.heap.size) 26 #[.int .i64 p, .slice A n c, .int .i64 a, .int .i64 b, .int .i64 s, .int .i64 g] by rw [← hW]; exact ((Below.heap_alloc _ _ _ (by first | (simp; done) | (simp; omega))).trans ((Below.heap_alloc _ _ _ (by first | (simp; done) | (simp; omega))).trans (Blk.new _ _ _))))
  have K1_0 := Lib.hid (show Blk W (w.heap.size + 1) 26 #[.int .i64 0, .slice none 0 0, .int .i64 0, .int .i64 0, .int .i64 0, .int .i64 0] by rw [← hW]; exact ((Below.heap_alloc _ _ _ (by first | (simp; done) | (simp; omega))).trans ((show w.heap.size + 1 = ((w.alloc _)).heap.size by simp) ▸ Blk.new _ _ _)))
  have K2_0 := Lib.hid (show Blk W (w.heap.size + 2) 30 #[.int .i64 0, .int .i64 0, .int .i64 0, .int .i64 0, .int .i64 0] by rw [← hW]; exact ((show w.heap.size + 2 = (((w.alloc _).alloc _)).heap.size by simp) ▸ Blk.new _ _ _))
  clear hW
  refine (specCopy_any n zs HZ.out A c HA.out p a b s g W (H1.out.below B0.out) hn).mono ?_
  rintro e w1 ⟨A8, c8, rfl, own8, hb⟩
  have B1 := Lib.hid (below_chain B0.out hb)
  have K0_1 := Lib.hid (K0_0.out.below hb)
  have K1_1 := Lib.hid (K1_0.out.below hb)
  have K2_1 := Lib.hid (K2_0.out.below hb)
  clear hb B0 K0_0 K1_0 K2_0
  have O_1 := Lib.hid own8
  clear own8
  have x0_0 : w1.cell? ⟨w.heap.size, 0, none⟩ = some (.int .i64 p) := by rw [K0_1.out.cell]; rfl
  have y0_0 := K0_1.out.frozen 0
  have x0_1 : w1.cell? ⟨w.heap.size, 1, none⟩ = some (.slice A n c) := by rw [K0_1.out.cell]; rfl
  have y0_1 := K0_1.out.frozen 1
  have x0_2 : w1.cell? ⟨w.heap.size, 2, none⟩ = some (.int .i64 a) := by rw [K0_1.out.cell]; rfl
  have y0_2 := K0_1.out.frozen 2
  have x0_3 : w1.cell? ⟨w.heap.size, 3, none⟩ = some (.int .i64 b) := by rw [K0_1.out.cell]; rfl
  have y0_3 := K0_1.out.frozen 3
  have x0_4 : w1.cell? ⟨w.heap.size, 4, none⟩ = some (.int .i64 s) := by rw [K0_1.out.cell]; rfl
  have y0_4 := K0_1.out.frozen 4
  have x0_5 : w1.cell? ⟨w.heap.size, 5, none⟩ = some (.int .i64 g) := by rw [K0_1.out.cell]; rfl
  have y0_5 := K0_1.out.frozen 5
  go_wp2_with fail
  clear x0_0 y0_0 x0_1 y0_1 x0_2 y0_2 x0_3 y0_3 x0_4 y0_4 x0_5 y0_5
  generalize hV : ((((((w1.setCell _ _).setCell _ _).setCell _ _).setCell _ _).setCell _ _).setCell _ _) = V1
  have B2 := Lib.hid (show Below w.heap.size w V1 by rw [← hV]; exact ((((((B1.out.setCell (by first | (simp; done) | (simp; omega) | omega) _).setCell (by first | (simp; done) | (simp; omega) | omega) _).setCell (by first | (simp; done) | (simp; omega) | omega) _).setCell (by first | (simp; done) | (simp; omega) | omega) _).setCell (by first | (simp; done) | (simp; omega) | omega) _).setCell (by first | (simp; done) | (simp; omega) | omega) _))
  have O_2 := Lib.hid (show V1.ownsRow W.heap.size 30 5 (.slice A8 n c8) (n) (rcCells (zs)) by rw [← hV]; exact (own_set (own_set (own_set (own_set (own_set (own_set O_1.out _ (by have hs := HS.out; first | (simp; done) | (simp; omega) | omega)) _ (by have hs := HS.out; first | (simp; done) | (simp; omega) | omega)) _ (by have hs := HS.out; first | (simp; done) | (simp; omega) | omega)) _ (by have hs := HS.out; first | (simp; done) | (simp; omega) | omega)) _ (by have hs := HS.out; first | (simp; done) | (simp; omega) | omega)) _ (by have hs := HS.out; first | (simp; done) | (simp; omega) | omega)))
  have K0_2 := Lib.hid (show Blk V1 (w.heap.size) 26 #[.int .i64 p, .slice A8 n c8, .int .i64 a, .int .i64 b, .int .i64 s, .int .i64 g] by rw [← hV]; exact ((((((K0_1.out.put 0 _).put 1 _).put 2 _).put 3 _).put 4 _).put 5 _))
  have K1_2 := Lib.hid (show Blk V1 (w.heap.size + 1) 26 #[.int .i64 0, .slice none 0 0, .int .i64 0, .int .i64 0, .int .i64 0, .int .i64 0] by rw [← hV]; exact ((((((K1_1.out.other (by first | (simp; done) | (simp; omega) | omega) _).other (by first | (simp; done) | (simp; omega) | omega) _).other (by first | (simp; done) | (simp; omega) | omega) _).other (by first | (simp; done) | (simp; omega) | omega) _).other (by first | (simp; done) | (simp; omega) | omega) _).other (by first | (simp; done) | (simp; omega) | omega) _))
  have K2_2 := Lib.hid (show Blk V1 (w.heap.size + 2) 30 #[.int .i64 0, .int .i64 0, .int .i64 0, .int .i64 0, .int .i64 0] by rw [← hV]; exact ((((((K2_1.out.other (by first | (simp; done) | (simp; omega) | omega) _).other (by first | (simp; done) | (simp; omega) | omega) _).other (by first | (simp; done) | (simp; omega) | omega) _).other (by first | (simp; done) | (simp; omega) | omega) _).other (by first | (simp; done) | (simp; omega) | omega) _).other (by first | (simp; done) | (simp; omega) | omega) _))
  clear hV B1 K0_1 K1_1 K2_1 O_1
  refine (specLkOk_any n zs HZ.out A8 c8 p a b s g V1 (own_rcs O_2.out) (by omega)).mono ?_
  rintro e w2 ⟨rfl, hb⟩
  have B3 := Lib.hid (below_chain B2.out hb)
  have K0_3 := Lib.hid (K0_2.out.below hb)
  have K1_3 := Lib.hid (K1_2.out.below hb)
  have K2_3 := Lib.hid (K2_2.out.below hb)
  have O_3 := Lib.hid (own_below O_2.out hb)
  clear hb B2 K0_2 K1_2 K2_2 O_2
  cases hok : okLk p a b s g n zs with
  | false =>
    obtain rfl : r = false := by rw [← HR.out]; unfold takeOk; rw [hok]; rfl
    clear hok
    obtain rfl : zs = us := HU.out
    obtain rfl : n = m := HZ.out.symm.trans HM.out
    obtain ⟨rfl, ⟨rfl, rfl⟩, rfl, rfl⟩ : 0 = q0 ∧ (0 = q1 ∧ 0 = q2) ∧ 0 = q3 ∧ 0 = q4 := by have h := HQ.out; simpa [takeR] using h
    have x0_0 : w2.cell? ⟨w.heap.size, 0, none⟩ = some (.int .i64 p) := by rw [K0_3.out.cell]; rfl
    have x0_1 : w2.cell? ⟨w.heap.size, 1, none⟩ = some (.slice A8 n c8) := by rw [K0_3.out.cell]; rfl
    have x0_2 : w2.cell? ⟨w.heap.size, 2, none⟩ = some (.int .i64 a) := by rw [K0_3.out.cell]; rfl
    have x0_3 : w2.cell? ⟨w.heap.size, 3, none⟩ = some (.int .i64 b) := by rw [K0_3.out.cell]; rfl
    have x0_4 : w2.cell? ⟨w.heap.size, 4, none⟩ = some (.int .i64 s) := by rw [K0_3.out.cell]; rfl
    have x0_5 : w2.cell? ⟨w.heap.size, 5, none⟩ = some (.int .i64 g) := by rw [K0_3.out.cell]; rfl
    have x1_0 : w2.cell? ⟨w.heap.size + 1, 0, none⟩ = some (.int .i64 0) := by rw [K1_3.out.cell]; rfl
    have y1_0 := K1_3.out.frozen 0
    have x1_1 : w2.cell? ⟨w.heap.size + 1, 1, none⟩ = some (.slice none 0 0) := by rw [K1_3.out.cell]; rfl
    have y1_1 := K1_3.out.frozen 1
    have x1_2 : w2.cell? ⟨w.heap.size + 1, 2, none⟩ = some (.int .i64 0) := by rw [K1_3.out.cell]; rfl
    have y1_2 := K1_3.out.frozen 2
    have x1_3 : w2.cell? ⟨w.heap.size + 1, 3, none⟩ = some (.int .i64 0) := by rw [K1_3.out.cell]; rfl
    have y1_3 := K1_3.out.frozen 3
    have x1_4 : w2.cell? ⟨w.heap.size + 1, 4, none⟩ = some (.int .i64 0) := by rw [K1_3.out.cell]; rfl
    have y1_4 := K1_3.out.frozen 4
    have x1_5 : w2.cell? ⟨w.heap.size + 1, 5, none⟩ = some (.int .i64 0) := by rw [K1_3.out.cell]; rfl
    have y1_5 := K1_3.out.frozen 5
    have x2_0 : w2.cell? ⟨w.heap.size + 2, 0, none⟩ = some (.int .i64 0) := by rw [K2_3.out.cell]; rfl
    have y2_0 := K2_3.out.frozen 0
    have x2_1 : w2.cell? ⟨w.heap.size + 2, 1, none⟩ = some (.int .i64 0) := by rw [K2_3.out.cell]; rfl
    have y2_1 := K2_3.out.frozen 1
    have x2_2 : w2.cell? ⟨w.heap.size + 2, 2, none⟩ = some (.int .i64 0) := by rw [K2_3.out.cell]; rfl
    have y2_2 := K2_3.out.frozen 2
    have x2_3 : w2.cell? ⟨w.heap.size + 2, 3, none⟩ = some (.int .i64 0) := by rw [K2_3.out.cell]; rfl
    have y2_3 := K2_3.out.frozen 3
    have x2_4 : w2.cell? ⟨w.heap.size + 2, 4, none⟩ = some (.int .i64 0) := by rw [K2_3.out.cell]; rfl
    have y2_4 := K2_3.out.frozen 4
    go_wp2_with fail
    clear x0_0 x0_1 x0_2 x0_3 x0_4 x0_5 x1_0 y1_0 x1_1 y1_1 x1_2 y1_2 x1_3 y1_3 x1_4 y1_4 x1_5 y1_5 x2_0 y2_0 x2_1 y2_1 x2_2 y2_2 x2_3 y2_3 x2_4 y2_4
    generalize hV : (((((((((((w2.setCell _ _).setCell _ _).setCell _ _).setCell _ _).setCell _ _).setCell _ _).setCell _ _).setCell _ _).setCell _ _).setCell _ _).setCell _ _) = Wf
    have B4 := Lib.hid (show Below w.heap.size w Wf by rw [← hV]; exact (((((((((((B3.out.setCell (by first | (simp; done) | (simp; omega) | omega) _).setCell (by first | (simp; done) | (simp; omega) | omega) _).setCell (by first | (simp; done) | (simp; omega) | omega) _).setCell (by first | (simp; done) | (simp; omega) | omega) _).setCell (by first | (simp; done) | (simp; omega) | omega) _).setCell (by first | (simp; done) | (simp; omega) | omega) _).setCell (by first | (simp; done) | (simp; omega) | omega) _).setCell (by first | (simp; done) | (simp; omega) | omega) _).setCell (by first | (simp; done) | (simp; omega) | omega) _).setCell (by first | (simp; done) | (simp; omega) | omega) _).setCell (by first | (simp; done) | (simp; omega) | omega) _))
    have O_4 := Lib.hid (show Wf.ownsRow W.heap.size 30 5 (.slice A8 n c8) (n) (rcCells (zs)) by rw [← hV]; exact (own_set (own_set (own_set (own_set (own_set (own_set (own_set (own_set (own_set (own_set (own_set O_3.out _ (by have hs := HS.out; first | (simp; done) | (simp; omega) | omega)) _ (by have hs := HS.out; first | (simp; done) | (simp; omega) | omega)) _ (by have hs := HS.out; first | (simp; done) | (simp; omega) | omega)) _ (by have hs := HS.out; first | (simp; done) | (simp; omega) | omega)) _ (by have hs := HS.out; first | (simp; done) | (simp; omega) | omega)) _ (by have hs := HS.out; first | (simp; done) | (simp; omega) | omega)) _ (by have hs := HS.out; first | (simp; done) | (simp; omega) | omega)) _ (by have hs := HS.out; first | (simp; done) | (simp; omega) | omega)) _ (by have hs := HS.out; first | (simp; done) | (simp; omega) | omega)) _ (by have hs := HS.out; first | (simp; done) | (simp; omega) | omega)) _ (by have hs := HS.out; first | (simp; done) | (simp; omega) | omega)))
    have K0_4 := Lib.hid (show Blk Wf (w.heap.size) 26 #[.int .i64 p, .slice A8 n c8, .int .i64 a, .int .i64 b, .int .i64 s, .int .i64 g] by rw [← hV]; exact (((((((((((K0_3.out.other (by first | (simp; done) | (simp; omega) | omega) _).other (by first | (simp; done) | (simp; omega) | omega) _).other (by first | (simp; done) | (simp; omega) | omega) _).other (by first | (simp; done) | (simp; omega) | omega) _).other (by first | (simp; done) | (simp; omega) | omega) _).other (by first | (simp; done) | (simp; omega) | omega) _).other (by first | (simp; done) | (simp; omega) | omega) _).other (by first | (simp; done) | (simp; omega) | omega) _).other (by first | (simp; done) | (simp; omega) | omega) _).other (by first | (simp; done) | (simp; omega) | omega) _).other (by first | (simp; done) | (simp; omega) | omega) _))
    have K1_4 := Lib.hid (show Blk Wf (w.heap.size + 1) 26 #[.int .i64 p, .slice A8 n c8, .int .i64 a, .int .i64 b, .int .i64 s, .int .i64 g] by rw [← hV]; exact (((((((((((K1_3.out.put 0 _).put 1 _).put 2 _).put 3 _).put 4 _).put 5 _).other (by first | (simp; done) | (simp; omega) | omega) _).other (by first | (simp; done) | (simp; omega) | omega) _).other (by first | (simp; done) | (simp; omega) | omega) _).other (by first | (simp; done) | (simp; omega) | omega) _).other (by first | (simp; done) | (simp; omega) | omega) _))
    have K2_4 := Lib.hid (show Blk Wf (w.heap.size + 2) 30 #[.int .i64 0, .int .i64 0, .int .i64 0, .int .i64 0, .int .i64 0] by rw [← hV]; exact (((((((((((K2_3.out.other (by first | (simp; done) | (simp; omega) | omega) _).other (by first | (simp; done) | (simp; omega) | omega) _).other (by first | (simp; done) | (simp; omega) | omega) _).other (by first | (simp; done) | (simp; omega) | omega) _).other (by first | (simp; done) | (simp; omega) | omega) _).other (by first | (simp; done) | (simp; omega) | omega) _).put 0 _).put 1 _).put 2 _).put 3 _).put 4 _))
    clear hV B3 K0_3 K1_3 K2_3 O_3
    have r1_0 : Wf.cell? ⟨w.heap.size + 1, 0, none⟩ = some (.int .i64 p) := by rw [K1_4.out.cell]; rfl
    have r1_1 : Wf.cell? ⟨w.heap.size + 1, 1, none⟩ = some (.slice A8 n c8) := by rw [K1_4.out.cell]; rfl
    have r1_2 : Wf.cell? ⟨w.heap.size + 1, 2, none⟩ = some (.int .i64 a) := by rw [K1_4.out.cell]; rfl
    have r1_3 : Wf.cell? ⟨w.heap.size + 1, 3, none⟩ = some (.int .i64 b) := by rw [K1_4.out.cell]; rfl
    have r1_4 : Wf.cell? ⟨w.heap.size + 1, 4, none⟩ = some (.int .i64 s) := by rw [K1_4.out.cell]; rfl
    have r1_5 : Wf.cell? ⟨w.heap.size + 1, 5, none⟩ = some (.int .i64 g) := by rw [K1_4.out.cell]; rfl
    have r2_0 : Wf.cell? ⟨w.heap.size + 2, 0, none⟩ = some (.int .i64 0) := by rw [K2_4.out.cell]; rfl
    have r2_1 : Wf.cell? ⟨w.heap.size + 2, 1, none⟩ = some (.int .i64 0) := by rw [K2_4.out.cell]; rfl
    have r2_2 : Wf.cell? ⟨w.heap.size + 2, 2, none⟩ = some (.int .i64 0) := by rw [K2_4.out.cell]; rfl
    have r2_3 : Wf.cell? ⟨w.heap.size + 2, 3, none⟩ = some (.int .i64 0) := by rw [K2_4.out.cell]; rfl
    have r2_4 : Wf.cell? ⟨w.heap.size + 2, 4, none⟩ = some (.int .i64 0) := by rw [K2_4.out.cell]; rfl
    exact bodyPost_ret (v := .tuple #[.agg #[.int .i64 p, .slice A8 n c8, .int .i64 a, .int .i64 b, .int .i64 s, .int .i64 g], .agg #[.int .i64 0, .int .i64 0, .int .i64 0, .int .i64 0, .int .i64 0], .bool false]) (by simp [results, Try.results18, go_sem, r1_0, r1_1, r1_2, r1_3, r1_4, r1_5, r2_0, r2_1, r2_2, r2_3, r2_4]) rfl ⟨A8, c8, rfl, own_base O_4.out (by have hs := HS.out; omega), B4.out⟩
  | true =>
    by_cases hn0 : n = 0
    · skip
      have qn : ((n : Int) == 0) = true := by simp; omega
      obtain rfl : r = false := by rw [← HR.out]; unfold takeOk; rw [hok]; simp; omega
      clear hok hn0
      obtain rfl : zs = us := HU.out
      obtain rfl : n = m := HZ.out.symm.trans HM.out
      obtain ⟨rfl, ⟨rfl, rfl⟩, rfl, rfl⟩ : 0 = q0 ∧ (0 = q1 ∧ 0 = q2) ∧ 0 = q3 ∧ 0 = q4 := by have h := HQ.out; simpa [takeR] using h
      have x0_0 : w2.cell? ⟨w.heap.size, 0, none⟩ = some (.int .i64 p) := by rw [K0_3.out.cell]; rfl
      have x0_1 : w2.cell? ⟨w.heap.size, 1, none⟩ = some (.slice A8 n c8) := by rw [K0_3.out.cell]; rfl
      have x0_2 : w2.cell? ⟨w.heap.size, 2, none⟩ = some (.int .i64 a) := by rw [K0_3.out.cell]; rfl
      have x0_3 : w2.cell? ⟨w.heap.size, 3, none⟩ = some (.int .i64 b) := by rw [K0_3.out.cell]; rfl
      have x0_4 : w2.cell? ⟨w.heap.size, 4, none⟩ = some (.int .i64 s) := by rw [K0_3.out.cell]; rfl
      have x0_5 : w2.cell? ⟨w.heap.size, 5, none⟩ = some (.int .i64 g) := by rw [K0_3.out.cell]; rfl
      have x1_0 : w2.cell? ⟨w.heap.size + 1, 0, none⟩ = some (.int .i64 0) := by rw [K1_3.out.cell]; rfl
      have y1_0 := K1_3.out.frozen 0
      have x1_1 : w2.cell? ⟨w.heap.size + 1, 1, none⟩ = some (.slice none 0 0) := by rw [K1_3.out.cell]; rfl
      have y1_1 := K1_3.out.frozen 1
      have x1_2 : w2.cell? ⟨w.heap.size + 1, 2, none⟩ = some (.int .i64 0) := by rw [K1_3.out.cell]; rfl
      have y1_2 := K1_3.out.frozen 2
      have x1_3 : w2.cell? ⟨w.heap.size + 1, 3, none⟩ = some (.int .i64 0) := by rw [K1_3.out.cell]; rfl
      have y1_3 := K1_3.out.frozen 3
      have x1_4 : w2.cell? ⟨w.heap.size + 1, 4, none⟩ = some (.int .i64 0) := by rw [K1_3.out.cell]; rfl
      have y1_4 := K1_3.out.frozen 4
      have x1_5 : w2.cell? ⟨w.heap.size + 1, 5, none⟩ = some (.int .i64 0) := by rw [K1_3.out.cell]; rfl
      have y1_5 := K1_3.out.frozen 5
      have x2_0 : w2.cell? ⟨w.heap.size + 2, 0, none⟩ = some (.int .i64 0) := by rw [K2_3.out.cell]; rfl
      have y2_0 := K2_3.out.frozen 0
      have x2_1 : w2.cell? ⟨w.heap.size + 2, 1, none⟩ = some (.int .i64 0) := by rw [K2_3.out.cell]; rfl
      have y2_1 := K2_3.out.frozen 1
      have x2_2 : w2.cell? ⟨w.heap.size + 2, 2, none⟩ = some (.int .i64 0) := by rw [K2_3.out.cell]; rfl
      have y2_2 := K2_3.out.frozen 2
      have x2_3 : w2.cell? ⟨w.heap.size + 2, 3, none⟩ = some (.int .i64 0) := by rw [K2_3.out.cell]; rfl
      have y2_3 := K2_3.out.frozen 3
      have x2_4 : w2.cell? ⟨w.heap.size + 2, 4, none⟩ = some (.int .i64 0) := by rw [K2_3.out.cell]; rfl
      have y2_4 := K2_3.out.frozen 4
      go_wp2_with fail
      clear x0_0 x0_1 x0_2 x0_3 x0_4 x0_5 x1_0 y1_0 x1_1 y1_1 x1_2 y1_2 x1_3 y1_3 x1_4 y1_4 x1_5 y1_5 x2_0 y2_0 x2_1 y2_1 x2_2 y2_2 x2_3 y2_3 x2_4 y2_4
      generalize hV : (((((((((((w2.setCell _ _).setCell _ _).setCell _ _).setCell _ _).setCell _ _).setCell _ _).setCell _ _).setCell _ _).setCell _ _).setCell _ _).setCell _ _) = Wf
      have B4 := Lib.hid (show Below w.heap.size w Wf by rw [← hV]; exact (((((((((((B3.out.setCell (by first | (simp; done) | (simp; omega) | omega) _).setCell (by first | (simp; done) | (simp; omega) | omega) _).setCell (by first | (simp; done) | (simp; omega) | omega) _).setCell (by first | (simp; done) | (simp; omega) | omega) _).setCell (by first | (simp; done) | (simp; omega) | omega) _).setCell (by first | (simp; done) | (simp; omega) | omega) _).setCell (by first | (simp; done) | (simp; omega) | omega) _).setCell (by first | (simp; done) | (simp; omega) | omega) _).setCell (by first | (simp; done) | (simp; omega) | omega) _).setCell (by first | (simp; done) | (simp; omega) | omega) _).setCell (by first | (simp; done) | (simp; omega) | omega) _))
      have O_4 := Lib.hid (show Wf.ownsRow W.heap.size 30 5 (.slice A8 n c8) (n) (rcCells (zs)) by rw [← hV]; exact (own_set (own_set (own_set (own_set (own_set (own_set (own_set (own_set (own_set (own_set (own_set O_3.out _ (by have hs := HS.out; first | (simp; done) | (simp; omega) | omega)) _ (by have hs := HS.out; first | (simp; done) | (simp; omega) | omega)) _ (by have hs := HS.out; first | (simp; done) | (simp; omega) | omega)) _ (by have hs := HS.out; first | (simp; done) | (simp; omega) | omega)) _ (by have hs := HS.out; first | (simp; done) | (simp; omega) | omega)) _ (by have hs := HS.out; first | (simp; done) | (simp; omega) | omega)) _ (by have hs := HS.out; first | (simp; done) | (simp; omega) | omega)) _ (by have hs := HS.out; first | (simp; done) | (simp; omega) | omega)) _ (by have hs := HS.out; first | (simp; done) | (simp; omega) | omega)) _ (by have hs := HS.out; first | (simp; done) | (simp; omega) | omega)) _ (by have hs := HS.out; first | (simp; done) | (simp; omega) | omega)))
      have K0_4 := Lib.hid (show Blk Wf (w.heap.size) 26 #[.int .i64 p, .slice A8 n c8, .int .i64 a, .int .i64 b, .int .i64 s, .int .i64 g] by rw [← hV]; exact (((((((((((K0_3.out.other (by first | (simp; done) | (simp; omega) | omega) _).other (by first | (simp; done) | (simp; omega) | omega) _).other (by first | (simp; done) | (simp; omega) | omega) _).other (by first | (simp; done) | (simp; omega) | omega) _).other (by first | (simp; done) | (simp; omega) | omega) _).other (by first | (simp; done) | (simp; omega) | omega) _).other (by first | (simp; done) | (simp; omega) | omega) _).other (by first | (simp; done) | (simp; omega) | omega) _).other (by first | (simp; done) | (simp; omega) | omega) _).other (by first | (simp; done) | (simp; omega) | omega) _).other (by first | (simp; done) | (simp; omega) | omega) _))
      have K1_4 := Lib.hid (show Blk Wf (w.heap.size + 1) 26 #[.int .i64 p, .slice A8 n c8, .int .i64 a, .int .i64 b, .int .i64 s, .int .i64 g] by rw [← hV]; exact (((((((((((K1_3.out.put 0 _).put 1 _).put 2 _).put 3 _).put 4 _).put 5 _).other (by first | (simp; done) | (simp; omega) | omega) _).other (by first | (simp; done) | (simp; omega) | omega) _).other (by first | (simp; done) | (simp; omega) | omega) _).other (by first | (simp; done) | (simp; omega) | omega) _).other (by first | (simp; done) | (simp; omega) | omega) _))
      have K2_4 := Lib.hid (show Blk Wf (w.heap.size + 2) 30 #[.int .i64 0, .int .i64 0, .int .i64 0, .int .i64 0, .int .i64 0] by rw [← hV]; exact (((((((((((K2_3.out.other (by first | (simp; done) | (simp; omega) | omega) _).other (by first | (simp; done) | (simp; omega) | omega) _).other (by first | (simp; done) | (simp; omega) | omega) _).other (by first | (simp; done) | (simp; omega) | omega) _).other (by first | (simp; done) | (simp; omega) | omega) _).other (by first | (simp; done) | (simp; omega) | omega) _).put 0 _).put 1 _).put 2 _).put 3 _).put 4 _))
      clear hV B3 K0_3 K1_3 K2_3 O_3
      have r1_0 : Wf.cell? ⟨w.heap.size + 1, 0, none⟩ = some (.int .i64 p) := by rw [K1_4.out.cell]; rfl
      have r1_1 : Wf.cell? ⟨w.heap.size + 1, 1, none⟩ = some (.slice A8 n c8) := by rw [K1_4.out.cell]; rfl
      have r1_2 : Wf.cell? ⟨w.heap.size + 1, 2, none⟩ = some (.int .i64 a) := by rw [K1_4.out.cell]; rfl
      have r1_3 : Wf.cell? ⟨w.heap.size + 1, 3, none⟩ = some (.int .i64 b) := by rw [K1_4.out.cell]; rfl
      have r1_4 : Wf.cell? ⟨w.heap.size + 1, 4, none⟩ = some (.int .i64 s) := by rw [K1_4.out.cell]; rfl
      have r1_5 : Wf.cell? ⟨w.heap.size + 1, 5, none⟩ = some (.int .i64 g) := by rw [K1_4.out.cell]; rfl
      have r2_0 : Wf.cell? ⟨w.heap.size + 2, 0, none⟩ = some (.int .i64 0) := by rw [K2_4.out.cell]; rfl
      have r2_1 : Wf.cell? ⟨w.heap.size + 2, 1, none⟩ = some (.int .i64 0) := by rw [K2_4.out.cell]; rfl
      have r2_2 : Wf.cell? ⟨w.heap.size + 2, 2, none⟩ = some (.int .i64 0) := by rw [K2_4.out.cell]; rfl
      have r2_3 : Wf.cell? ⟨w.heap.size + 2, 3, none⟩ = some (.int .i64 0) := by rw [K2_4.out.cell]; rfl
      have r2_4 : Wf.cell? ⟨w.heap.size + 2, 4, none⟩ = some (.int .i64 0) := by rw [K2_4.out.cell]; rfl
      exact bodyPost_ret (v := .tuple #[.agg #[.int .i64 p, .slice A8 n c8, .int .i64 a, .int .i64 b, .int .i64 s, .int .i64 g], .agg #[.int .i64 0, .int .i64 0, .int .i64 0, .int .i64 0, .int .i64 0], .bool false]) (by simp [results, Try.results18, go_sem, r1_0, r1_1, r1_2, r1_3, r1_4, r1_5, r2_0, r2_1, r2_2, r2_3, r2_4]) rfl ⟨A8, c8, rfl, own_base O_4.out (by have hs := HS.out; omega), B4.out⟩
    · skip
      have K := okLk_iff.1 hok
      have qn : ((n : Int) == 0) = false := by simp; omega
      obtain rfl : r = true := by rw [← HR.out]; unfold takeOk; rw [hok]; simp; omega
      have ks9 := K.s9
      have ks0 := K.s0
      have kg0 := K.g0
      have kgs := K.gs
      have ka := K.a0
      have kb := K.b0
      have kp := K.p4
      have ksum := K.sum
      have kbp := K.bp
      have m1 : IntKind.i64.wrap (b + 1) = b + 1 := IntWalk.i64_in _ (by omega)
      have m2 : IntKind.i64.wrap (g + 1) = g + 1 := IntWalk.i64_in _ (by omega)
      have hnp : 0 < n := by omega
      clear hok K hn0 ks9 ks0 kg0 kgs ka kb kp ksum kbp
      have l0 : 0 < zs.length := by rw [HZ.out]; exact hnp
      obtain rfl : zs.drop 1 = us := HU.out
      obtain rfl : n - 1 = m := by rw [← HM.out, List.length_drop, HZ.out]
      obtain ⟨gg, rfl⟩ : ∃ gg, A8 = some ⟨gg, 0, none⟩ := by
        obtain ⟨A9, c9, he, hp⟩ := own_form O_3.out
        simp only [Value.slice.injEq, true_and] at he
        obtain ⟨rfl, rfl⟩ := he
        exact hp hnp
      obtain ⟨b1, o1, y0, y1, y2, y3, y4, hA8, x1, e0, e1, e2, e3, e4⟩ := (own_rcs O_3.out).at l0
      simp only [Option.some.injEq, Addr.mk.injEq, and_true] at hA8
      obtain ⟨rfl, rfl⟩ := hA8
      obtain ⟨rfl, ⟨rfl, rfl⟩, rfl, rfl⟩ : y0 = q0 ∧ (y1 = q1 ∧ y2 = q2) ∧ y3 = q3 ∧ y4 = q4 := by
        have h := HQ.out
        rw [show takeR true zs = zs[0] by cases zs with | nil => simp at l0 | cons z zs => rfl, x1] at h
        simpa using h
      simp only [Nat.zero_add, Nat.zero_mul] at e0 e1 e2 e3 e4
      have x0_0 : w2.cell? ⟨w.heap.size, 0, none⟩ = some (.int .i64 p) := by rw [K0_3.out.cell]; rfl
      have x0_1 : w2.cell? ⟨w.heap.size, 1, none⟩ = some (.slice (some ⟨gg, 0, none⟩) n c8) := by rw [K0_3.out.cell]; rfl
      have x0_2 : w2.cell? ⟨w.heap.size, 2, none⟩ = some (.int .i64 a) := by rw [K0_3.out.cell]; rfl
      have x0_3 : w2.cell? ⟨w.heap.size, 3, none⟩ = some (.int .i64 b) := by rw [K0_3.out.cell]; rfl
      have x0_4 : w2.cell? ⟨w.heap.size, 4, none⟩ = some (.int .i64 s) := by rw [K0_3.out.cell]; rfl
      have x0_5 : w2.cell? ⟨w.heap.size, 5, none⟩ = some (.int .i64 g) := by rw [K0_3.out.cell]; rfl
      have hc := own_cap O_3.out
      obtain ⟨V3, hV3⟩ : ∃ V3, w2.alloc (.cells #[.int .i64 y0, .int .i64 y1, .int .i64 y2, .int .i64 y3, .int .i64 y4] 30) = V3 := ⟨_, rfl⟩
      have b3 : Below w2.heap.size w2 V3 := by rw [← hV3]; exact (Below.refl _ _).alloc (Nat.le_refl _) _
      have S3 := Lib.hid (show V3.heap.size = w2.heap.size + 1 by rw [← hV3]; simp)
      have R3 := Lib.hid (show Blk V3 w2.heap.size 30 #[.int .i64 y0, .int .i64 y1, .int .i64 y2, .int .i64 y3, .int .i64 y4] by rw [← hV3]; exact Blk.new _ _ _)
      have z1 := alloc_keep (o := (.cells #[] 30)) (below_keep b3 x0_1)
      have B3 := Lib.hid b3
      clear b3
      have SR := Lib.hid (show Rcs (V3.alloc (.cells #[] 30)) (if c8 = 1 then some ⟨gg, 0, none⟩ else some ⟨gg, 5, none⟩) (zs.drop 1) from by
        have h5 := rcs_alloc ((rcs_drop (own_rcs O_3.out) 1 (by omega)).below B3.out) (.cells #[] 30)
        split
        · intro hl; rw [List.length_drop, HZ.out] at hl; omega
        · exact h5)
      have HD := Lib.hid (show (zs.drop 1).length = n - 1 by rw [List.length_drop, HZ.out])
      have HL := Lib.hid (show (V3.alloc (.cells #[] 30)).heap.size = V3.heap.size + 1 by simp)
      have i0 : (0 : Int) < (n : Int) := by omega
      go_wp2_with (at_builtin; refine wpList_append_rc rfl (.tmp 23) (.tmp 26) (by rfl) V3.heap.size (.slice (some ⟨V3.heap.size, 0, none⟩) 0 0) 0 [] (by rfl) (World.ownsRow_lit V3 #[] 0 (Nat.le_refl _) (by decide) rfl) (if c8 = 1 then some ⟨gg, 0, none⟩ else some ⟨gg, 5, none⟩) (n - 1) (c8 - 1) (zs.drop 1) (by rfl) (fun h => by split at h <;> cases h) HD.out SR.out (by omega) (by rw [HL.out]; omega) ?_; intro v9 w9 own9 gr9; generalize hG : wpList _ _ _ _ _ _ = G)
      subst hG
      generalize (if c8 = 1 then (some ⟨gg, 0, none⟩ : Option Addr) else some ⟨gg, 5, none⟩) = D
      clear x0_0 x0_1 x0_2 x0_3 x0_4 x0_5
      clear z1 e0 e1 e2 e3 e4 hV3
      have hb3 := ((Below.refl V3.heap.size V3).alloc (Nat.le_refl _) (.cells #[] 30)).grown gr9 (by rw [HL.out]; omega) (fun k hk => Nat.le_of_eq (Option.some.inj hk))
      rw [Nat.zero_add, List.nil_append] at own9
      obtain ⟨A9, c9, rfl, _⟩ := own_slice own9
      have R9 := Lib.hid (R3.out.below hb3)
      have hb := below_chain B3.out hb3
      have WS := Lib.hid (show W.heap.size ≤ V3.heap.size by have h1 := S3.out; have h2 := HS.out; have h3 := K2_3.out.lt; omega)
      have SW := Lib.hid (show W.heap.size ≤ w2.heap.size by have h2 := HS.out; have h3 := K2_3.out.lt; omega)
      clear hb3 gr9 B3 R3 SR HL
      have B4 := Lib.hid (below_chain B3.out hb)
      have K0_4 := Lib.hid (K0_3.out.below hb)
      have K1_4 := Lib.hid (K1_3.out.below hb)
      have K2_4 := Lib.hid (K2_3.out.below hb)
      clear hb B3 K0_3 K1_3 K2_3
      have O_4 := Lib.hid (own_base own9 WS.out)
      clear own9 O_3
      have x0_0 : w9.cell? ⟨w.heap.size, 0, none⟩ = some (.int .i64 p) := by rw [K0_4.out.cell]; rfl
      have x0_1 : w9.cell? ⟨w.heap.size, 1, none⟩ = some (.slice (some ⟨gg, 0, none⟩) n c8) := by rw [K0_4.out.cell]; rfl
      have x0_2 : w9.cell? ⟨w.heap.size, 2, none⟩ = some (.int .i64 a) := by rw [K0_4.out.cell]; rfl
      have x0_3 : w9.cell? ⟨w.heap.size, 3, none⟩ = some (.int .i64 b) := by rw [K0_4.out.cell]; rfl
      have x0_4 : w9.cell? ⟨w.heap.size, 4, none⟩ = some (.int .i64 s) := by rw [K0_4.out.cell]; rfl
      have x0_5 : w9.cell? ⟨w.heap.size, 5, none⟩ = some (.int .i64 g) := by rw [K0_4.out.cell]; rfl
      have y0_1 := K0_4.out.frozen 1
      have y0_3 := K0_4.out.frozen 3
      have y0_5 := K0_4.out.frozen 5
      have x1_0 : w9.cell? ⟨w.heap.size + 1, 0, none⟩ = some (.int .i64 0) := by rw [K1_4.out.cell]; rfl
      have y1_0 := K1_4.out.frozen 0
      have x1_1 : w9.cell? ⟨w.heap.size + 1, 1, none⟩ = some (.slice none 0 0) := by rw [K1_4.out.cell]; rfl
      have y1_1 := K1_4.out.frozen 1
      have x1_2 : w9.cell? ⟨w.heap.size + 1, 2, none⟩ = some (.int .i64 0) := by rw [K1_4.out.cell]; rfl
      have y1_2 := K1_4.out.frozen 2
      have x1_3 : w9.cell? ⟨w.heap.size + 1, 3, none⟩ = some (.int .i64 0) := by rw [K1_4.out.cell]; rfl
      have y1_3 := K1_4.out.frozen 3
      have x1_4 : w9.cell? ⟨w.heap.size + 1, 4, none⟩ = some (.int .i64 0) := by rw [K1_4.out.cell]; rfl
      have y1_4 := K1_4.out.frozen 4
      have x1_5 : w9.cell? ⟨w.heap.size + 1, 5, none⟩ = some (.int .i64 0) := by rw [K1_4.out.cell]; rfl
      have y1_5 := K1_4.out.frozen 5
      have x2_0 : w9.cell? ⟨w.heap.size + 2, 0, none⟩ = some (.int .i64 0) := by rw [K2_4.out.cell]; rfl
      have y2_0 := K2_4.out.frozen 0
      have x2_1 : w9.cell? ⟨w.heap.size + 2, 1, none⟩ = some (.int .i64 0) := by rw [K2_4.out.cell]; rfl
      have y2_1 := K2_4.out.frozen 1
      have x2_2 : w9.cell? ⟨w.heap.size + 2, 2, none⟩ = some (.int .i64 0) := by rw [K2_4.out.cell]; rfl
      have y2_2 := K2_4.out.frozen 2
      have x2_3 : w9.cell? ⟨w.heap.size + 2, 3, none⟩ = some (.int .i64 0) := by rw [K2_4.out.cell]; rfl
      have y2_3 := K2_4.out.frozen 3
      have x2_4 : w9.cell? ⟨w.heap.size + 2, 4, none⟩ = some (.int .i64 0) := by rw [K2_4.out.cell]; rfl
      have y2_4 := K2_4.out.frozen 4
      have u0 : w9.cell? ⟨w2.heap.size, 0, none⟩ = some (.int .i64 y0) := by rw [R9.out.cell]; rfl
      have u1 : w9.cell? ⟨w2.heap.size, 1, none⟩ = some (.int .i64 y1) := by rw [R9.out.cell]; rfl
      have u2 : w9.cell? ⟨w2.heap.size, 2, none⟩ = some (.int .i64 y2) := by rw [R9.out.cell]; rfl
      have u3 : w9.cell? ⟨w2.heap.size, 3, none⟩ = some (.int .i64 y3) := by rw [R9.out.cell]; rfl
      have u4 : w9.cell? ⟨w2.heap.size, 4, none⟩ = some (.int .i64 y4) := by rw [R9.out.cell]; rfl
      have sz := K2_4.out.lt
      have hws := SW.out
      have hws2 := HS.out
      go_wp2
      go_region
      go_wp2
      clear x0_0 x0_1 x0_2 x0_3 x0_4 x0_5 y0_1 y0_3 y0_5 x1_0 y1_0 x1_1 y1_1 x1_2 y1_2 x1_3 y1_3 x1_4 y1_4 x1_5 y1_5 x2_0 y2_0 x2_1 y2_1 x2_2 y2_2 x2_3 y2_3 x2_4 y2_4 u0 u1 u2 u3 u4 sz hws hws2
      generalize hV : ((((((((((((((w9.setCell _ _).setCell _ _).setCell _ _).setCell _ _).setCell _ _).setCell _ _).setCell _ _).setCell _ _).setCell _ _).setCell _ _).setCell _ _).setCell _ _).setCell _ _).setCell _ _).drew = Wf
      have B5 := Lib.hid (show Below w.heap.size w Wf by rw [← hV]; exact ((((((((((((((B4.out.setCell (by first | (simp; done) | (simp; omega) | omega) _).setCell (by first | (simp; done) | (simp; omega) | omega) _).setCell (by first | (simp; done) | (simp; omega) | omega) _).setCell (by first | (simp; done) | (simp; omega) | omega) _).setCell (by first | (simp; done) | (simp; omega) | omega) _).setCell (by first | (simp; done) | (simp; omega) | omega) _).setCell (by first | (simp; done) | (simp; omega) | omega) _).setCell (by first | (simp; done) | (simp; omega) | omega) _).setCell (by first | (simp; done) | (simp; omega) | omega) _).setCell (by first | (simp; done) | (simp; omega) | omega) _).setCell (by first | (simp; done) | (simp; omega) | omega) _).setCell (by first | (simp; done) | (simp; omega) | omega) _).setCell (by first | (simp; done) | (simp; omega) | omega) _).setCell (by first | (simp; done) | (simp; omega) | omega) _).drew)
      have O_5 := Lib.hid (show Wf.ownsRow W.heap.size 30 5 (.slice A9 (n - 1) c9) (n - 1) (rcCells (zs.drop 1)) by rw [← hV]; exact (own_set (own_set (own_set (own_set (own_set (own_set (own_set (own_set (own_set (own_set (own_set (own_set (own_set (own_set O_4.out _ (by have hs := HS.out; first | (simp; done) | (simp; omega) | omega)) _ (by have hs := HS.out; first | (simp; done) | (simp; omega) | omega)) _ (by have hs := HS.out; first | (simp; done) | (simp; omega) | omega)) _ (by have hs := HS.out; first | (simp; done) | (simp; omega) | omega)) _ (by have hs := HS.out; first | (simp; done) | (simp; omega) | omega)) _ (by have hs := HS.out; first | (simp; done) | (simp; omega) | omega)) _ (by have hs := HS.out; first | (simp; done) | (simp; omega) | omega)) _ (by have hs := HS.out; first | (simp; done) | (simp; omega) | omega)) _ (by have hs := HS.out; first | (simp; done) | (simp; omega) | omega)) _ (by have hs := HS.out; first | (simp; done) | (simp; omega) | omega)) _ (by have hs := HS.out; first | (simp; done) | (simp; omega) | omega)) _ (by have hs := HS.out; first | (simp; done) | (simp; omega) | omega)) _ (by have hs := HS.out; first | (simp; done) | (simp; omega) | omega)) _ (by have hs := HS.out; first | (simp; done) | (simp; omega) | omega)).drew)
      have K0_5 := Lib.hid (show Blk Wf (w.heap.size) 26 #[.int .i64 p, .slice A9 (n - 1) c9, .int .i64 a, .int .i64 (b + 1), .int .i64 s, .int .i64 (g + 1)] by rw [← hV]; exact ((((((((((((((K0_4.out.put 1 _).put 5 _).put 3 _).other (by first | (simp; done) | (simp; omega) | omega) _).other (by first | (simp; done) | (simp; omega) | omega) _).other (by first | (simp; done) | (simp; omega) | omega) _).other (by first | (simp; done) | (simp; omega) | omega) _).other (by first | (simp; done) | (simp; omega) | omega) _).other (by first | (simp; done) | (simp; omega) | omega) _).other (by first | (simp; done) | (simp; omega) | omega) _).other (by first | (simp; done) | (simp; omega) | omega) _).other (by first | (simp; done) | (simp; omega) | omega) _).other (by first | (simp; done) | (simp; omega) | omega) _).other (by first | (simp; done) | (simp; omega) | omega) _).drewN 1)
      have K1_5 := Lib.hid (show Blk Wf (w.heap.size + 1) 26 #[.int .i64 p, .slice A9 (n - 1) c9, .int .i64 a, .int .i64 (b + 1), .int .i64 s, .int .i64 (g + 1)] by rw [← hV]; exact ((((((((((((((K1_4.out.other (by first | (simp; done) | (simp; omega) | omega) _).other (by first | (simp; done) | (simp; omega) | omega) _).other (by first | (simp; done) | (simp; omega) | omega) _).put 0 _).put 1 _).put 2 _).put 3 _).put 4 _).put 5 _).other (by first | (simp; done) | (simp; omega) | omega) _).other (by first | (simp; done) | (simp; omega) | omega) _).other (by first | (simp; done) | (simp; omega) | omega) _).other (by first | (simp; done) | (simp; omega) | omega) _).other (by first | (simp; done) | (simp; omega) | omega) _).drewN 1)
      have K2_5 := Lib.hid (show Blk Wf (w.heap.size + 2) 30 #[.int .i64 y0, .int .i64 y1, .int .i64 y2, .int .i64 y3, .int .i64 y4] by rw [← hV]; exact ((((((((((((((K2_4.out.other (by first | (simp; done) | (simp; omega) | omega) _).other (by first | (simp; done) | (simp; omega) | omega) _).other (by first | (simp; done) | (simp; omega) | omega) _).other (by first | (simp; done) | (simp; omega) | omega) _).other (by first | (simp; done) | (simp; omega) | omega) _).other (by first | (simp; done) | (simp; omega) | omega) _).other (by first | (simp; done) | (simp; omega) | omega) _).other (by first | (simp; done) | (simp; omega) | omega) _).other (by first | (simp; done) | (simp; omega) | omega) _).put 0 _).put 1 _).put 2 _).put 3 _).put 4 _).drewN 1)
      clear hV B4 K0_4 K1_4 K2_4 O_4
      have r1_0 : Wf.cell? ⟨w.heap.size + 1, 0, none⟩ = some (.int .i64 p) := by rw [K1_5.out.cell]; rfl
      have r1_1 : Wf.cell? ⟨w.heap.size + 1, 1, none⟩ = some (.slice A9 (n - 1) c9) := by rw [K1_5.out.cell]; rfl
      have r1_2 : Wf.cell? ⟨w.heap.size + 1, 2, none⟩ = some (.int .i64 a) := by rw [K1_5.out.cell]; rfl
      have r1_3 : Wf.cell? ⟨w.heap.size + 1, 3, none⟩ = some (.int .i64 (b + 1)) := by rw [K1_5.out.cell]; rfl
      have r1_4 : Wf.cell? ⟨w.heap.size + 1, 4, none⟩ = some (.int .i64 s) := by rw [K1_5.out.cell]; rfl
      have r1_5 : Wf.cell? ⟨w.heap.size + 1, 5, none⟩ = some (.int .i64 (g + 1)) := by rw [K1_5.out.cell]; rfl
      have r2_0 : Wf.cell? ⟨w.heap.size + 2, 0, none⟩ = some (.int .i64 y0) := by rw [K2_5.out.cell]; rfl
      have r2_1 : Wf.cell? ⟨w.heap.size + 2, 1, none⟩ = some (.int .i64 y1) := by rw [K2_5.out.cell]; rfl
      have r2_2 : Wf.cell? ⟨w.heap.size + 2, 2, none⟩ = some (.int .i64 y2) := by rw [K2_5.out.cell]; rfl
      have r2_3 : Wf.cell? ⟨w.heap.size + 2, 3, none⟩ = some (.int .i64 y3) := by rw [K2_5.out.cell]; rfl
      have r2_4 : Wf.cell? ⟨w.heap.size + 2, 4, none⟩ = some (.int .i64 y4) := by rw [K2_5.out.cell]; rfl
      exact bodyPost_ret (v := .tuple #[.agg #[.int .i64 p, .slice A9 (n - 1) c9, .int .i64 a, .int .i64 (b + 1), .int .i64 s, .int .i64 (g + 1)], .agg #[.int .i64 y0, .int .i64 y1, .int .i64 y2, .int .i64 y3, .int .i64 y4], .bool true]) (by simp [results, Try.results18, go_sem, r1_0, r1_1, r1_2, r1_3, r1_4, r1_5, r2_0, r2_1, r2_2, r2_3, r2_4]) rfl ⟨A9, c9, rfl, own_base O_5.out (by have hs := HS.out; omega), B5.out⟩
end Go.Proofs.Ythkkleicekhelaa.hexes
