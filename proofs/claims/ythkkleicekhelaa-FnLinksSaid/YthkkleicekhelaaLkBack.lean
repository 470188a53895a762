/-
  CreditBack on both sides.
-/
import Derived.Test.YthkkleicekhelaaLkCopy
import Derived.Test.YthkkleicekhelaaImplLk1
import Derived.Test.YthkkleicekhelaaSpecLk1
namespace Go.Proofs.Ythkkleicekhelaa.hexes
open Go.RowKit

set_option maxRecDepth 100000 in
theorem specBack_any (n : Nat) (zs : List Rc) (hz : zs.length = n) (A : Option Addr) (c : Nat) (hA : A = none → c = 0) (p a b s g : Int) (w : World) (h1 : Rcs w A zs) (hn : n ≤ 1048576) {r : Bool} (hr : backOk p a b s g n zs = r) :
    Calls Try.prog 21 #[.agg #[.int .i64 p, .slice A n c, .int .i64 a, .int .i64 b, .int .i64 s, .int .i64 g]] w fun e w' => ∃ A1 c1, e = .returned (.tuple #[.agg #[.int .i64 p, .slice A1 n c1, .int .i64 (turnI r a 1), .int .i64 (turnI r b (-1)), .int .i64 s, .int .i64 g], .bool r]) ∧ w'.ownsRow w.heap.size 30 5 (.slice A1 n c1) n (rcCells zs) ∧ Below w.heap.size w w' := by
  have H1 := Lib.hid h1
  have HZ := Lib.hid hz
  have HA := Lib.hid hA
  have HR := Lib.hid hr
  clear h1 hz hA hr
  go_enter Try.func21, Try.ntmps21
  go_wp2_with fail
  generalize hW : ((w.alloc _).alloc _) = W
  have B0 := Lib.hid (show Below w.heap.size w W by rw [← hW]; exact (((Below.refl _ _).alloc (by first | (simp; done) | (simp; omega) | omega) _).alloc (by first | (simp; done) | (simp; omega) | omega) _))
  have HS := Lib.hid (show W.heap.size = w.heap.size + 2 by rw [← hW]; simp)
  have K0_0 := Lib.hid (show Blk W (w.heap.size) 26 #[.int .i64 p, .slice A n c, .int .i64 a, .int .i64 b, .int .i64 s, .int .i64 g] by rw [← hW]; exact ((Below.heap_alloc _ _ _ (by first | (simp; done) | (simp; omega))).trans (Blk.new _ _ _)))
  have K1_0 := Lib.hid (show Blk W (w.heap.size + 1) 26 #[.int .i64 0, .slice none 0 0, .int .i64 0, .int .i64 0, .int .i64 0, .int .i64 0] by rw [← hW]; exact ((show w.heap.size + 1 = ((w.alloc _)).heap.size by simp) ▸ Blk.new _ _ _))
  clear hW
  refine (specCopy_any n zs HZ.out A c HA.out p a b s g W (H1.out.below B0.out) hn).mono ?_
  rintro e w1 ⟨A8, c8, rfl, own8, hb⟩
  have B1 := Lib.hid (below_chain B0.out hb)
  have K0_1 := Lib.hid (K0_0.out.below hb)
  have K1_1 := Lib.hid (K1_0.out.below hb)
  clear hb B0 K0_0 K1_0
  have O_1 := Lib.hid own8
  clear own8
  have x0_0 : w1.cell? ⟨w.heap.size, 0, none⟩ = some (.int .i64 p) := by rw [K0_1.out.cell]; rfl
  have y0_0 := K0_1.out.frozen 0
  have x0_1 : w1.cell? ⟨w.heap.size, 1, none⟩ = some (.slice A n c) := by rw [K0_1.out.cell]; rfl
  have y0_1 := K0_1.out.frozen 1
  have x0_2 : w1.cell? ⟨w.heap.size, 2, none⟩ = some (.int .i64 a) := by rw [K0_1.out.cell]; rfl
  have y0_2 := K0_1.out.frozen 2
  have x0_3 : w1.cell? ⟨w.heap.size, 3, none⟩ = some (.int .i64 b) := by rw [K0_1.out.cell]; rfl
  have y0_3 := K0_1.out.frozen 3
  have x0_4 : w1.cell? ⟨w.heap.size, 4, none⟩ = some (.int .i64 s) := by rw [K0_1.out.cell]; rfl
  have y0_4 := K0_1.out.frozen 4
  have x0_5 : w1.cell? ⟨w.heap.size, 5, none⟩ = some (.int .i64 g) := by rw [K0_1.out.cell]; rfl
  have y0_5 := K0_1.out.frozen 5
  go_wp2_with fail
  clear x0_0 y0_0 x0_1 y0_1 x0_2 y0_2 x0_3 y0_3 x0_4 y0_4 x0_5 y0_5
  generalize hV : ((((((w1.setCell _ _).setCell _ _).setCell _ _).setCell _ _).setCell _ _).setCell _ _) = V1
  have B2 := Lib.hid (show Below w.heap.size w V1 by rw [← hV]; exact ((((((B1.out.setCell (by first | (simp; done) | (simp; omega) | omega) _).setCell (by first | (simp; done) | (simp; omega) | omega) _).setCell (by first | (simp; done) | (simp; omega) | omega) _).setCell (by first | (simp; done) | (simp; omega) | omega) _).setCell (by first | (simp; done) | (simp; omega) | omega) _).setCell (by first | (simp; done) | (simp; omega) | omega) _))
  have O_2 := Lib.hid (show V1.ownsRow W.heap.size 30 5 (.slice A8 n c8) (n) (rcCells (zs)) by rw [← hV]; exact (own_set (own_set (own_set (own_set (own_set (own_set O_1.out _ (by have hs := HS.out; first | (simp; done) | (simp; omega) | omega)) _ (by have hs := HS.out; first | (simp; done) | (simp; omega) | omega)) _ (by have hs := HS.out; first | (simp; done) | (simp; omega) | omega)) _ (by have hs := HS.out; first | (simp; done) | (simp; omega) | omega)) _ (by have hs := HS.out; first | (simp; done) | (simp; omega) | omega)) _ (by have hs := HS.out; first | (simp; done) | (simp; omega) | omega)))
  have K0_2 := Lib.hid (show Blk V1 (w.heap.size) 26 #[.int .i64 p, .slice A8 n c8, .int .i64 a, .int .i64 b, .int .i64 s, .int .i64 g] by rw [← hV]; exact ((((((K0_1.out.put 0 _).put 1 _).put 2 _).put 3 _).put 4 _).put 5 _))
  have K1_2 := Lib.hid (show Blk V1 (w.heap.size + 1) 26 #[.int .i64 0, .slice none 0 0, .int .i64 0, .int .i64 0, .int .i64 0, .int .i64 0] by rw [← hV]; exact ((((((K1_1.out.other (by first | (simp; done) | (simp; omega) | omega) _).other (by first | (simp; done) | (simp; omega) | omega) _).other (by first | (simp; done) | (simp; omega) | omega) _).other (by first | (simp; done) | (simp; omega) | omega) _).other (by first | (simp; done) | (simp; omega) | omega) _).other (by first | (simp; done) | (simp; omega) | omega) _))
  clear hV B1 K0_1 K1_1 O_1
  refine (specLkOk_any n zs HZ.out A8 c8 p a b s g V1 (own_rcs O_2.out) (by omega)).mono ?_
  rintro e w2 ⟨rfl, hb⟩
  have B3 := Lib.hid (below_chain B2.out hb)
  have K0_3 := Lib.hid (K0_2.out.below hb)
  have K1_3 := Lib.hid (K1_2.out.below hb)
  have O_3 := Lib.hid (own_below O_2.out hb)
  clear hb B2 K0_2 K1_2 O_2
  cases hok : okLk p a b s g n zs with
  | false =>
    obtain rfl : r = false := by rw [← HR.out]; unfold backOk; rw [hok]; rfl
    clear hok
    have x0_0 : w2.cell? ⟨w.heap.size, 0, none⟩ = some (.int .i64 p) := by rw [K0_3.out.cell]; rfl
    have x0_1 : w2.cell? ⟨w.heap.size, 1, none⟩ = some (.slice A8 n c8) := by rw [K0_3.out.cell]; rfl
    have x0_2 : w2.cell? ⟨w.heap.size, 2, none⟩ = some (.int .i64 a) := by rw [K0_3.out.cell]; rfl
    have x0_3 : w2.cell? ⟨w.heap.size, 3, none⟩ = some (.int .i64 b) := by rw [K0_3.out.cell]; rfl
    have x0_4 : w2.cell? ⟨w.heap.size, 4, none⟩ = some (.int .i64 s) := by rw [K0_3.out.cell]; rfl
    have x0_5 : w2.cell? ⟨w.heap.size, 5, none⟩ = some (.int .i64 g) := by rw [K0_3.out.cell]; rfl
    have x1_0 : w2.cell? ⟨w.heap.size + 1, 0, none⟩ = some (.int .i64 0) := by rw [K1_3.out.cell]; rfl
    have y1_0 := K1_3.out.frozen 0
    have x1_1 : w2.cell? ⟨w.heap.size + 1, 1, none⟩ = some (.slice none 0 0) := by rw [K1_3.out.cell]; rfl
    have y1_1 := K1_3.out.frozen 1
    have x1_2 : w2.cell? ⟨w.heap.size + 1, 2, none⟩ = some (.int .i64 0) := by rw [K1_3.out.cell]; rfl
    have y1_2 := K1_3.out.frozen 2
    have x1_3 : w2.cell? ⟨w.heap.size + 1, 3, none⟩ = some (.int .i64 0) := by rw [K1_3.out.cell]; rfl
    have y1_3 := K1_3.out.frozen 3
    have x1_4 : w2.cell? ⟨w.heap.size + 1, 4, none⟩ = some (.int .i64 0) := by rw [K1_3.out.cell]; rfl
    have y1_4 := K1_3.out.frozen 4
    have x1_5 : w2.cell? ⟨w.heap.size + 1, 5, none⟩ = some (.int .i64 0) := by rw [K1_3.out.cell]; rfl
    have y1_5 := K1_3.out.frozen 5
    go_wp2_with fail
    clear x0_0 x0_1 x0_2 x0_3 x0_4 x0_5 x1_0 y1_0 x1_1 y1_1 x1_2 y1_2 x1_3 y1_3 x1_4 y1_4 x1_5 y1_5
    generalize hV : ((((((w2.setCell _ _).setCell _ _).setCell _ _).setCell _ _).setCell _ _).setCell _ _) = Wf
    have B4 := Lib.hid (show Below w.heap.size w Wf by rw [← hV]; exact ((((((B3.out.setCell (by first | (simp; done) | (simp; omega) | omega) _).setCell (by first | (simp; done) | (simp; omega) | omega) _).setCell (by first | (simp; done) | (simp; omega) | omega) _).setCell (by first | (simp; done) | (simp; omega) | omega) _).setCell (by first | (simp; done) | (simp; omega) | omega) _).setCell (by first | (simp; done) | (simp; omega) | omega) _))
    have O_4 := Lib.hid (show Wf.ownsRow W.heap.size 30 5 (.slice A8 n c8) (n) (rcCells (zs)) by rw [← hV]; exact (own_set (own_set (own_set (own_set (own_set (own_set O_3.out _ (by have hs := HS.out; first | (simp; done) | (simp; omega) | omega)) _ (by have hs := HS.out; first | (simp; done) | (simp; omega) | omega)) _ (by have hs := HS.out; first | (simp; done) | (simp; omega) | omega)) _ (by have hs := HS.out; first | (simp; done) | (simp; omega) | omega)) _ (by have hs := HS.out; first | (simp; done) | (simp; omega) | omega)) _ (by have hs := HS.out; first | (simp; done) | (simp; omega) | omega)))
    have K0_4 := Lib.hid (show Blk Wf (w.heap.size) 26 #[.int .i64 p, .slice A8 n c8, .int .i64 a, .int .i64 b, .int .i64 s, .int .i64 g] by rw [← hV]; exact ((((((K0_3.out.other (by first | (simp; done) | (simp; omega) | omega) _).other (by first | (simp; done) | (simp; omega) | omega) _).other (by first | (simp; done) | (simp; omega) | omega) _).other (by first | (simp; done) | (simp; omega) | omega) _).other (by first | (simp; done) | (simp; omega) | omega) _).other (by first | (simp; done) | (simp; omega) | omega) _))
    have K1_4 := Lib.hid (show Blk Wf (w.heap.size + 1) 26 #[.int .i64 p, .slice A8 n c8, .int .i64 a, .int .i64 b, .int .i64 s, .int .i64 g] by rw [← hV]; exact ((((((K1_3.out.put 0 _).put 1 _).put 2 _).put 3 _).put 4 _).put 5 _))
    clear hV B3 K0_3 K1_3 O_3
    have r1_0 : Wf.cell? ⟨w.heap.size + 1, 0, none⟩ = some (.int .i64 p) := by rw [K1_4.out.cell]; rfl
    have r1_1 : Wf.cell? ⟨w.heap.size + 1, 1, none⟩ = some (.slice A8 n c8) := by rw [K1_4.out.cell]; rfl
    have r1_2 : Wf.cell? ⟨w.heap.size + 1, 2, none⟩ = some (.int .i64 a) := by rw [K1_4.out.cell]; rfl
    have r1_3 : Wf.cell? ⟨w.heap.size + 1, 3, none⟩ = some (.int .i64 b) := by rw [K1_4.out.cell]; rfl
    have r1_4 : Wf.cell? ⟨w.heap.size + 1, 4, none⟩ = some (.int .i64 s) := by rw [K1_4.out.cell]; rfl
    have r1_5 : Wf.cell? ⟨w.heap.size + 1, 5, none⟩ = some (.int .i64 g) := by rw [K1_4.out.cell]; rfl
    exact bodyPost_ret (v := .tuple #[.agg #[.int .i64 p, .slice A8 n c8, .int .i64 a, .int .i64 b, .int .i64 s, .int .i64 g], .bool false]) (by simp [results, Try.results21, go_sem, r1_0, r1_1, r1_2, r1_3, r1_4, r1_5]) rfl ⟨A8, c8, rfl, own_base O_4.out (by have hs := HS.out; omega), B4.out⟩
  | true =>
    have K := okLk_iff.1 hok
    by_cases hb0 : b = 0
    · skip
      have qb : (b == 0) = true := by simpa using hb0
      obtain rfl : r = false := by rw [← HR.out]; unfold backOk; rw [hok]; simp [hb0]
      clear hok K hb0
      have x0_0 : w2.cell? ⟨w.heap.size, 0, none⟩ = some (.int .i64 p) := by rw [K0_3.out.cell]; rfl
      have x0_1 : w2.cell? ⟨w.heap.size, 1, none⟩ = some (.slice A8 n c8) := by rw [K0_3.out.cell]; rfl
      have x0_2 : w2.cell? ⟨w.heap.size, 2, none⟩ = some (.int .i64 a) := by rw [K0_3.out.cell]; rfl
      have x0_3 : w2.cell? ⟨w.heap.size, 3, none⟩ = some (.int .i64 b) := by rw [K0_3.out.cell]; rfl
      have x0_4 : w2.cell? ⟨w.heap.size, 4, none⟩ = some (.int .i64 s) := by rw [K0_3.out.cell]; rfl
      have x0_5 : w2.cell? ⟨w.heap.size, 5, none⟩ = some (.int .i64 g) := by rw [K0_3.out.cell]; rfl
      have x1_0 : w2.cell? ⟨w.heap.size + 1, 0, none⟩ = some (.int .i64 0) := by rw [K1_3.out.cell]; rfl
      have y1_0 := K1_3.out.frozen 0
      have x1_1 : w2.cell? ⟨w.heap.size + 1, 1, none⟩ = some (.slice none 0 0) := by rw [K1_3.out.cell]; rfl
      have y1_1 := K1_3.out.frozen 1
      have x1_2 : w2.cell? ⟨w.heap.size + 1, 2, none⟩ = some (.int .i64 0) := by rw [K1_3.out.cell]; rfl
      have y1_2 := K1_3.out.frozen 2
      have x1_3 : w2.cell? ⟨w.heap.size + 1, 3, none⟩ = some (.int .i64 0) := by rw [K1_3.out.cell]; rfl
      have y1_3 := K1_3.out.frozen 3
      have x1_4 : w2.cell? ⟨w.heap.size + 1, 4, none⟩ = some (.int .i64 0) := by rw [K1_3.out.cell]; rfl
      have y1_4 := K1_3.out.frozen 4
      have x1_5 : w2.cell? ⟨w.heap.size + 1, 5, none⟩ = some (.int .i64 0) := by rw [K1_3.out.cell]; rfl
      have y1_5 := K1_3.out.frozen 5
      go_wp2_with fail
      clear x0_0 x0_1 x0_2 x0_3 x0_4 x0_5 x1_0 y1_0 x1_1 y1_1 x1_2 y1_2 x1_3 y1_3 x1_4 y1_4 x1_5 y1_5
      generalize hV : ((((((w2.setCell _ _).setCell _ _).setCell _ _).setCell _ _).setCell _ _).setCell _ _) = Wf
      have B4 := Lib.hid (show Below w.heap.size w Wf by rw [← hV]; exact ((((((B3.out.setCell (by first | (simp; done) | (simp; omega) | omega) _).setCell (by first | (simp; done) | (simp; omega) | omega) _).setCell (by first | (simp; done) | (simp; omega) | omega) _).setCell (by first | (simp; done) | (simp; omega) | omega) _).setCell (by first | (simp; done) | (simp; omega) | omega) _).setCell (by first | (simp; done) | (simp; omega) | omega) _))
      have O_4 := Lib.hid (show Wf.ownsRow W.heap.size 30 5 (.slice A8 n c8) (n) (rcCells (zs)) by rw [← hV]; exact (own_set (own_set (own_set (own_set (own_set (own_set O_3.out _ (by have hs := HS.out; first | (simp; done) | (simp; omega) | omega)) _ (by have hs := HS.out; first | (simp; done) | (simp; omega) | omega)) _ (by have hs := HS.out; first | (simp; done) | (simp; omega) | omega)) _ (by have hs := HS.out; first | (simp; done) | (simp; omega) | omega)) _ (by have hs := HS.out; first | (simp; done) | (simp; omega) | omega)) _ (by have hs := HS.out; first | (simp; done) | (simp; omega) | omega)))
      have K0_4 := Lib.hid (show Blk Wf (w.heap.size) 26 #[.int .i64 p, .slice A8 n c8, .int .i64 a, .int .i64 b, .int .i64 s, .int .i64 g] by rw [← hV]; exact ((((((K0_3.out.other (by first | (simp; done) | (simp; omega) | omega) _).other (by first | (simp; done) | (simp; omega) | omega) _).other (by first | (simp; done) | (simp; omega) | omega) _).other (by first | (simp; done) | (simp; omega) | omega) _).other (by first | (simp; done) | (simp; omega) | omega) _).other (by first | (simp; done) | (simp; omega) | omega) _))
      have K1_4 := Lib.hid (show Blk Wf (w.heap.size + 1) 26 #[.int .i64 p, .slice A8 n c8, .int .i64 a, .int .i64 b, .int .i64 s, .int .i64 g] by rw [← hV]; exact ((((((K1_3.out.put 0 _).put 1 _).put 2 _).put 3 _).put 4 _).put 5 _))
      clear hV B3 K0_3 K1_3 O_3
      have r1_0 : Wf.cell? ⟨w.heap.size + 1, 0, none⟩ = some (.int .i64 p) := by rw [K1_4.out.cell]; rfl
      have r1_1 : Wf.cell? ⟨w.heap.size + 1, 1, none⟩ = some (.slice A8 n c8) := by rw [K1_4.out.cell]; rfl
      have r1_2 : Wf.cell? ⟨w.heap.size + 1, 2, none⟩ = some (.int .i64 a) := by rw [K1_4.out.cell]; rfl
      have r1_3 : Wf.cell? ⟨w.heap.size + 1, 3, none⟩ = some (.int .i64 b) := by rw [K1_4.out.cell]; rfl
      have r1_4 : Wf.cell? ⟨w.heap.size + 1, 4, none⟩ = some (.int .i64 s) := by rw [K1_4.out.cell]; rfl
      have r1_5 : Wf.cell? ⟨w.heap.size + 1, 5, none⟩ = some (.int .i64 g) := by rw [K1_4.out.cell]; rfl
      exact bodyPost_ret (v := .tuple #[.agg #[.int .i64 p, .slice A8 n c8, .int .i64 a, .int .i64 b, .int .i64 s, .int .i64 g], .bool false]) (by simp [results, Try.results21, go_sem, r1_0, r1_1, r1_2, r1_3, r1_4, r1_5]) rfl ⟨A8, c8, rfl, own_base O_4.out (by have hs := HS.out; omega), B4.out⟩
    · skip
      have qb : (b == 0) = false := by simpa using hb0
      obtain rfl : r = true := by rw [← HR.out]; unfold backOk; rw [hok]; simp [hb0]
      have ka := K.a0
      have kb := K.b0
      have kp := K.p4
      have ks := K.ap
      have kt := K.bp
      have m1 : IntKind.i64.wrap (a + 1) = a + 1 := IntWalk.i64_in _ (by omega)
      have m2 : IntKind.i64.wrap (b - 1) = b - 1 := IntWalk.i64_in _ (by omega)
      clear hok K hb0 ka kb kp ks kt
      have x0_0 : w2.cell? ⟨w.heap.size, 0, none⟩ = some (.int .i64 p) := by rw [K0_3.out.cell]; rfl
      have x0_1 : w2.cell? ⟨w.heap.size, 1, none⟩ = some (.slice A8 n c8) := by rw [K0_3.out.cell]; rfl
      have x0_2 : w2.cell? ⟨w.heap.size, 2, none⟩ = some (.int .i64 a) := by rw [K0_3.out.cell]; rfl
      have x0_3 : w2.cell? ⟨w.heap.size, 3, none⟩ = some (.int .i64 b) := by rw [K0_3.out.cell]; rfl
      have x0_4 : w2.cell? ⟨w.heap.size, 4, none⟩ = some (.int .i64 s) := by rw [K0_3.out.cell]; rfl
      have x0_5 : w2.cell? ⟨w.heap.size, 5, none⟩ = some (.int .i64 g) := by rw [K0_3.out.cell]; rfl
      have y0_2 := K0_3.out.frozen 2
      have y0_3 := K0_3.out.frozen 3
      have x1_0 : w2.cell? ⟨w.heap.size + 1, 0, none⟩ = some (.int .i64 0) := by rw [K1_3.out.cell]; rfl
      have y1_0 := K1_3.out.frozen 0
      have x1_1 : w2.cell? ⟨w.heap.size + 1, 1, none⟩ = some (.slice none 0 0) := by rw [K1_3.out.cell]; rfl
      have y1_1 := K1_3.out.frozen 1
      have x1_2 : w2.cell? ⟨w.heap.size + 1, 2, none⟩ = some (.int .i64 0) := by rw [K1_3.out.cell]; rfl
      have y1_2 := K1_3.out.frozen 2
      have x1_3 : w2.cell? ⟨w.heap.size + 1, 3, none⟩ = some (.int .i64 0) := by rw [K1_3.out.cell]; rfl
      have y1_3 := K1_3.out.frozen 3
      have x1_4 : w2.cell? ⟨w.heap.size + 1, 4, none⟩ = some (.int .i64 0) := by rw [K1_3.out.cell]; rfl
      have y1_4 := K1_3.out.frozen 4
      have x1_5 : w2.cell? ⟨w.heap.size + 1, 5, none⟩ = some (.int .i64 0) := by rw [K1_3.out.cell]; rfl
      have y1_5 := K1_3.out.frozen 5
      go_wp2_with fail
      clear x0_0 x0_1 x0_2 x0_3 x0_4 x0_5 y0_2 y0_3 x1_0 y1_0 x1_1 y1_1 x1_2 y1_2 x1_3 y1_3 x1_4 y1_4 x1_5 y1_5
      generalize hV : ((((((((w2.setCell _ _).setCell _ _).setCell _ _).setCell _ _).setCell _ _).setCell _ _).setCell _ _).setCell _ _) = Wf
      have B4 := Lib.hid (show Below w.heap.size w Wf by rw [← hV]; exact ((((((((B3.out.setCell (by first | (simp; done) | (simp; omega) | omega) _).setCell (by first | (simp; done) | (simp; omega) | omega) _).setCell (by first | (simp; done) | (simp; omega) | omega) _).setCell (by first | (simp; done) | (simp; omega) | omega) _).setCell (by first | (simp; done) | (simp; omega) | omega) _).setCell (by first | (simp; done) | (simp; omega) | omega) _).setCell (by first | (simp; done) | (simp; omega) | omega) _).setCell (by first | (simp; done) | (simp; omega) | omega) _))
      have O_4 := Lib.hid (show Wf.ownsRow W.heap.size 30 5 (.slice A8 n c8) (n) (rcCells (zs)) by rw [← hV]; exact (own_set (own_set (own_set (own_set (own_set (own_set (own_set (own_set O_3.out _ (by have hs := HS.out; first | (simp; done) | (simp; omega) | omega)) _ (by have hs := HS.out; first | (simp; done) | (simp; omega) | omega)) _ (by have hs := HS.out; first | (simp; done) | (simp; omega) | omega)) _ (by have hs := HS.out; first | (simp; done) | (simp; omega) | omega)) _ (by have hs := HS.out; first | (simp; done) | (simp; omega) | omega)) _ (by have hs := HS.out; first | (simp; done) | (simp; omega) | omega)) _ (by have hs := HS.out; first | (simp; done) | (simp; omega) | omega)) _ (by have hs := HS.out; first | (simp; done) | (simp; omega) | omega)))
      have K0_4 := Lib.hid (show Blk Wf (w.heap.size) 26 #[.int .i64 p, .slice A8 n c8, .int .i64 (a + 1), .int .i64 (b - 1), .int .i64 s, .int .i64 g] by rw [← hV]; exact ((((((((K0_3.out.put 3 _).put 2 _).other (by first | (simp; done) | (simp; omega) | omega) _).other (by first | (simp; done) | (simp; omega) | omega) _).other (by first | (simp; done) | (simp; omega) | omega) _).other (by first | (simp; done) | (simp; omega) | omega) _).other (by first | (simp; done) | (simp; omega) | omega) _).other (by first | (simp; done) | (simp; omega) | omega) _))
      have K1_4 := Lib.hid (show Blk Wf (w.heap.size + 1) 26 #[.int .i64 p, .slice A8 n c8, .int .i64 (a + 1), .int .i64 (b - 1), .int .i64 s, .int .i64 g] by rw [← hV]; exact ((((((((K1_3.out.other (by first | (simp; done) | (simp; omega) | omega) _).other (by first | (simp; done) | (simp; omega) | omega) _).put 0 _).put 1 _).put 2 _).put 3 _).put 4 _).put 5 _))
      clear hV B3 K0_3 K1_3 O_3
      have r1_0 : Wf.cell? ⟨w.heap.size + 1, 0, none⟩ = some (.int .i64 p) := by rw [K1_4.out.cell]; rfl
      have r1_1 : Wf.cell? ⟨w.heap.size + 1, 1, none⟩ = some (.slice A8 n c8) := by rw [K1_4.out.cell]; rfl
      have r1_2 : Wf.cell? ⟨w.heap.size + 1, 2, none⟩ = some (.int .i64 (a + 1)) := by rw [K1_4.out.cell]; rfl
      have r1_3 : Wf.cell? ⟨w.heap.size + 1, 3, none⟩ = some (.int .i64 (b - 1)) := by rw [K1_4.out.cell]; rfl
      have r1_4 : Wf.cell? ⟨w.heap.size + 1, 4, none⟩ = some (.int .i64 s) := by rw [K1_4.out.cell]; rfl
      have r1_5 : Wf.cell? ⟨w.heap.size + 1, 5, none⟩ = some (.int .i64 g) := by rw [K1_4.out.cell]; rfl
      exact bodyPost_ret (v := .tuple #[.agg #[.int .i64 p, .slice A8 n c8, .int .i64 (a + 1), .int .i64 (b - 1), .int .i64 s, .int .i64 g], .bool true]) (by simp [results, Try.results21, go_sem, r1_0, r1_1, r1_2, r1_3, r1_4, r1_5]) rfl ⟨A8, c8, rfl, own_base O_4.out (by have hs := HS.out; omega), B4.out⟩

set_option maxRecDepth 100000 in
theorem implBack_any (n : Nat) (zs : List Rc) (hz : zs.length = n) (A : Option Addr) (c : Nat) (hA : A = none → c = 0) (p a b s g : Int) (hg : g ≤ 9223372036854775807) (w : World) (h1 : Rcs w A zs) (hn : n ≤ 1048576) {r : Bool} (hr : backOk p a b s g n zs = r) :
    Calls Try.prog 20 #[.agg #[.int .i64 p, .slice A n c, .int .i64 a, .int .i64 b, .int .i64 s, .int .i64 g]] w fun e w' => ∃ A1 c1, e = .returned (.tuple #[.agg #[.int .i64 p, .slice A1 n c1, .int .i64 (turnI r a 1), .int .i64 (turnI r b (-1)), .int .i64 s, .int .i64 g], .bool r]) ∧ w'.ownsRow w.heap.size 30 5 (.slice A1 n c1) n (rcCells zs) ∧ Below w.heap.size w w' := by
  have H1 := Lib.hid h1
  have HZ := Lib.hid hz
  have HA := Lib.hid hA
  have HR := Lib.hid hr
  clear h1 hz hA hr
  go_enter Try.func20, Try.ntmps20
  go_wp2_with fail
  generalize hW : ((w.alloc _).alloc _) = W
  have B0 := Lib.hid (show Below w.heap.size w W by rw [← hW]; exact (((Below.refl _ _).alloc (by first | (simp; done) | (simp; omega) | omega) _).alloc (by first | (simp; done) | (simp; omega) | omega) _))
  have HS := Lib.hid (show W.heap.size = w.heap.size + 2 by rw [← hW]; simp)
  have K0_0 := Lib.hid (show Blk W (w.heap.size) 26 #[.int .i64 p, .slice A n c, .int .i64 a, .int .i64 b, .int .i64 s, .int .i64 g] by rw [← hW]; exact ((Below.heap_alloc _ _ _ (by first | (simp; done) | (simp; omega))).trans (Blk.new _ _ _)))
  have K1_0 := Lib.hid (show Blk W (w.heap.size + 1) 26 #[.int .i64 0, .slice none 0 0, .int .i64 0, .int .i64 0, .int .i64 0, .int .i64 0] by rw [← hW]; exact ((show w.heap.size + 1 = ((w.alloc _)).heap.size by simp) ▸ Blk.new _ _ _))
  clear hW
  refine (implCopy_any n zs HZ.out A c HA.out p a b s g W (H1.out.below B0.out) hn).mono ?_
  rintro e w1 ⟨A8, c8, rfl, own8, hb⟩
  have B1 := Lib.hid (below_chain B0.out hb)
  have K0_1 := Lib.hid (K0_0.out.below hb)
  have K1_1 := Lib.hid (K1_0.out.below hb)
  clear hb B0 K0_0 K1_0
  have O_1 := Lib.hid own8
  clear own8
  have x0_0 : w1.cell? ⟨w.heap.size, 0, none⟩ = some (.int .i64 p) := by rw [K0_1.out.cell]; rfl
  have y0_0 := K0_1.out.frozen 0
  have x0_1 : w1.cell? ⟨w.heap.size, 1, none⟩ = some (.slice A n c) := by rw [K0_1.out.cell]; rfl
  have y0_1 := K0_1.out.frozen 1
  have x0_2 : w1.cell? ⟨w.heap.size, 2, none⟩ = some (.int .i64 a) := by rw [K0_1.out.cell]; rfl
  have y0_2 := K0_1.out.frozen 2
  have x0_3 : w1.cell? ⟨w.heap.size, 3, none⟩ = some (.int .i64 b) := by rw [K0_1.out.cell]; rfl
  have y0_3 := K0_1.out.frozen 3
  have x0_4 : w1.cell? ⟨w.heap.size, 4, none⟩ = some (.int .i64 s) := by rw [K0_1.out.cell]; rfl
  have y0_4 := K0_1.out.frozen 4
  have x0_5 : w1.cell? ⟨w.heap.size, 5, none⟩ = some (.int .i64 g) := by rw [K0_1.out.cell]; rfl
  have y0_5 := K0_1.out.frozen 5
  go_wp2_with fail
  clear x0_0 y0_0 x0_1 y0_1 x0_2 y0_2 x0_3 y0_3 x0_4 y0_4 x0_5 y0_5
  generalize hV : ((((((w1.setCell _ _).setCell _ _).setCell _ _).setCell _ _).setCell _ _).setCell _ _) = V1
  have B2 := Lib.hid (show Below w.heap.size w V1 by rw [← hV]; exact ((((((B1.out.setCell (by first | (simp; done) | (simp; omega) | omega) _).setCell (by first | (simp; done) | (simp; omega) | omega) _).setCell (by first | (simp; done) | (simp; omega) | omega) _).setCell (by first | (simp; done) | (simp; omega) | omega) _).setCell (by first | (simp; done) | (simp; omega) | omega) _).setCell (by first | (simp; done) | (simp; omega) | omega) _))
  have O_2 := Lib.hid (show V1.ownsRow W.heap.size 30 5 (.slice A8 n c8) (n) (rcCells (zs)) by rw [← hV]; exact (own_set (own_set (own_set (own_set (own_set (own_set O_1.out _ (by have hs := HS.out; first | (simp; done) | (simp; omega) | omega)) _ (by have hs := HS.out; first | (simp; done) | (simp; omega) | omega)) _ (by have hs := HS.out; first | (simp; done) | (simp; omega) | omega)) _ (by have hs := HS.out; first | (simp; done) | (simp; omega) | omega)) _ (by have hs := HS.out; first | (simp; done) | (simp; omega) | omega)) _ (by have hs := HS.out; first | (simp; done) | (simp; omega) | omega)))
  have K0_2 := Lib.hid (show Blk V1 (w.heap.size) 26 #[.int .i64 p, .slice A8 n c8, .int .i64 a, .int .i64 b, .int .i64 s, .int .i64 g] by rw [← hV]; exact ((((((K0_1.out.put 0 _).put 1 _).put 2 _).put 3 _).put 4 _).put 5 _))
  have K1_2 := Lib.hid (show Blk V1 (w.heap.size + 1) 26 #[.int .i64 0, .slice none 0 0, .int .i64 0, .int .i64 0, .int .i64 0, .int .i64 0] by rw [← hV]; exact ((((((K1_1.out.other (by first | (simp; done) | (simp; omega) | omega) _).other (by first | (simp; done) | (simp; omega) | omega) _).other (by first | (simp; done) | (simp; omega) | omega) _).other (by first | (simp; done) | (simp; omega) | omega) _).other (by first | (simp; done) | (simp; omega) | omega) _).other (by first | (simp; done) | (simp; omega) | omega) _))
  clear hV B1 K0_1 K1_1 O_1
  refine (implLkOk_any n zs HZ.out A8 c8 p a b s g hg V1 (own_rcs O_2.out) (by omega)).mono ?_
  rintro e w2 ⟨rfl, hb⟩
  have B3 := Lib.hid (below_chain B2.out hb)
  have K0_3 := Lib.hid (K0_2.out.below hb)
  have K1_3 := Lib.hid (K1_2.out.below hb)
  have O_3 := Lib.hid (own_below O_2.out hb)
  clear hb B2 K0_2 K1_2 O_2
  cases hok : okLk p a b s g n zs with
  | false =>
    obtain rfl : r = false := by rw [← HR.out]; unfold backOk; rw [hok]; rfl
    clear hok
    have x0_0 : w2.cell? ⟨w.heap.size, 0, none⟩ = some (.int .i64 p) := by rw [K0_3.out.cell]; rfl
    have x0_1 : w2.cell? ⟨w.heap.size, 1, none⟩ = some (.slice A8 n c8) := by rw [K0_3.out.cell]; rfl
    have x0_2 : w2.cell? ⟨w.heap.size, 2, none⟩ = some (.int .i64 a) := by rw [K0_3.out.cell]; rfl
    have x0_3 : w2.cell? ⟨w.heap.size, 3, none⟩ = some (.int .i64 b) := by rw [K0_3.out.cell]; rfl
    have x0_4 : w2.cell? ⟨w.heap.size, 4, none⟩ = some (.int .i64 s) := by rw [K0_3.out.cell]; rfl
    have x0_5 : w2.cell? ⟨w.heap.size, 5, none⟩ = some (.int .i64 g) := by rw [K0_3.out.cell]; rfl
    have x1_0 : w2.cell? ⟨w.heap.size + 1, 0, none⟩ = some (.int .i64 0) := by rw [K1_3.out.cell]; rfl
    have y1_0 := K1_3.out.frozen 0
    have x1_1 : w2.cell? ⟨w.heap.size + 1, 1, none⟩ = some (.slice none 0 0) := by rw [K1_3.out.cell]; rfl
    have y1_1 := K1_3.out.frozen 1
    have x1_2 : w2.cell? ⟨w.heap.size + 1, 2, none⟩ = some (.int .i64 0) := by rw [K1_3.out.cell]; rfl
    have y1_2 := K1_3.out.frozen 2
    have x1_3 : w2.cell? ⟨w.heap.size + 1, 3, none⟩ = some (.int .i64 0) := by rw [K1_3.out.cell]; rfl
    have y1_3 := K1_3.out.frozen 3
    have x1_4 : w2.cell? ⟨w.heap.size + 1, 4, none⟩ = some (.int .i64 0) := by rw [K1_3.out.cell]; rfl
    have y1_4 := K1_3.out.frozen 4
    have x1_5 : w2.cell? ⟨w.heap.size + 1, 5, none⟩ = some (.int .i64 0) := by rw [K1_3.out.cell]; rfl
    have y1_5 := K1_3.out.frozen 5
    go_wp2_with fail
    clear x0_0 x0_1 x0_2 x0_3 x0_4 x0_5 x1_0 y1_0 x1_1 y1_1 x1_2 y1_2 x1_3 y1_3 x1_4 y1_4 x1_5 y1_5
    generalize hV : ((((((w2.setCell _ _).setCell _ _).setCell _ _).setCell _ _).setCell _ _).setCell _ _) = Wf
    have B4 := Lib.hid (show Below w.heap.size w Wf by rw [← hV]; exact ((((((B3.out.setCell (by first | (simp; done) | (simp; omega) | omega) _).setCell (by first | (simp; done) | (simp; omega) | omega) _).setCell (by first | (simp; done) | (simp; omega) | omega) _).setCell (by first | (simp; done) | (simp; omega) | omega) _).setCell (by first | (simp; done) | (simp; omega) | omega) _).setCell (by first | (simp; done) | (simp; omega) | omega) _))
    have O_4 := Lib.hid (show Wf.ownsRow W.heap.size 30 5 (.slice A8 n c8) (n) (rcCells (zs)) by rw [← hV]; exact (own_set (own_set (own_set (own_set (own_set (own_set O_3.out _ (by have hs := HS.out; first | (simp; done) | (simp; omega) | omega)) _ (by have hs := HS.out; first | (simp; done) | (simp; omega) | omega)) _ (by have hs := HS.out; first | (simp; done) | (simp; omega) | omega)) _ (by have hs := HS.out; first | (simp; done) | (simp; omega) | omega)) _ (by have hs := HS.out; first | (simp; done) | (simp; omega) | omega)) _ (by have hs := HS.out; first | (simp; done) | (simp; omega) | omega)))
    have K0_4 := Lib.hid (show Blk Wf (w.heap.size) 26 #[.int .i64 p, .slice A8 n c8, .int .i64 a, .int .i64 b, .int .i64 s, .int .i64 g] by rw [← hV]; exact ((((((K0_3.out.other (by first | (simp; done) | (simp; omega) | omega) _).other (by first | (simp; done) | (simp; omega) | omega) _).other (by first | (simp; done) | (simp; omega) | omega) _).other (by first | (simp; done) | (simp; omega) | omega) _).other (by first | (simp; done) | (simp; omega) | omega) _).other (by first | (simp; done) | (simp; omega) | omega) _))
    have K1_4 := Lib.hid (show Blk Wf (w.heap.size + 1) 26 #[.int .i64 p, .slice A8 n c8, .int .i64 a, .int .i64 b, .int .i64 s, .int .i64 g] by rw [← hV]; exact ((((((K1_3.out.put 0 _).put 1 _).put 2 _).put 3 _).put 4 _).put 5 _))
    clear hV B3 K0_3 K1_3 O_3
    have r1_0 : Wf.cell? ⟨w.heap.size + 1, 0, none⟩ = some (.int .i64 p) := by rw [K1_4.out.cell]; rfl
    have r1_1 : Wf.cell? ⟨w.heap.size + 1, 1, none⟩ = some (.slice A8 n c8) := by rw [K1_4.out.cell]; rfl
    have r1_2 : Wf.cell? ⟨w.heap.size + 1, 2, none⟩ = some (.int .i64 a) := by rw [K1_4.out.cell]; rfl
    have r1_3 : Wf.cell? ⟨w.heap.size + 1, 3, none⟩ = some (.int .i64 b) := by rw [K1_4.out.cell]; rfl
    have r1_4 : Wf.cell? ⟨w.heap.size + 1, 4, none⟩ = some (.int .i64 s) := by rw [K1_4.out.cell]; rfl
    have r1_5 : Wf.cell? ⟨w.heap.size + 1, 5, none⟩ = some (.int .i64 g) := by rw [K1_4.out.cell]; rfl
    exact bodyPost_ret (v := .tuple #[.agg #[.int .i64 p, .slice A8 n c8, .int .i64 a, .int .i64 b, .int .i64 s, .int .i64 g], .bool false]) (by simp [results, Try.results20, go_sem, r1_0, r1_1, r1_2, r1_3, r1_4, r1_5]) rfl ⟨A8, c8, rfl, own_base O_4.out (by have hs := HS.out; omega), B4.out⟩
  | true =>
    have K := okLk_iff.1 hok
    by_cases hb0 : b = 0
    · skip
      have qb : (b == 0) = true := by simpa using hb0
      obtain rfl : r = false := by rw [← HR.out]; unfold backOk; rw [hok]; simp [hb0]
      clear hok K hb0
      have x0_0 : w2.cell? ⟨w.heap.size, 0, none⟩ = some (.int .i64 p) := by rw [K0_3.out.cell]; rfl
      have x0_1 : w2.cell? ⟨w.heap.size, 1, none⟩ = some (.slice A8 n c8) := by rw [K0_3.out.cell]; rfl
      have x0_2 : w2.cell? ⟨w.heap.size, 2, none⟩ = some (.int .i64 a) := by rw [K0_3.out.cell]; rfl
      have x0_3 : w2.cell? ⟨w.heap.size, 3, none⟩ = some (.int .i64 b) := by rw [K0_3.out.cell]; rfl
      have x0_4 : w2.cell? ⟨w.heap.size, 4, none⟩ = some (.int .i64 s) := by rw [K0_3.out.cell]; rfl
      have x0_5 : w2.cell? ⟨w.heap.size, 5, none⟩ = some (.int .i64 g) := by rw [K0_3.out.cell]; rfl
      have x1_0 : w2.cell? ⟨w.heap.size + 1, 0, none⟩ = some (.int .i64 0) := by rw [K1_3.out.cell]; rfl
      have y1_0 := K1_3.out.frozen 0
      have x1_1 : w2.cell? ⟨w.heap.size + 1, 1, none⟩ = some (.slice none 0 0) := by rw [K1_3.out.cell]; rfl
      have y1_1 := K1_3.out.frozen 1
      have x1_2 : w2.cell? ⟨w.heap.size + 1, 2, none⟩ = some (.int .i64 0) := by rw [K1_3.out.cell]; rfl
      have y1_2 := K1_3.out.frozen 2
      have x1_3 : w2.cell? ⟨w.heap.size + 1, 3, none⟩ = some (.int .i64 0) := by rw [K1_3.out.cell]; rfl
      have y1_3 := K1_3.out.frozen 3
      have x1_4 : w2.cell? ⟨w.heap.size + 1, 4, none⟩ = some (.int .i64 0) := by rw [K1_3.out.cell]; rfl
      have y1_4 := K1_3.out.frozen 4
      have x1_5 : w2.cell? ⟨w.heap.size + 1, 5, none⟩ = some (.int .i64 0) := by rw [K1_3.out.cell]; rfl
      have y1_5 := K1_3.out.frozen 5
      go_wp2_with fail
      clear x0_0 x0_1 x0_2 x0_3 x0_4 x0_5 x1_0 y1_0 x1_1 y1_1 x1_2 y1_2 x1_3 y1_3 x1_4 y1_4 x1_5 y1_5
      generalize hV : ((((((w2.setCell _ _).setCell _ _).setCell _ _).setCell _ _).setCell _ _).setCell _ _) = Wf
      have B4 := Lib.hid (show Below w.heap.size w Wf by rw [← hV]; exact ((((((B3.out.setCell (by first | (simp; done) | (simp; omega) | omega) _).setCell (by first | (simp; done) | (simp; omega) | omega) _).setCell (by first | (simp; done) | (simp; omega) | omega) _).setCell (by first | (simp; done) | (simp; omega) | omega) _).setCell (by first | (simp; done) | (simp; omega) | omega) _).setCell (by first | (simp; done) | (simp; omega) | omega) _))
      have O_4 := Lib.hid (show Wf.ownsRow W.heap.size 30 5 (.slice A8 n c8) (n) (rcCells (zs)) by rw [← hV]; exact (own_set (own_set (own_set (own_set (own_set (own_set O_3.out _ (by have hs := HS.out; first | (simp; done) | (simp; omega) | omega)) _ (by have hs := HS.out; first | (simp; done) | (simp; omega) | omega)) _ (by have hs := HS.out; first | (simp; done) | (simp; omega) | omega)) _ (by have hs := HS.out; first | (simp; done) | (simp; omega) | omega)) _ (by have hs := HS.out; first | (simp; done) | (simp; omega) | omega)) _ (by have hs := HS.out; first | (simp; done) | (simp; omega) | omega)))
      have K0_4 := Lib.hid (show Blk Wf (w.heap.size) 26 #[.int .i64 p, .slice A8 n c8, .int .i64 a, .int .i64 b, .int .i64 s, .int .i64 g] by rw [← hV]; exact ((((((K0_3.out.other (by first | (simp; done) | (simp; omega) | omega) _).other (by first | (simp; done) | (simp; omega) | omega) _).other (by first | (simp; done) | (simp; omega) | omega) _).other (by first | (simp; done) | (simp; omega) | omega) _).other (by first | (simp; done) | (simp; omega) | omega) _).other (by first | (simp; done) | (simp; omega) | omega) _))
      have K1_4 := Lib.hid (show Blk Wf (w.heap.size + 1) 26 #[.int .i64 p, .slice A8 n c8, .int .i64 a, .int .i64 b, .int .i64 s, .int .i64 g] by rw [← hV]; exact ((((((K1_3.out.put 0 _).put 1 _).put 2 _).put 3 _).put 4 _).put 5 _))
      clear hV B3 K0_3 K1_3 O_3
      have r1_0 : Wf.cell? ⟨w.heap.size + 1, 0, none⟩ = some (.int .i64 p) := by rw [K1_4.out.cell]; rfl
      have r1_1 : Wf.cell? ⟨w.heap.size + 1, 1, none⟩ = some (.slice A8 n c8) := by rw [K1_4.out.cell]; rfl
      have r1_2 : Wf.cell? ⟨w.heap.size + 1, 2, none⟩ = some (.int .i64 a) := by rw [K1_4.out.cell]; rfl
      have r1_3 : Wf.cell? ⟨w.heap.size + 1, 3, none⟩ = some (.int .i64 b) := by rw [K1_4.out.cell]; rfl
      have r1_4 : Wf.cell? ⟨w.heap.size + 1, 4, none⟩ = some (.int .i64 s) := by rw [K1_4.out.cell]; rfl
      have r1_5 : Wf.cell? ⟨w.heap.size + 1, 5, none⟩ = some (.int .i64 g) := by rw [K1_4.out.cell]; rfl
      exact bodyPost_ret (v := .tuple #[.agg #[.int .i64 p, .slice A8 n c8, .int .i64 a, .int .i64 b, .int .i64 s, .int .i64 g], .bool false]) (by simp [results, Try.results20, go_sem, r1_0, r1_1, r1_2, r1_3, r1_4, r1_5]) rfl ⟨A8, c8, rfl, own_base O_4.out (by have hs := HS.out; omega), B4.out⟩
    · skip
      have qb : (b == 0) = false := by simpa using hb0
      obtain rfl : r = true := by rw [← HR.out]; unfold backOk; rw [hok]; simp [hb0]
      have ka := K.a0
      have kb := K.b0
      have kp := K.p4
      have ks := K.ap
      have kt := K.bp
      have m1 : IntKind.i64.wrap (a + 1) = a + 1 := IntWalk.i64_in _ (by omega)
      have m2 : IntKind.i64.wrap (b - 1) = b - 1 := IntWalk.i64_in _ (by omega)
      clear hok K hb0 ka kb kp ks kt
      have x0_0 : w2.cell? ⟨w.heap.size, 0, none⟩ = some (.int .i64 p) := by rw [K0_3.out.cell]; rfl
      have x0_1 : w2.cell? ⟨w.heap.size, 1, none⟩ = some (.slice A8 n c8) := by rw [K0_3.out.cell]; rfl
      have x0_2 : w2.cell? ⟨w.heap.size, 2, none⟩ = some (.int .i64 a) := by rw [K0_3.out.cell]; rfl
      have x0_3 : w2.cell? ⟨w.heap.size, 3, none⟩ = some (.int .i64 b) := by rw [K0_3.out.cell]; rfl
      have x0_4 : w2.cell? ⟨w.heap.size, 4, none⟩ = some (.int .i64 s) := by rw [K0_3.out.cell]; rfl
      have x0_5 : w2.cell? ⟨w.heap.size, 5, none⟩ = some (.int .i64 g) := by rw [K0_3.out.cell]; rfl
      have y0_2 := K0_3.out.frozen 2
      have y0_3 := K0_3.out.frozen 3
      have x1_0 : w2.cell? ⟨w.heap.size + 1, 0, none⟩ = some (.int .i64 0) := by rw [K1_3.out.cell]; rfl
      have y1_0 := K1_3.out.frozen 0
      have x1_1 : w2.cell? ⟨w.heap.size + 1, 1, none⟩ = some (.slice none 0 0) := by rw [K1_3.out.cell]; rfl
      have y1_1 := K1_3.out.frozen 1
      have x1_2 : w2.cell? ⟨w.heap.size + 1, 2, none⟩ = some (.int .i64 0) := by rw [K1_3.out.cell]; rfl
      have y1_2 := K1_3.out.frozen 2
      have x1_3 : w2.cell? ⟨w.heap.size + 1, 3, none⟩ = some (.int .i64 0) := by rw [K1_3.out.cell]; rfl
      have y1_3 := K1_3.out.frozen 3
      have x1_4 : w2.cell? ⟨w.heap.size + 1, 4, none⟩ = some (.int .i64 0) := by rw [K1_3.out.cell]; rfl
      have y1_4 := K1_3.out.frozen 4
      have x1_5 : w2.cell? ⟨w.heap.size + 1, 5, none⟩ = some (.int .i64 0) := by rw [K1_3.out.cell]; rfl
      have y1_5 := K1_3.out.frozen 5
      go_wp2_with fail
      clear x0_0 x0_1 x0_2 x0_3 x0_4 x0_5 y0_2 y0_3 x1_0 y1_0 x1_1 y1_1 x1_2 y1_2 x1_3 y1_3 x1_4 y1_4 x1_5 y1_5
      generalize hV : ((((((((w2.setCell _ _).setCell _ _).setCell _ _).setCell _ _).setCell _ _).setCell _ _).setCell _ _).setCell _ _) = Wf
      have B4 := Lib.hid (show Below w.heap.size w Wf by rw [← hV]; exact ((((((((B3.out.setCell (by first | (simp; done) | (simp; omega) | omega) _).setCell (by first | (simp; done) | (simp; omega) | omega) _).setCell (by first | (simp; done) | (simp; omega) | omega) _).setCell (by first | (simp; done) | (simp; omega) | omega) _).setCell (by first | (simp; done) | (simp; omega) | omega) _).setCell (by first | (simp; done) | (simp; omega) | omega) _).setCell (by first | (simp; done) | (simp; omega) | omega) _).setCell (by first | (simp; done) | (simp; omega) | omega) _))
      have O_4 := Lib.hid (show Wf.ownsRow W.heap.size 30 5 (.slice A8 n c8) (n) (rcCells (zs)) by rw [← hV]; exact (own_set (own_set (own_set (own_set (own_set (own_set (own_set (own_set O_3.out _ (by have hs := HS.out; first | (simp; done) | (simp; omega) | omega)) _ (by have hs := HS.out; first | (simp; done) | (simp; omega) | omega)) _ (by have hs := HS.out; first | (simp; done) | (simp; omega) | omega)) _ (by have hs := HS.out; first | (simp; done) | (simp; omega) | omega)) _ (by have hs := HS.out; first | (simp; done) | (simp; omega) | omega)) _ (by have hs := HS.out; first | (simp; done) | (simp; omega) | omega)) _ (by have hs := HS.out; first | (simp; done) | (simp; omega) | omega)) _ (by have hs := HS.out; first | (simp; done) | (simp; omega) | omega)))
      have K0_4 := Lib.hid (show Blk Wf (w.heap.size) 26 #[.int .i64 p, .slice A8 n c8, .int .i64 (a + 1), .int .i64 (b - 1), .int .i64 s, .int .i64 g] by rw [← hV]; exact ((((((((K0_3.out.put 3 _).put 2 _).other (by first | (simp; done) | (simp; omega) | omega) _).other (by first | (simp; done) | (simp; omega) | omega) _).other (by first | (simp; done) | (simp; omega) | omega) _).other (by first | (simp; done) | (simp; omega) | omega) _).other (by first | (simp; done) | (simp; omega) | omega) _).other (by first | (simp; done) | (simp; omega) | omega) _))
      have K1_4 := Lib.hid (show Blk Wf (w.heap.size + 1) 26 #[.int .i64 p, .slice A8 n c8, .int .i64 (a + 1), .int .i64 (b - 1), .int .i64 s, .int .i64 g] by rw [← hV]; exact ((((((((K1_3.out.other (by first | (simp; done) | (simp; omega) | omega) _).other (by first | (simp; done) | (simp; omega) | omega) _).put 0 _).put 1 _).put 2 _).put 3 _).put 4 _).put 5 _))
      clear hV B3 K0_3 K1_3 O_3
      have r1_0 : Wf.cell? ⟨w.heap.size + 1, 0, none⟩ = some (.int .i64 p) := by rw [K1_4.out.cell]; rfl
      have r1_1 : Wf.cell? ⟨w.heap.size + 1, 1, none⟩ = some (.slice A8 n c8) := by rw [K1_4.out.cell]; rfl
      have r1_2 : Wf.cell? ⟨w.heap.size + 1, 2, none⟩ = some (.int .i64 (a + 1)) := by rw [K1_4.out.cell]; rfl
      have r1_3 : Wf.cell? ⟨w.heap.size + 1, 3, none⟩ = some (.int .i64 (b - 1)) := by rw [K1_4.out.cell]; rfl
      have r1_4 : Wf.cell? ⟨w.heap.size + 1, 4, none⟩ = some (.int .i64 s) := by rw [K1_4.out.cell]; rfl
      have r1_5 : Wf.cell? ⟨w.heap.size + 1, 5, none⟩ = some (.int .i64 g) := by rw [K1_4.out.cell]; rfl
      exact bodyPost_ret (v := .tuple #[.agg #[.int .i64 p, .slice A8 n c8, .int .i64 (a + 1), .int .i64 (b - 1), .int .i64 s, .int .i64 g], .bool true]) (by simp [results, Try.results20, go_sem, r1_0, r1_1, r1_2, r1_3, r1_4, r1_5]) rfl ⟨A8, c8, rfl, own_base O_4.out (by have hs := HS.out; omega), B4.out⟩

end Go.Proofs.Ythkkleicekhelaa.hexes
