/-
  Nodes: the contracts of the laws' own functions on them.
-/
import Derived.Test.YtbbagpnjjjohpaaJ6
import Derived.Test.YtbbagpnjjjohpaaJ7

namespace Go.Proofs.Ytbbagpnjjjohpaa.hexes
open Go.RowKit

set_option maxRecDepth 100000 in
theorem szNd_over (A : Option Addr) (n c : Nat) (k a b left : Int) (h0 : 0 ≤ left) (h1 : left ≤ 1048576) (hn : n ≤ maxLen) (h : left < (n : Int)) (w : World) :
    Calls Try.prog 94 #[.agg #[.int .i64 k, .int .i64 a, .int .i64 b, .slice A n c], .int .i64 left] w fun e w' => e = .returned (.int .i64 (-1)) ∧ Below w.heap.size w w' := by
  have E := Lib.hid (fun W => szIs_over A n c left h0 h1 hn h W)
  have hd : decide (left - (n : Int) < 0) = true := by simp; omega
  clear h
  go_enter Try.func94, Try.ntmps94
  go_wp2_with fail
  refine (E.out _).mono ?_
  rintro e w1 ⟨rfl, rfl⟩
  go_wp2
  go_ret
  exact ⟨rfl, (Below.refl _ _).alloc (Nat.le_refl _) _⟩

set_option maxRecDepth 100000 in
theorem szNd_in (A : Option Addr) (n c : Nat) (k a b left : Int) (h0 : 0 ≤ left) (h1 : left ≤ 1048576) (hn : n ≤ maxLen) (h : ¬left < (n : Int)) (w : World) :
    Calls Try.prog 94 #[.agg #[.int .i64 k, .int .i64 a, .int .i64 b, .slice A n c], .int .i64 left] w fun e w' => e = .returned (.int .i64 (left - n)) ∧ Below w.heap.size w w' := by
  have E := Lib.hid (fun W => szIs_in A n c left h0 h1 hn h W)
  have hd : decide (left - (n : Int) < 0) = false := by simp; omega
  clear h
  go_enter Try.func94, Try.ntmps94
  go_wp2_with fail
  refine (E.out _).mono ?_
  rintro e w1 ⟨rfl, rfl⟩
  go_wp2
  go_ret
  exact ⟨rfl, (Below.refl _ _).alloc (Nat.le_refl _) _⟩

set_option maxRecDepth 100000 in
theorem toNd_row (A : Option Addr) (n c : Nat) (zs : List Int) (hz : zs.length = n) (k a b : Int) (w : World) (h1 : Ints w A zs) (hn : n ≤ 1048576) :
    Calls Try.prog 95 #[.agg #[.int .i64 k, .int .i64 a, .int .i64 b, .slice A n c]] w fun e w' => ∃ A1 c1, e = .returned (.agg #[.int .i64 k, .int .i64 a, .int .i64 b, .slice A1 n c1]) ∧ Row w' w.heap.size w'.heap.size 3 1 A1 n c1 (isCells zs) ∧ Below w.heap.size w w' := by
  have H1 := Lib.hid h1
  have HZ := Lib.hid hz
  clear h1 hz
  go_enter Try.func95, Try.ntmps95
  go_wp2_with fail
  generalize hW : ((w.alloc _).alloc _).alloc _ = W
  have bW : Below w.heap.size w W := by rw [← hW]; exact ((((Below.refl _ _).alloc (by first | (simp; done) | (simp; omega) | omega) _).alloc (by first | (simp; done) | (simp; omega) | omega) _).alloc (by first | (simp; done) | (simp; omega) | omega) _)
  have hs : W.heap.size = w.heap.size + 3 := by rw [← hW]; simp
  have c0 : Blk W w.heap.size 128 #[.int .i64 k, .int .i64 a, .int .i64 b, .slice A n c] := by rw [← hW]; exact (Below.heap_alloc _ _ _ (by simp; omega)).trans ((Below.heap_alloc _ _ _ (by simp)).trans (Blk.new _ _ _))
  have r0 : Blk W (w.heap.size + 1) 46 #[.int .i64 0, .int .i64 0, .int .i64 0, .slice none 0 0] := by rw [← hW]; exact (Below.heap_alloc _ _ _ (by simp)).trans ((show w.heap.size + 1 = (w.alloc _).heap.size by simp) ▸ Blk.new _ _ _)
  have s0 : Blk W (w.heap.size + 2) 46 #[.int .i64 k, .int .i64 a, .int .i64 b, .slice none 0 0] := by rw [← hW]; exact (show w.heap.size + 2 = ((w.alloc _).alloc _).heap.size by simp) ▸ Blk.new _ _ _
  clear hW
  refine (toIsS_row n zs HZ.out A c W (H1.out.below bW) hn).mono ?_
  rintro e w1 ⟨A1, c1, rfl, row1, hb⟩
  have B1 := Lib.hid (below_chain bW hb)
  have q1 := c0.below hb
  have r1 := r0.below hb
  have s1 := s0.below hb
  have cc0 : w1.cell? ⟨w.heap.size, 0, none⟩ = some (.int .i64 k) := by rw [q1.cell]; rfl
  have cc1 : w1.cell? ⟨w.heap.size, 1, none⟩ = some (.int .i64 a) := by rw [q1.cell]; rfl
  have cc2 : w1.cell? ⟨w.heap.size, 2, none⟩ = some (.int .i64 b) := by rw [q1.cell]; rfl
  have cc3 : w1.cell? ⟨w.heap.size, 3, none⟩ = some (.slice A n c) := by rw [q1.cell]; rfl
  have d0 : w1.cell? ⟨w.heap.size + 2, 0, none⟩ = some (.int .i64 k) := by rw [s1.cell]; rfl
  have d1 : w1.cell? ⟨w.heap.size + 2, 1, none⟩ = some (.int .i64 a) := by rw [s1.cell]; rfl
  have d2 : w1.cell? ⟨w.heap.size + 2, 2, none⟩ = some (.int .i64 b) := by rw [s1.cell]; rfl
  have d3 : w1.cell? ⟨w.heap.size + 2, 3, none⟩ = some (.slice none 0 0) := by rw [s1.cell]; rfl
  have j0 : w1.cell? ⟨w.heap.size + 1, 0, none⟩ = some (.int .i64 0) := by rw [r1.cell]; rfl
  have j1 : w1.cell? ⟨w.heap.size + 1, 1, none⟩ = some (.int .i64 0) := by rw [r1.cell]; rfl
  have j2 : w1.cell? ⟨w.heap.size + 1, 2, none⟩ = some (.int .i64 0) := by rw [r1.cell]; rfl
  have j3 : w1.cell? ⟨w.heap.size + 1, 3, none⟩ = some (.slice none 0 0) := by rw [r1.cell]; rfl
  have f0 := s1.frozen 0
  have g0 := r1.frozen 0
  have f1 := s1.frozen 1
  have g1 := r1.frozen 1
  have f2 := s1.frozen 2
  have g2 := r1.frozen 2
  have f3 := s1.frozen 3
  have g3 := r1.frozen 3
  have R1 := Lib.hid r1
  have O1 := Lib.hid row1
  have HS := Lib.hid hs
  clear hb bW r0 s0 r1 s1 c0 q1 row1 hs
  go_wp2_with fail
  generalize hWf : (((((w1.setCell _ _).setCell _ _).setCell _ _).setCell _ _).setCell _ _) = Wf
  have bf : Blk Wf (w.heap.size + 1) 46 #[.int .i64 k, .int .i64 a, .int .i64 b, .slice A1 n c1] := by
    rw [← hWf]
    exact (((((R1.out.other (by first | (simp; done) | (simp; omega) | omega) _).put 0 _).put 1 _).put 2 _).put 3 _)
  have hb : Below w.heap.size w Wf := by
    rw [← hWf]
    exact (((((B1.out.setCell (by first | (simp; done) | (simp; omega) | omega) _).setCell (by first | (simp; done) | (simp; omega) | omega) _).setCell (by first | (simp; done) | (simp; omega) | omega) _).setCell (by first | (simp; done) | (simp; omega) | omega) _).setCell (by first | (simp; done) | (simp; omega) | omega) _)
  have ho : Wf.ownsRow w.heap.size 3 1 (.slice A1 n c1) n (isCells zs) := by
    have hs := HS.out
    rw [← hWf]
    exact own_base ((own_set (own_set (own_set (own_set (own_set O1.out.own _ (by first | (simp; done) | (simp; omega) | omega)) _ (by first | (simp; done) | (simp; omega) | omega)) _ (by first | (simp; done) | (simp; omega) | omega)) _ (by first | (simp; done) | (simp; omega) | omega)) _ (by first | (simp; done) | (simp; omega) | omega))) (by omega)
  have e0 : Wf.cell? ⟨w.heap.size + 1, 0, none⟩ = some (.int .i64 k) := by rw [bf.cell]; rfl
  have e1 : Wf.cell? ⟨w.heap.size + 1, 1, none⟩ = some (.int .i64 a) := by rw [bf.cell]; rfl
  have e2 : Wf.cell? ⟨w.heap.size + 1, 2, none⟩ = some (.int .i64 b) := by rw [bf.cell]; rfl
  have e3 : Wf.cell? ⟨w.heap.size + 1, 3, none⟩ = some (.slice A1 n c1) := by rw [bf.cell]; rfl
  obtain ⟨A2, c2, he, hr⟩ := row_of ho
  simp only [Value.slice.injEq, true_and] at he
  obtain ⟨rfl, rfl⟩ := he
  exact bodyPost_ret (v := .agg #[.int .i64 k, .int .i64 a, .int .i64 b, .slice A1 n c1]) (by simp [results, Try.results95, go_sem, e0, e1, e2, e3]) rfl ⟨A1, c1, rfl, hr, hb⟩

end Go.Proofs.Ytbbagpnjjjohpaa.hexes

