/-
  Drawn records: the contracts of spec.l05Record, l05Any, l05List and of chapter 5's draws.
-/
import Derived.Test.YtbbagpnjjjohpaaK8
import Derived.Test.YtbbagpnjjjohpaaK32
import Derived.Test.YtbbagpnjjjohpaaK35
import Derived.WalkArith

namespace Go.Proofs.Ytbbagpnjjjohpaa.hexes
open Go.RowKit

/-- How a drawn record ends. -/
def RcEnd (w : World) (c : Nat) (A : Option Addr) (len cap : Nat) (e : Ending) (w' : World) : Prop :=
  ∃ p0 p1 p2 p3 p4 : Int, wfRc (p0, (p1, p2), p3, p4) ∧ e = .returned (.agg #[.int .i64 p0, .int .i64 p1, .int .i64 p2, .int .i64 p3, .int .i64 p4]) ∧ Cursor w' c A len cap ∧ w.grownBy w' (some c)
theorem wf_in64 {x : Int} (h : In64 x) : (Lit.int .i64 x).wf = true := WalkArith.wf_i64 h

set_option maxRecDepth 100000 in
set_option maxHeartbeats 2000000 in
theorem rec_draw (w : World) (c : Nat) (A : Option Addr) (len cap : Nat) (hlen : len ≤ 2097152) (hcur : Cursor w c A len cap) :
    Calls Try.prog 101 #[.pointer (some ⟨c, 0, none⟩)] w (RcEnd w c A len cap) := by
  have hc := hcur.lt
  have HC := Lib.hid hcur
  clear hcur
  go_enter Try.func101, Try.ntmps101
  go_wp2_with fail
  generalize hW : w.alloc _ = W
  have g0 : w.grownBy W none := by rw [← hW]; exact World.grownBy_alloc w _ none
  have b0 : Blk W w.heap.size 51 #[.int .i64 0, .int .i64 0, .int .i64 0, .int .i64 0, .int .i64 0] := by rw [← hW]; exact Blk.new _ _ _
  refine (below_any 5 (by omega) (by omega) W c A len cap hlen (HC.out.grown g0)).mono ?_
  rintro e w1 ⟨p0, hp0, rfl, hc1, g1⟩
  have C1 := Lib.hid hc1
  have G1 := Lib.hid (grown_trans (row := some c) (grown_wide g0) g1)
  have R1 := Lib.hid (b0.grown g1 (by simp; omega))
  clear hc1 g1 b0 g0 hW
  go_wp2_with fail
  refine (stamp_draw w1 c A len cap hlen C1.out).mono ?_
  rintro e w2 ⟨p1, p2, h1, h2, rfl, hc2, g2⟩
  have C2 := Lib.hid hc2
  have G2 := Lib.hid (grown_trans G1.out g2)
  have R2 := Lib.hid (R1.out.grown g2 (by simp; omega))
  have H1 := Lib.hid h1
  have H2 := Lib.hid h2
  clear hc2 g2 G1 R1 C1 h1 h2
  go_wp2_with fail
  refine (below_any 12 (by omega) (by omega) w2 c A len cap hlen C2.out).mono ?_
  rintro e w3 ⟨p3, hp3, rfl, hc3, g3⟩
  have C3 := Lib.hid hc3
  have G3 := Lib.hid (grown_trans G2.out g3)
  have R3 := Lib.hid (R2.out.grown g3 (by simp; omega))
  clear hc3 g3 G2 R2 C2
  go_wp2_with fail
  refine (below_any 40 (by omega) (by omega) w3 c A len cap hlen C3.out).mono ?_
  rintro e w4 ⟨p4, hp4, rfl, hc4, g4⟩
  have C4 := Lib.hid hc4
  have G4 := Lib.hid (grown_trans G3.out g4)
  have R4 := Lib.hid (R3.out.grown g4 (by simp; omega))
  clear hc4 g4 G3 R3 C3
  have e0 : w4.cell? ⟨w.heap.size, 0, none⟩ = some (.int .i64 0) := by rw [R4.out.cell]; rfl
  have e1 : w4.cell? ⟨w.heap.size, 1, none⟩ = some (.int .i64 0) := by rw [R4.out.cell]; rfl
  have e2 : w4.cell? ⟨w.heap.size, 2, none⟩ = some (.int .i64 0) := by rw [R4.out.cell]; rfl
  have e3 : w4.cell? ⟨w.heap.size, 3, none⟩ = some (.int .i64 0) := by rw [R4.out.cell]; rfl
  have e4 : w4.cell? ⟨w.heap.size, 4, none⟩ = some (.int .i64 0) := by rw [R4.out.cell]; rfl
  have f0 := R4.out.frozen 0
  have f1 := R4.out.frozen 1
  have f2 := R4.out.frozen 2
  have f3 := R4.out.frozen 3
  have f4 := R4.out.frozen 4
  have hcl := C4.out.lt
  have hrl := R4.out.lt
  go_wp2_with fail
  generalize hWf : ((((w4.setCell _ _).setCell _ _).setCell _ _).setCell _ _).setCell _ _ = Wf
  have bf : Blk Wf w.heap.size 51 #[.int .i64 (p0 : Int), .int .i64 p1, .int .i64 p2, .int .i64 (p3 : Int), .int .i64 (p4 : Int)] := by rw [← hWf]; exact (((((R4.out.put 0 _).put 1 _).put 2 _).put 3 _).put 4 _)
  have gf : w.grownBy Wf (some c) := by rw [← hWf]; exact (grown_set_new (grown_set_new (grown_set_new (grown_set_new (grown_set_new G4.out (by first | (simp; done) | (simp; omega)) _) (by first | (simp; done) | (simp; omega)) _) (by first | (simp; done) | (simp; omega)) _) (by first | (simp; done) | (simp; omega)) _) (by first | (simp; done) | (simp; omega)) _)
  have kf : Wf.heap[c]? = w4.heap[c]? := by rw [← hWf]; exact ((Below.heap_setCell _ _ _ c (by simp; omega)).trans ((Below.heap_setCell _ _ _ c (by simp; omega)).trans ((Below.heap_setCell _ _ _ c (by simp; omega)).trans ((Below.heap_setCell _ _ _ c (by simp; omega)).trans (Below.heap_setCell _ _ _ c (by simp; omega))))))
  have r0 : Wf.cell? ⟨w.heap.size, 0, none⟩ = some (.int .i64 (p0 : Int)) := by rw [bf.cell]; rfl
  have r1 : Wf.cell? ⟨w.heap.size, 1, none⟩ = some (.int .i64 p1) := by rw [bf.cell]; rfl
  have r2 : Wf.cell? ⟨w.heap.size, 2, none⟩ = some (.int .i64 p2) := by rw [bf.cell]; rfl
  have r3 : Wf.cell? ⟨w.heap.size, 3, none⟩ = some (.int .i64 (p3 : Int)) := by rw [bf.cell]; rfl
  have r4 : Wf.cell? ⟨w.heap.size, 4, none⟩ = some (.int .i64 (p4 : Int)) := by rw [bf.cell]; rfl
  exact bodyPost_ret (v := .agg #[.int .i64 (p0 : Int), .int .i64 p1, .int .i64 p2, .int .i64 (p3 : Int), .int .i64 (p4 : Int)]) (by simp [results, Try.results101, go_sem, r0, r1, r2, r3, r4]) rfl ⟨_, _, _, _, _, ⟨WalkArith.wf_i64 (by dsimp only; omega), wf_in64 H1.out, wf_in64 H2.out, WalkArith.wf_i64 (by dsimp only; omega), WalkArith.wf_i64 (by dsimp only; omega)⟩, rfl, HC.out.back C4.out gf kf, gf⟩

set_option maxRecDepth 100000 in
set_option maxHeartbeats 4000000 in
theorem anyRc_draw (w : World) (c : Nat) (A : Option Addr) (len cap : Nat) (hlen : len ≤ 2097152) (hcur : Cursor w c A len cap) :
    Calls Try.prog 73 #[.pointer (some ⟨c, 0, none⟩)] w (RcEnd w c A len cap) := by
  have hc := hcur.lt
  have HC := Lib.hid hcur
  clear hcur
  go_enter Try.func73, Try.ntmps73
  go_wp2_with fail
  generalize hW : w.alloc _ = W
  have g0 : w.grownBy W none := by rw [← hW]; exact World.grownBy_alloc w _ none
  have b0 : Blk W w.heap.size 51 #[.int .i64 0, .int .i64 0, .int .i64 0, .int .i64 0, .int .i64 0] := by rw [← hW]; exact Blk.new _ _ _
  refine (rec_draw W c A len cap hlen (HC.out.grown g0)).mono ?_
  rintro e w1 ⟨p0, p1, p2, p3, p4, hwf, rfl, hc1, g1⟩
  have C1 := Lib.hid hc1
  have G1 := Lib.hid (grown_trans (row := some c) (grown_wide g0) g1)
  have R1 := Lib.hid (b0.grown g1 (by simp; omega))
  have WF := Lib.hid hwf
  clear hc1 g1 b0 g0 hW hwf
  go_wp2_with fail
  generalize hW2 : w1.alloc _ = W2
  have g2 : w1.grownBy W2 none := by rw [← hW2]; exact World.grownBy_alloc w1 _ none
  have s2 : Blk W2 w1.heap.size 51 #[.int .i64 p0, .int .i64 p1, .int .i64 p2, .int .i64 p3, .int .i64 p4] := by rw [← hW2]; exact Blk.new _ _ _
  have hc1 := C1.out.lt
  have hr1 := R1.out.lt
  have hws := G1.out.size
  refine (below_any 12 (by omega) (by omega) W2 c A len cap hlen (C1.out.grown g2)).mono ?_
  rintro e w2 ⟨n, hn, rfl, hc2, g3⟩
  have S2 := Lib.hid (s2.grown g3 (by simp; omega))
  have R2 := Lib.hid ((R1.out.grown g2 (by simp)).grown g3 (by simp; omega))
  have C2 := Lib.hid hc2
  have G2 := Lib.hid (grown_trans (grown_trans G1.out (grown_wide g2)) g3)
  clear hc2 g3 s2 g2 hW2 C1 R1 G1
  by_cases n0 : n = 0
  · subst n0
    go_wp2_with fail
    generalize hW3 : w2.alloc _ = W3
    have g3 : w2.grownBy W3 none := by rw [← hW3]; exact World.grownBy_alloc w2 _ none
    have p3' : Blk W3 w2.heap.size 3 (([-1, 7, 8] : List Int).map fun n => Value.int .i64 n).toArray := by rw [← hW3]; exact Blk.new _ _ _
    have hs2 := S2.out.lt
    have hc2 := C2.out.lt
    refine (pickInt_any W3 c w2.heap.size A len cap 3 [-1, 7, 8] rfl (by omega) (by omega) hlen (C2.out.grown g3) (by omega) p3').mono ?_
    rintro e w4 ⟨v, hv, rfl, hc4, g4⟩
    have WV := Lib.hid (show (Lit.int .i64 v).wf = true by
      simp only [List.mem_cons, List.not_mem_nil, or_false] at hv
      rcases hv with rfl | rfl | rfl <;> rfl)
    have S4 := Lib.hid ((S2.out.grown g3 (by simp)).grown g4 (by simp; omega))
    have R4 := Lib.hid ((R2.out.grown g3 (by simp)).grown g4 (by simp; omega))
    have C4 := Lib.hid hc4
    have G4 := Lib.hid (grown_trans (grown_trans G2.out (grown_wide g3)) g4)
    clear hc4 g4 g3 p3' hW3 hv hs2 hc2 S2 R2 C2 G2
    have e0 : w4.cell? ⟨w.heap.size, 0, none⟩ = some (.int .i64 0) := by rw [R4.out.cell]; rfl
    have e1 : w4.cell? ⟨w.heap.size, 1, none⟩ = some (.int .i64 0) := by rw [R4.out.cell]; rfl
    have e2 : w4.cell? ⟨w.heap.size, 2, none⟩ = some (.int .i64 0) := by rw [R4.out.cell]; rfl
    have e3 : w4.cell? ⟨w.heap.size, 3, none⟩ = some (.int .i64 0) := by rw [R4.out.cell]; rfl
    have e4 : w4.cell? ⟨w.heap.size, 4, none⟩ = some (.int .i64 0) := by rw [R4.out.cell]; rfl
    have f0 := R4.out.frozen 0
    have f1 := R4.out.frozen 1
    have f2 := R4.out.frozen 2
    have f3 := R4.out.frozen 3
    have f4 := R4.out.frozen 4
    have s0 : w4.cell? ⟨w1.heap.size, 0, none⟩ = some (.int .i64 p0) := by rw [S4.out.cell]; rfl
    have s1 : w4.cell? ⟨w1.heap.size, 1, none⟩ = some (.int .i64 p1) := by rw [S4.out.cell]; rfl
    have s2 : w4.cell? ⟨w1.heap.size, 2, none⟩ = some (.int .i64 p2) := by rw [S4.out.cell]; rfl
    have s3 : w4.cell? ⟨w1.heap.size, 3, none⟩ = some (.int .i64 p3) := by rw [S4.out.cell]; rfl
    have s4 : w4.cell? ⟨w1.heap.size, 4, none⟩ = some (.int .i64 p4) := by rw [S4.out.cell]; rfl
    have g0 := S4.out.frozen 0
    have g1 := S4.out.frozen 1
    have g2 := S4.out.frozen 2
    have g3 := S4.out.frozen 3
    have g4 := S4.out.frozen 4
    have hcl := C4.out.lt
    have hrl := R4.out.lt
    have hsl := S4.out.lt
    go_wp2_with fail
    generalize hWf : (((((w4.setCell _ _).setCell _ _).setCell _ _).setCell _ _).setCell _ _).setCell _ _ = Wf
    have bf : Blk Wf w.heap.size 51 #[.int .i64 v, .int .i64 p1, .int .i64 p2, .int .i64 p3, .int .i64 p4] := by rw [← hWf]; exact ((((((R4.out.other (by simp; omega) _).put 0 _).put 1 _).put 2 _).put 3 _).put 4 _)
    have gf : w.grownBy Wf (some c) := by rw [← hWf]; exact (grown_set_new (grown_set_new (grown_set_new (grown_set_new (grown_set_new (grown_set_new G4.out (by first | (simp; done) | (simp; omega)) _) (by first | (simp; done) | (simp; omega)) _) (by first | (simp; done) | (simp; omega)) _) (by first | (simp; done) | (simp; omega)) _) (by first | (simp; done) | (simp; omega)) _) (by first | (simp; done) | (simp; omega)) _)
    have kf : Wf.heap[c]? = w4.heap[c]? := by rw [← hWf]; exact ((Below.heap_setCell _ _ _ c (by simp; omega)).trans ((Below.heap_setCell _ _ _ c (by simp; omega)).trans ((Below.heap_setCell _ _ _ c (by simp; omega)).trans ((Below.heap_setCell _ _ _ c (by simp; omega)).trans ((Below.heap_setCell _ _ _ c (by simp; omega)).trans (Below.heap_setCell _ _ _ c (by simp; omega)))))))
    have r0 : Wf.cell? ⟨w.heap.size, 0, none⟩ = some (.int .i64 v) := by rw [bf.cell]; rfl
    have r1 : Wf.cell? ⟨w.heap.size, 1, none⟩ = some (.int .i64 p1) := by rw [bf.cell]; rfl
    have r2 : Wf.cell? ⟨w.heap.size, 2, none⟩ = some (.int .i64 p2) := by rw [bf.cell]; rfl
    have r3 : Wf.cell? ⟨w.heap.size, 3, none⟩ = some (.int .i64 p3) := by rw [bf.cell]; rfl
    have r4 : Wf.cell? ⟨w.heap.size, 4, none⟩ = some (.int .i64 p4) := by rw [bf.cell]; rfl
    exact bodyPost_ret (v := .agg #[.int .i64 v, .int .i64 p1, .int .i64 p2, .int .i64 p3, .int .i64 p4]) (by simp [results, Try.results73, go_sem, r0, r1, r2, r3, r4]) rfl ⟨v, p1, p2, p3, p4, ⟨WV.out, WF.out.2.1, WF.out.2.2.1, WF.out.2.2.2.1, WF.out.2.2.2.2⟩, rfl, HC.out.back C4.out gf kf, gf⟩
  · by_cases n1 : n = 1
    · subst n1
      go_wp2_with fail
      refine (any_draw w2 c A len cap hlen C2.out).mono ?_
      rintro e w4 ⟨x, y, hx, hy, rfl, hc4, g4⟩
      have hs2 := S2.out.lt
      have WX := Lib.hid (wf_in64 hx)
      have WY := Lib.hid (wf_in64 hy)
      have S4 := Lib.hid (S2.out.grown g4 (by simp; omega))
      have R4 := Lib.hid (R2.out.grown g4 (by simp; omega))
      have C4 := Lib.hid hc4
      have G4 := Lib.hid (grown_trans G2.out g4)
      clear hc4 g4 hx hy hs2 S2 R2 C2 G2
      have e0 : w4.cell? ⟨w.heap.size, 0, none⟩ = some (.int .i64 0) := by rw [R4.out.cell]; rfl
      have e1 : w4.cell? ⟨w.heap.size, 1, none⟩ = some (.int .i64 0) := by rw [R4.out.cell]; rfl
      have e2 : w4.cell? ⟨w.heap.size, 2, none⟩ = some (.int .i64 0) := by rw [R4.out.cell]; rfl
      have e3 : w4.cell? ⟨w.heap.size, 3, none⟩ = some (.int .i64 0) := by rw [R4.out.cell]; rfl
      have e4 : w4.cell? ⟨w.heap.size, 4, none⟩ = some (.int .i64 0) := by rw [R4.out.cell]; rfl
      have f0 := R4.out.frozen 0
      have f1 := R4.out.frozen 1
      have f2 := R4.out.frozen 2
      have f3 := R4.out.frozen 3
      have f4 := R4.out.frozen 4
      have s0 : w4.cell? ⟨w1.heap.size, 0, none⟩ = some (.int .i64 p0) := by rw [S4.out.cell]; rfl
      have s1 : w4.cell? ⟨w1.heap.size, 1, none⟩ = some (.int .i64 p1) := by rw [S4.out.cell]; rfl
      have s2 : w4.cell? ⟨w1.heap.size, 2, none⟩ = some (.int .i64 p2) := by rw [S4.out.cell]; rfl
      have s3 : w4.cell? ⟨w1.heap.size, 3, none⟩ = some (.int .i64 p3) := by rw [S4.out.cell]; rfl
      have s4 : w4.cell? ⟨w1.heap.size, 4, none⟩ = some (.int .i64 p4) := by rw [S4.out.cell]; rfl
      have g0 := S4.out.frozen 0
      have g1 := S4.out.frozen 1
      have g2 := S4.out.frozen 2
      have g3 := S4.out.frozen 3
      have g4 := S4.out.frozen 4
      have hcl := C4.out.lt
      have hrl := R4.out.lt
      have hsl := S4.out.lt
      go_wp2_with fail
      generalize hWf : ((((((w4.setCell _ _).setCell _ _).setCell _ _).setCell _ _).setCell _ _).setCell _ _).setCell _ _ = Wf
      have bf : Blk Wf w.heap.size 51 #[.int .i64 p0, .int .i64 x, .int .i64 y, .int .i64 p3, .int .i64 p4] := by rw [← hWf]; exact (((((((R4.out.other (by simp; omega) _).other (by simp; omega) _).put 0 _).put 1 _).put 2 _).put 3 _).put 4 _)
      have gf : w.grownBy Wf (some c) := by rw [← hWf]; exact (grown_set_new (grown_set_new (grown_set_new (grown_set_new (grown_set_new (grown_set_new (grown_set_new G4.out (by first | (simp; done) | (simp; omega)) _) (by first | (simp; done) | (simp; omega)) _) (by first | (simp; done) | (simp; omega)) _) (by first | (simp; done) | (simp; omega)) _) (by first | (simp; done) | (simp; omega)) _) (by first | (simp; done) | (simp; omega)) _) (by first | (simp; done) | (simp; omega)) _)
      have kf : Wf.heap[c]? = w4.heap[c]? := by rw [← hWf]; exact ((Below.heap_setCell _ _ _ c (by simp; omega)).trans ((Below.heap_setCell _ _ _ c (by simp; omega)).trans ((Below.heap_setCell _ _ _ c (by simp; omega)).trans ((Below.heap_setCell _ _ _ c (by simp; omega)).trans ((Below.heap_setCell _ _ _ c (by simp; omega)).trans ((Below.heap_setCell _ _ _ c (by simp; omega)).trans (Below.heap_setCell _ _ _ c (by simp; omega))))))))
      have r0 : Wf.cell? ⟨w.heap.size, 0, none⟩ = some (.int .i64 p0) := by rw [bf.cell]; rfl
      have r1 : Wf.cell? ⟨w.heap.size, 1, none⟩ = some (.int .i64 x) := by rw [bf.cell]; rfl
      have r2 : Wf.cell? ⟨w.heap.size, 2, none⟩ = some (.int .i64 y) := by rw [bf.cell]; rfl
      have r3 : Wf.cell? ⟨w.heap.size, 3, none⟩ = some (.int .i64 p3) := by rw [bf.cell]; rfl
      have r4 : Wf.cell? ⟨w.heap.size, 4, none⟩ = some (.int .i64 p4) := by rw [bf.cell]; rfl
      exact bodyPost_ret (v := .agg #[.int .i64 p0, .int .i64 x, .int .i64 y, .int .i64 p3, .int .i64 p4]) (by simp [results, Try.results73, go_sem, r0, r1, r2, r3, r4]) rfl ⟨p0, x, y, p3, p4, ⟨WF.out.1, WX.out, WY.out, WF.out.2.2.2.1, WF.out.2.2.2.2⟩, rfl, HC.out.back C4.out gf kf, gf⟩
    · by_cases n2 : n = 2
      · subst n2
        go_wp2_with fail
        generalize hW3 : w2.alloc _ = W3
        have g3 : w2.grownBy W3 none := by rw [← hW3]; exact World.grownBy_alloc w2 _ none
        have p3' : Blk W3 w2.heap.size 3 (([-1, 99, 100, -9223372036854775808] : List Int).map fun n => Value.int .i64 n).toArray := by rw [← hW3]; exact Blk.new _ _ _
        have hs2 := S2.out.lt
        have hc2 := C2.out.lt
        refine (pickInt_any W3 c w2.heap.size A len cap 4 [-1, 99, 100, -9223372036854775808] rfl (by omega) (by omega) hlen (C2.out.grown g3) (by omega) p3').mono ?_
        rintro e w4 ⟨v, hv, rfl, hc4, g4⟩
        have WV := Lib.hid (show (Lit.int .i64 v).wf = true by
          simp only [List.mem_cons, List.not_mem_nil, or_false] at hv
          rcases hv with rfl | rfl | rfl | rfl <;> rfl)
        have S4 := Lib.hid ((S2.out.grown g3 (by simp)).grown g4 (by simp; omega))
        have R4 := Lib.hid ((R2.out.grown g3 (by simp)).grown g4 (by simp; omega))
        have C4 := Lib.hid hc4
        have G4 := Lib.hid (grown_trans (grown_trans G2.out (grown_wide g3)) g4)
        clear hc4 g4 g3 p3' hW3 hv hs2 hc2 S2 R2 C2 G2
        have e0 : w4.cell? ⟨w.heap.size, 0, none⟩ = some (.int .i64 0) := by rw [R4.out.cell]; rfl
        have e1 : w4.cell? ⟨w.heap.size, 1, none⟩ = some (.int .i64 0) := by rw [R4.out.cell]; rfl
        have e2 : w4.cell? ⟨w.heap.size, 2, none⟩ = some (.int .i64 0) := by rw [R4.out.cell]; rfl
        have e3 : w4.cell? ⟨w.heap.size, 3, none⟩ = some (.int .i64 0) := by rw [R4.out.cell]; rfl
        have e4 : w4.cell? ⟨w.heap.size, 4, none⟩ = some (.int .i64 0) := by rw [R4.out.cell]; rfl
        have f0 := R4.out.frozen 0
        have f1 := R4.out.frozen 1
        have f2 := R4.out.frozen 2
        have f3 := R4.out.frozen 3
        have f4 := R4.out.frozen 4
        have s0 : w4.cell? ⟨w1.heap.size, 0, none⟩ = some (.int .i64 p0) := by rw [S4.out.cell]; rfl
        have s1 : w4.cell? ⟨w1.heap.size, 1, none⟩ = some (.int .i64 p1) := by rw [S4.out.cell]; rfl
        have s2 : w4.cell? ⟨w1.heap.size, 2, none⟩ = some (.int .i64 p2) := by rw [S4.out.cell]; rfl
        have s3 : w4.cell? ⟨w1.heap.size, 3, none⟩ = some (.int .i64 p3) := by rw [S4.out.cell]; rfl
        have s4 : w4.cell? ⟨w1.heap.size, 4, none⟩ = some (.int .i64 p4) := by rw [S4.out.cell]; rfl
        have g0 := S4.out.frozen 0
        have g1 := S4.out.frozen 1
        have g2 := S4.out.frozen 2
        have g3 := S4.out.frozen 3
        have g4 := S4.out.frozen 4
        have hcl := C4.out.lt
        have hrl := R4.out.lt
        have hsl := S4.out.lt
        go_wp2_with fail
        generalize hWf : (((((w4.setCell _ _).setCell _ _).setCell _ _).setCell _ _).setCell _ _).setCell _ _ = Wf
        have bf : Blk Wf w.heap.size 51 #[.int .i64 p0, .int .i64 p1, .int .i64 p2, .int .i64 v, .int .i64 p4] := by rw [← hWf]; exact ((((((R4.out.other (by simp; omega) _).put 0 _).put 1 _).put 2 _).put 3 _).put 4 _)
        have gf : w.grownBy Wf (some c) := by rw [← hWf]; exact (grown_set_new (grown_set_new (grown_set_new (grown_set_new (grown_set_new (grown_set_new G4.out (by first | (simp; done) | (simp; omega)) _) (by first | (simp; done) | (simp; omega)) _) (by first | (simp; done) | (simp; omega)) _) (by first | (simp; done) | (simp; omega)) _) (by first | (simp; done) | (simp; omega)) _) (by first | (simp; done) | (simp; omega)) _)
        have kf : Wf.heap[c]? = w4.heap[c]? := by rw [← hWf]; exact ((Below.heap_setCell _ _ _ c (by simp; omega)).trans ((Below.heap_setCell _ _ _ c (by simp; omega)).trans ((Below.heap_setCell _ _ _ c (by simp; omega)).trans ((Below.heap_setCell _ _ _ c (by simp; omega)).trans ((Below.heap_setCell _ _ _ c (by simp; omega)).trans (Below.heap_setCell _ _ _ c (by simp; omega)))))))
        have r0 : Wf.cell? ⟨w.heap.size, 0, none⟩ = some (.int .i64 p0) := by rw [bf.cell]; rfl
        have r1 : Wf.cell? ⟨w.heap.size, 1, none⟩ = some (.int .i64 p1) := by rw [bf.cell]; rfl
        have r2 : Wf.cell? ⟨w.heap.size, 2, none⟩ = some (.int .i64 p2) := by rw [bf.cell]; rfl
        have r3 : Wf.cell? ⟨w.heap.size, 3, none⟩ = some (.int .i64 v) := by rw [bf.cell]; rfl
        have r4 : Wf.cell? ⟨w.heap.size, 4, none⟩ = some (.int .i64 p4) := by rw [bf.cell]; rfl
        exact bodyPost_ret (v := .agg #[.int .i64 p0, .int .i64 p1, .int .i64 p2, .int .i64 v, .int .i64 p4]) (by simp [results, Try.results73, go_sem, r0, r1, r2, r3, r4]) rfl ⟨p0, p1, p2, v, p4, ⟨WF.out.1, WF.out.2.1, WF.out.2.2.1, WV.out, WF.out.2.2.2.2⟩, rfl, HC.out.back C4.out gf kf, gf⟩
      · by_cases n3 : n = 3
        · subst n3
          go_wp2_with fail
          generalize hW3 : w2.alloc _ = W3
          have g3 : w2.grownBy W3 none := by rw [← hW3]; exact World.grownBy_alloc w2 _ none
          have p3' : Blk W3 w2.heap.size 3 (([-1, 999, 1000, 9223372036854775807] : List Int).map fun n => Value.int .i64 n).toArray := by rw [← hW3]; exact Blk.new _ _ _
          have hs2 := S2.out.lt
          have hc2 := C2.out.lt
          refine (pickInt_any W3 c w2.heap.size A len cap 4 [-1, 999, 1000, 9223372036854775807] rfl (by omega) (by omega) hlen (C2.out.grown g3) (by omega) p3').mono ?_
          rintro e w4 ⟨v, hv, rfl, hc4, g4⟩
          have WV := Lib.hid (show (Lit.int .i64 v).wf = true by
            simp only [List.mem_cons, List.not_mem_nil, or_false] at hv
            rcases hv with rfl | rfl | rfl | rfl <;> rfl)
          have S4 := Lib.hid ((S2.out.grown g3 (by simp)).grown g4 (by simp; omega))
          have R4 := Lib.hid ((R2.out.grown g3 (by simp)).grown g4 (by simp; omega))
          have C4 := Lib.hid hc4
          have G4 := Lib.hid (grown_trans (grown_trans G2.out (grown_wide g3)) g4)
          clear hc4 g4 g3 p3' hW3 hv hs2 hc2 S2 R2 C2 G2
          have e0 : w4.cell? ⟨w.heap.size, 0, none⟩ = some (.int .i64 0) := by rw [R4.out.cell]; rfl
          have e1 : w4.cell? ⟨w.heap.size, 1, none⟩ = some (.int .i64 0) := by rw [R4.out.cell]; rfl
          have e2 : w4.cell? ⟨w.heap.size, 2, none⟩ = some (.int .i64 0) := by rw [R4.out.cell]; rfl
          have e3 : w4.cell? ⟨w.heap.size, 3, none⟩ = some (.int .i64 0) := by rw [R4.out.cell]; rfl
          have e4 : w4.cell? ⟨w.heap.size, 4, none⟩ = some (.int .i64 0) := by rw [R4.out.cell]; rfl
          have f0 := R4.out.frozen 0
          have f1 := R4.out.frozen 1
          have f2 := R4.out.frozen 2
          have f3 := R4.out.frozen 3
          have f4 := R4.out.frozen 4
          have s0 : w4.cell? ⟨w1.heap.size, 0, none⟩ = some (.int .i64 p0) := by rw [S4.out.cell]; rfl
          have s1 : w4.cell? ⟨w1.heap.size, 1, none⟩ = some (.int .i64 p1) := by rw [S4.out.cell]; rfl
          have s2 : w4.cell? ⟨w1.heap.size, 2, none⟩ = some (.int .i64 p2) := by rw [S4.out.cell]; rfl
          have s3 : w4.cell? ⟨w1.heap.size, 3, none⟩ = some (.int .i64 p3) := by rw [S4.out.cell]; rfl
          have s4 : w4.cell? ⟨w1.heap.size, 4, none⟩ = some (.int .i64 p4) := by rw [S4.out.cell]; rfl
          have g0 := S4.out.frozen 0
          have g1 := S4.out.frozen 1
          have g2 := S4.out.frozen 2
          have g3 := S4.out.frozen 3
          have g4 := S4.out.frozen 4
          have hcl := C4.out.lt
          have hrl := R4.out.lt
          have hsl := S4.out.lt
          go_wp2_with fail
          generalize hWf : (((((w4.setCell _ _).setCell _ _).setCell _ _).setCell _ _).setCell _ _).setCell _ _ = Wf
          have bf : Blk Wf w.heap.size 51 #[.int .i64 p0, .int .i64 p1, .int .i64 p2, .int .i64 p3, .int .i64 v] := by rw [← hWf]; exact ((((((R4.out.other (by simp; omega) _).put 0 _).put 1 _).put 2 _).put 3 _).put 4 _)
          have gf : w.grownBy Wf (some c) := by rw [← hWf]; exact (grown_set_new (grown_set_new (grown_set_new (grown_set_new (grown_set_new (grown_set_new G4.out (by first | (simp; done) | (simp; omega)) _) (by first | (simp; done) | (simp; omega)) _) (by first | (simp; done) | (simp; omega)) _) (by first | (simp; done) | (simp; omega)) _) (by first | (simp; done) | (simp; omega)) _) (by first | (simp; done) | (simp; omega)) _)
          have kf : Wf.heap[c]? = w4.heap[c]? := by rw [← hWf]; exact ((Below.heap_setCell _ _ _ c (by simp; omega)).trans ((Below.heap_setCell _ _ _ c (by simp; omega)).trans ((Below.heap_setCell _ _ _ c (by simp; omega)).trans ((Below.heap_setCell _ _ _ c (by simp; omega)).trans ((Below.heap_setCell _ _ _ c (by simp; omega)).trans (Below.heap_setCell _ _ _ c (by simp; omega)))))))
          have r0 : Wf.cell? ⟨w.heap.size, 0, none⟩ = some (.int .i64 p0) := by rw [bf.cell]; rfl
          have r1 : Wf.cell? ⟨w.heap.size, 1, none⟩ = some (.int .i64 p1) := by rw [bf.cell]; rfl
          have r2 : Wf.cell? ⟨w.heap.size, 2, none⟩ = some (.int .i64 p2) := by rw [bf.cell]; rfl
          have r3 : Wf.cell? ⟨w.heap.size, 3, none⟩ = some (.int .i64 p3) := by rw [bf.cell]; rfl
          have r4 : Wf.cell? ⟨w.heap.size, 4, none⟩ = some (.int .i64 v) := by rw [bf.cell]; rfl
          exact bodyPost_ret (v := .agg #[.int .i64 p0, .int .i64 p1, .int .i64 p2, .int .i64 p3, .int .i64 v]) (by simp [results, Try.results73, go_sem, r0, r1, r2, r3, r4]) rfl ⟨p0, p1, p2, p3, v, ⟨WF.out.1, WF.out.2.1, WF.out.2.2.1, WF.out.2.2.2.1, WV.out⟩, rfl, HC.out.back C4.out gf kf, gf⟩
        · have q0 : ((n : Int) == 0) = false := by simp; omega
          have q1 : ((n : Int) == 1) = false := by simp; omega
          have q2 : ((n : Int) == 2) = false := by simp; omega
          have q3 : ((n : Int) == 3) = false := by simp; omega
          obtain ⟨w4, hw4⟩ : ∃ w4, w4 = w2 := ⟨_, rfl⟩
          subst hw4
          have S4 := S2
          have R4 := R2
          have C4 := C2
          have G4 := G2
          clear S2 R2 C2 G2
          have e0 : w4.cell? ⟨w.heap.size, 0, none⟩ = some (.int .i64 0) := by rw [R4.out.cell]; rfl
          have e1 : w4.cell? ⟨w.heap.size, 1, none⟩ = some (.int .i64 0) := by rw [R4.out.cell]; rfl
          have e2 : w4.cell? ⟨w.heap.size, 2, none⟩ = some (.int .i64 0) := by rw [R4.out.cell]; rfl
          have e3 : w4.cell? ⟨w.heap.size, 3, none⟩ = some (.int .i64 0) := by rw [R4.out.cell]; rfl
          have e4 : w4.cell? ⟨w.heap.size, 4, none⟩ = some (.int .i64 0) := by rw [R4.out.cell]; rfl
          have f0 := R4.out.frozen 0
          have f1 := R4.out.frozen 1
          have f2 := R4.out.frozen 2
          have f3 := R4.out.frozen 3
          have f4 := R4.out.frozen 4
          have s0 : w4.cell? ⟨w1.heap.size, 0, none⟩ = some (.int .i64 p0) := by rw [S4.out.cell]; rfl
          have s1 : w4.cell? ⟨w1.heap.size, 1, none⟩ = some (.int .i64 p1) := by rw [S4.out.cell]; rfl
          have s2 : w4.cell? ⟨w1.heap.size, 2, none⟩ = some (.int .i64 p2) := by rw [S4.out.cell]; rfl
          have s3 : w4.cell? ⟨w1.heap.size, 3, none⟩ = some (.int .i64 p3) := by rw [S4.out.cell]; rfl
          have s4 : w4.cell? ⟨w1.heap.size, 4, none⟩ = some (.int .i64 p4) := by rw [S4.out.cell]; rfl
          have g0 := S4.out.frozen 0
          have g1 := S4.out.frozen 1
          have g2 := S4.out.frozen 2
          have g3 := S4.out.frozen 3
          have g4 := S4.out.frozen 4
          have hcl := C4.out.lt
          have hrl := R4.out.lt
          have hsl := S4.out.lt
          go_wp2_with fail
          generalize hWf : ((((w4.setCell _ _).setCell _ _).setCell _ _).setCell _ _).setCell _ _ = Wf
          have bf : Blk Wf w.heap.size 51 #[.int .i64 p0, .int .i64 p1, .int .i64 p2, .int .i64 p3, .int .i64 p4] := by rw [← hWf]; exact (((((R4.out.put 0 _).put 1 _).put 2 _).put 3 _).put 4 _)
          have gf : w.grownBy Wf (some c) := by rw [← hWf]; exact (grown_set_new (grown_set_new (grown_set_new (grown_set_new (grown_set_new G4.out (by first | (simp; done) | (simp; omega)) _) (by first | (simp; done) | (simp; omega)) _) (by first | (simp; done) | (simp; omega)) _) (by first | (simp; done) | (simp; omega)) _) (by first | (simp; done) | (simp; omega)) _)
          have kf : Wf.heap[c]? = w4.heap[c]? := by rw [← hWf]; exact ((Below.heap_setCell _ _ _ c (by simp; omega)).trans ((Below.heap_setCell _ _ _ c (by simp; omega)).trans ((Below.heap_setCell _ _ _ c (by simp; omega)).trans ((Below.heap_setCell _ _ _ c (by simp; omega)).trans (Below.heap_setCell _ _ _ c (by simp; omega))))))
          have r0 : Wf.cell? ⟨w.heap.size, 0, none⟩ = some (.int .i64 p0) := by rw [bf.cell]; rfl
          have r1 : Wf.cell? ⟨w.heap.size, 1, none⟩ = some (.int .i64 p1) := by rw [bf.cell]; rfl
          have r2 : Wf.cell? ⟨w.heap.size, 2, none⟩ = some (.int .i64 p2) := by rw [bf.cell]; rfl
          have r3 : Wf.cell? ⟨w.heap.size, 3, none⟩ = some (.int .i64 p3) := by rw [bf.cell]; rfl
          have r4 : Wf.cell? ⟨w.heap.size, 4, none⟩ = some (.int .i64 p4) := by rw [bf.cell]; rfl
          exact bodyPost_ret (v := .agg #[.int .i64 p0, .int .i64 p1, .int .i64 p2, .int .i64 p3, .int .i64 p4]) (by simp [results, Try.results73, go_sem, r0, r1, r2, r3, r4]) rfl ⟨p0, p1, p2, p3, p4, ⟨WF.out.1, WF.out.2.1, WF.out.2.2.1, WF.out.2.2.2.1, WF.out.2.2.2.2⟩, rfl, HC.out.back C4.out gf kf, gf⟩

/-- A list of records, not long. -/
structure RTab (w : World) (A : Option Addr) (n c : Nat) (zs : List Rc) : Prop where
  few : n ≤ 6
  len : zs.length = n
  nil : A = none → c = 0
  rcs : Rcs w A zs
  wf : ∀ z ∈ zs, wfRc z
theorem RTab.below {w w' : World} {A : Option Addr} {n c : Nat} {zs : List Rc} (h : RTab w A n c zs) (hb : Below w.heap.size w w') : RTab w' A n c zs := ⟨h.few, h.len, h.nil, h.rcs.below hb, h.wf⟩
theorem RTab.of_own {w : World} {B n : Nat} {v : Value} {zs : List Rc} (h : w.ownsRow B 51 5 v n (rcCells zs)) (hn : n ≤ 6) (hw : ∀ z ∈ zs, wfRc z) : ∃ A n' c, v = .slice A n' c ∧ RTab w A n' c zs := by
  obtain ⟨A, c, rfl, hl, hs⟩ := Rcs.of_own h
  exact ⟨A, n, c, rfl, hn, hl, own_nil h, hs, hw⟩

end Go.Proofs.Ytbbagpnjjjohpaa.hexes

