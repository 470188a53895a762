/-
  Records: the contracts of the laws' eqRecord and toRecord.
-/
import Derived.Test.YtidpjpakodndhaaRcList
import Derived.Test.YtidpjpakodndhaaCtBase
namespace Go.Proofs.Ytidpjpakodndhaa.hexes
open Go.RowKit

set_option maxRecDepth 100000 in
theorem eqRecord_any (p0 p1 p2 p3 p4 q0 q1 q2 q3 q4 : Int) (w : World) :
    Calls Try.prog 39 #[.agg #[.int .i64 p0, .int .i64 p1, .int .i64 p2, .int .i64 p3, .int .i64 p4], .agg #[.int .i64 q0, .int .i64 q1, .int .i64 q2, .int .i64 q3, .int .i64 q4]] w fun e w' => e = .returned (.bool (decide (p0 = q0 ∧ p1 = q1 ∧ p2 = q2 ∧ p3 = q3 ∧ p4 = q4))) ∧ Below w.heap.size w w' := by
  by_cases h0 : p0 = q0
  · have n0 : (p0 != q0) = false := by simpa using h0
    by_cases h1 : p1 = q1 ∧ p2 = q2
    · have E := Lib.hid (fun W => eqSt_is (decide_eq_true h1) W)
      by_cases h3 : p3 = q3
      · have n3 : (p3 != q3) = false := by simpa using h3
        by_cases h4 : p4 = q4
        · have n4 : (p4 != q4) = false := by simpa using h4
          rw [decide_eq_true (⟨h0, h1.1, h1.2, h3, h4⟩ : p0 = q0 ∧ p1 = q1 ∧ p2 = q2 ∧ p3 = q3 ∧ p4 = q4)]
          clear h0 h1 h3 h4
          go_enter Try.func39, Try.ntmps39
          go_wp2_with fail
          generalize hW : (w.alloc _).alloc _ = W
          have bW : Below w.heap.size w W := by rw [← hW]; exact ((Below.refl _ _).alloc (by simp) _).alloc (by simp) _
          have c3 : W.cell? ⟨w.heap.size, 3, none⟩ = some (.int .i64 p3) := by rw [← hW]; exact alloc_keep (by simp)
          have c4 : W.cell? ⟨w.heap.size, 4, none⟩ = some (.int .i64 p4) := by rw [← hW]; exact alloc_keep (by simp)
          have d3 : W.cell? ⟨w.heap.size + 1, 3, none⟩ = some (.int .i64 q3) := by rw [← hW]; simp
          have d4 : W.cell? ⟨w.heap.size + 1, 4, none⟩ = some (.int .i64 q4) := by rw [← hW]; simp
          clear hW
          refine (E.out _).mono ?_
          rintro e w1 ⟨rfl, hb⟩
          have B1 := Lib.hid (below_chain bW hb)
          replace c3 := below_keep hb c3
          replace c4 := below_keep hb c4
          replace d3 := below_keep hb d3
          replace d4 := below_keep hb d4
          clear hb bW E
          go_wp2
          go_ret
          exact ⟨rfl, B1.out⟩
        · have n4 : (p4 != q4) = true := by simpa using h4
          rw [decide_eq_false (fun h : p0 = q0 ∧ p1 = q1 ∧ p2 = q2 ∧ p3 = q3 ∧ p4 = q4 => h4 h.2.2.2.2)]
          clear h0 h1 h3 h4
          go_enter Try.func39, Try.ntmps39
          go_wp2_with fail
          generalize hW : (w.alloc _).alloc _ = W
          have bW : Below w.heap.size w W := by rw [← hW]; exact ((Below.refl _ _).alloc (by simp) _).alloc (by simp) _
          have c3 : W.cell? ⟨w.heap.size, 3, none⟩ = some (.int .i64 p3) := by rw [← hW]; exact alloc_keep (by simp)
          have c4 : W.cell? ⟨w.heap.size, 4, none⟩ = some (.int .i64 p4) := by rw [← hW]; exact alloc_keep (by simp)
          have d3 : W.cell? ⟨w.heap.size + 1, 3, none⟩ = some (.int .i64 q3) := by rw [← hW]; simp
          have d4 : W.cell? ⟨w.heap.size + 1, 4, none⟩ = some (.int .i64 q4) := by rw [← hW]; simp
          clear hW
          refine (E.out _).mono ?_
          rintro e w1 ⟨rfl, hb⟩
          have B1 := Lib.hid (below_chain bW hb)
          replace c3 := below_keep hb c3
          replace c4 := below_keep hb c4
          replace d3 := below_keep hb d3
          replace d4 := below_keep hb d4
          clear hb bW E
          go_wp2
          go_ret
          exact ⟨rfl, B1.out⟩
      · have n3 : (p3 != q3) = true := by simpa using h3
        rw [decide_eq_false (fun h : p0 = q0 ∧ p1 = q1 ∧ p2 = q2 ∧ p3 = q3 ∧ p4 = q4 => h3 h.2.2.2.1)]
        clear h0 h1 h3
        go_enter Try.func39, Try.ntmps39
        go_wp2_with fail
        generalize hW : (w.alloc _).alloc _ = W
        have bW : Below w.heap.size w W := by rw [← hW]; exact ((Below.refl _ _).alloc (by simp) _).alloc (by simp) _
        have c3 : W.cell? ⟨w.heap.size, 3, none⟩ = some (.int .i64 p3) := by rw [← hW]; exact alloc_keep (by simp)
        have c4 : W.cell? ⟨w.heap.size, 4, none⟩ = some (.int .i64 p4) := by rw [← hW]; exact alloc_keep (by simp)
        have d3 : W.cell? ⟨w.heap.size + 1, 3, none⟩ = some (.int .i64 q3) := by rw [← hW]; simp
        have d4 : W.cell? ⟨w.heap.size + 1, 4, none⟩ = some (.int .i64 q4) := by rw [← hW]; simp
        clear hW
        refine (E.out _).mono ?_
        rintro e w1 ⟨rfl, hb⟩
        have B1 := Lib.hid (below_chain bW hb)
        replace c3 := below_keep hb c3
        replace c4 := below_keep hb c4
        replace d3 := below_keep hb d3
        replace d4 := below_keep hb d4
        clear hb bW E
        go_wp2
        go_ret
        exact ⟨rfl, B1.out⟩
    · have E := Lib.hid (fun W => eqSt_is (decide_eq_false h1) W)
      rw [decide_eq_false (fun h : p0 = q0 ∧ p1 = q1 ∧ p2 = q2 ∧ p3 = q3 ∧ p4 = q4 => h1 ⟨h.2.1, h.2.2.1⟩)]
      clear h0 h1
      go_enter Try.func39, Try.ntmps39
      go_wp2_with fail
      generalize hW : (w.alloc _).alloc _ = W
      have bW : Below w.heap.size w W := by rw [← hW]; exact ((Below.refl _ _).alloc (by simp) _).alloc (by simp) _
      have c3 : W.cell? ⟨w.heap.size, 3, none⟩ = some (.int .i64 p3) := by rw [← hW]; exact alloc_keep (by simp)
      have c4 : W.cell? ⟨w.heap.size, 4, none⟩ = some (.int .i64 p4) := by rw [← hW]; exact alloc_keep (by simp)
      have d3 : W.cell? ⟨w.heap.size + 1, 3, none⟩ = some (.int .i64 q3) := by rw [← hW]; simp
      have d4 : W.cell? ⟨w.heap.size + 1, 4, none⟩ = some (.int .i64 q4) := by rw [← hW]; simp
      clear hW
      refine (E.out _).mono ?_
      rintro e w1 ⟨rfl, hb⟩
      have B1 := Lib.hid (below_chain bW hb)
      replace c3 := below_keep hb c3
      replace c4 := below_keep hb c4
      replace d3 := below_keep hb d3
      replace d4 := below_keep hb d4
      clear hb bW E
      go_wp2
      go_ret
      exact ⟨rfl, B1.out⟩
  · have n0 : (p0 != q0) = true := by simpa using h0
    rw [decide_eq_false (fun h : p0 = q0 ∧ p1 = q1 ∧ p2 = q2 ∧ p3 = q3 ∧ p4 = q4 => h0 h.1)]
    clear h0
    go_enter Try.func39, Try.ntmps39
    go_wp2
    go_ret
    exact ⟨rfl, ((Below.refl _ _).alloc (by simp) _).alloc (by simp) _⟩

set_option maxRecDepth 100000 in
theorem toRecord_any (p0 p1 p2 p3 p4 : Int) (w : World) :
    Calls Try.prog 38 #[.agg #[.int .i64 p0, .int .i64 p1, .int .i64 p2, .int .i64 p3, .int .i64 p4]] w fun e w' => e = .returned (.agg #[.int .i64 p0, .int .i64 p1, .int .i64 p2, .int .i64 p3, .int .i64 p4]) ∧ Below w.heap.size w w' := by
  have E := Lib.hid (fun W => toStamp_any p1 p2 W)
  go_enter Try.func38, Try.ntmps38
  go_wp2_with fail
  generalize hW : ((w.alloc _).alloc _).alloc _ = W
  have bW : Below w.heap.size w W := by rw [← hW]; exact (((Below.refl _ _).alloc (by simp) _).alloc (by simp) _).alloc (by simp; omega) _
  have c3 : W.cell? ⟨w.heap.size, 3, none⟩ = some (.int .i64 p3) := by rw [← hW]; exact alloc_keep (alloc_keep (by simp))
  have c4 : W.cell? ⟨w.heap.size, 4, none⟩ = some (.int .i64 p4) := by rw [← hW]; exact alloc_keep (alloc_keep (by simp))
  have r0 : Blk W (w.heap.size + 1) 30 #[.int .i64 0, .int .i64 0, .int .i64 0, .int .i64 0, .int .i64 0] := by rw [← hW]; exact (Below.heap_alloc _ _ _ (by simp)).trans ((show w.heap.size + 1 = (w.alloc _).heap.size by simp) ▸ Blk.new _ _ _)
  have s0 : Blk W (w.heap.size + 2) 30 #[.int .i64 p0, .int .i64 0, .int .i64 0, .int .i64 0, .int .i64 0] := by rw [← hW]; exact (show w.heap.size + 2 = ((w.alloc _).alloc _).heap.size by simp) ▸ Blk.new _ _ _
  clear hW
  refine (E.out _).mono ?_
  rintro e w1 ⟨rfl, hb⟩
  have B1 := Lib.hid (below_chain bW hb)
  replace c3 := below_keep hb c3
  replace c4 := below_keep hb c4
  have r1 := r0.below hb
  have s1 := s0.below hb
  have d0 : w1.cell? ⟨w.heap.size + 2, 0, none⟩ = some (.int .i64 p0) := by rw [s1.cell]; rfl
  have d1 : w1.cell? ⟨w.heap.size + 2, 1, none⟩ = some (.int .i64 0) := by rw [s1.cell]; rfl
  have d2 : w1.cell? ⟨w.heap.size + 2, 2, none⟩ = some (.int .i64 0) := by rw [s1.cell]; rfl
  have d3 : w1.cell? ⟨w.heap.size + 2, 3, none⟩ = some (.int .i64 0) := by rw [s1.cell]; rfl
  have d4 : w1.cell? ⟨w.heap.size + 2, 4, none⟩ = some (.int .i64 0) := by rw [s1.cell]; rfl
  have k0 : w1.cell? ⟨w.heap.size + 1, 0, none⟩ = some (.int .i64 0) := by rw [r1.cell]; rfl
  have k1 : w1.cell? ⟨w.heap.size + 1, 1, none⟩ = some (.int .i64 0) := by rw [r1.cell]; rfl
  have k2 : w1.cell? ⟨w.heap.size + 1, 2, none⟩ = some (.int .i64 0) := by rw [r1.cell]; rfl
  have k3 : w1.cell? ⟨w.heap.size + 1, 3, none⟩ = some (.int .i64 0) := by rw [r1.cell]; rfl
  have k4 : w1.cell? ⟨w.heap.size + 1, 4, none⟩ = some (.int .i64 0) := by rw [r1.cell]; rfl
  have f0 := s1.frozen 0
  have g0 := r1.frozen 0
  have f1 := s1.frozen 1
  have g1 := r1.frozen 1
  have f2 := s1.frozen 2
  have g2 := r1.frozen 2
  have f3 := s1.frozen 3
  have g3 := r1.frozen 3
  have f4 := s1.frozen 4
  have g4 := r1.frozen 4
  have R1 := Lib.hid r1
  clear hb bW E r0 s0 r1 s1
  go_wp2_with fail
  generalize hWf : ((((((((w1.setCell _ _).setCell _ _).setCell _ _).setCell _ _).setCell _ _).setCell _ _).setCell _ _).setCell _ _).setCell _ _ = Wf
  have bf : Blk Wf (w.heap.size + 1) 30 #[.int .i64 p0, .int .i64 p1, .int .i64 p2, .int .i64 p3, .int .i64 p4] := by
    rw [← hWf]
    exact ((((((((R1.out.other (by simp) _).other (by simp) _).other (by simp) _).other (by simp) _).put 0 _).put 1 _).put 2 _).put 3 _).put 4 _
  have hb : Below w.heap.size w Wf := by
    rw [← hWf]
    exact ((((((((B1.out.setCell (by simp; omega) _).setCell (by simp; omega) _).setCell (by simp; omega) _).setCell (by simp; omega) _).setCell (by simp) _).setCell (by simp) _).setCell (by simp) _).setCell (by simp) _).setCell (by simp) _
  have e0 : Wf.cell? ⟨w.heap.size + 1, 0, none⟩ = some (.int .i64 p0) := by rw [bf.cell]; rfl
  have e1 : Wf.cell? ⟨w.heap.size + 1, 1, none⟩ = some (.int .i64 p1) := by rw [bf.cell]; rfl
  have e2 : Wf.cell? ⟨w.heap.size + 1, 2, none⟩ = some (.int .i64 p2) := by rw [bf.cell]; rfl
  have e3 : Wf.cell? ⟨w.heap.size + 1, 3, none⟩ = some (.int .i64 p3) := by rw [bf.cell]; rfl
  have e4 : Wf.cell? ⟨w.heap.size + 1, 4, none⟩ = some (.int .i64 p4) := by rw [bf.cell]; rfl
  exact bodyPost_ret (v := .agg #[.int .i64 p0, .int .i64 p1, .int .i64 p2, .int .i64 p3, .int .i64 p4]) (by simp [results, Try.results38, go_sem, e0, e1, e2, e3, e4]) rfl ⟨rfl, hb⟩
end Go.Proofs.Ytidpjpakodndhaa.hexes
