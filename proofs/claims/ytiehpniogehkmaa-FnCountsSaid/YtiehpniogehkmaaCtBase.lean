/-
  Counts: the contracts of the laws' toCount and eqCount.
-/
import Derived.Test.YtiehpniogehkmaaCtList
import Derived.Test.YtiehpniogehkmaaStList
import Derived.Test.YtiehpniogehkmaaCursor
import Derived.Test.YtiehpniogehkmaaDrawBlk
namespace Go.Proofs.Ytiehpniogehkmaa.hexes
open Go.RowKit

set_option maxRecDepth 100000 in
theorem eqCount_any (x y n u v m : Int) (w : World) :
    Calls Try.prog 59 #[.agg #[.int .i64 x, .int .i64 y, .int .i64 n], .agg #[.int .i64 u, .int .i64 v, .int .i64 m]] w fun e w' => e = .returned (.bool (decide (x = u ∧ y = v ∧ n = m))) ∧ Below w.heap.size w w' := by
  by_cases h1 : x = u ∧ y = v
  · have E := Lib.hid (fun W => eqSt_is (decide_eq_true h1) W)
    by_cases h2 : n = m
    · have e3 : decide (x = u ∧ y = v ∧ n = m) = true := decide_eq_true ⟨h1.1, h1.2, h2⟩
      have hn : (n != m) = false := by simpa using h2
      clear h1 h2
      rw [e3]
      clear e3
      go_enter Try.func59, Try.ntmps59
      go_wp2_with fail
      generalize hW : (w.alloc _).alloc _ = W
      have bW : Below w.heap.size w W := by rw [← hW]; exact ((Below.refl _ _).alloc (by simp) _).alloc (by simp) _
      have c2 : W.cell? ⟨w.heap.size, 2, none⟩ = some (.int .i64 n) := by rw [← hW]; exact alloc_keep (by simp)
      have d2 : W.cell? ⟨w.heap.size + 1, 2, none⟩ = some (.int .i64 m) := by rw [← hW]; simp
      clear hW
      refine (E.out _).mono ?_
      rintro e w1 ⟨rfl, hb⟩
      have B1 := Lib.hid (below_chain bW hb)
      replace c2 := below_keep hb c2
      replace d2 := below_keep hb d2
      clear hb bW E
      go_wp2
      go_ret
      exact ⟨rfl, B1.out⟩
    · have e3 : decide (x = u ∧ y = v ∧ n = m) = false := decide_eq_false fun h => h2 h.2.2
      have hn : (n != m) = true := by simpa using h2
      clear h1 h2
      rw [e3]
      clear e3
      go_enter Try.func59, Try.ntmps59
      go_wp2_with fail
      generalize hW : (w.alloc _).alloc _ = W
      have bW : Below w.heap.size w W := by rw [← hW]; exact ((Below.refl _ _).alloc (by simp) _).alloc (by simp) _
      have c2 : W.cell? ⟨w.heap.size, 2, none⟩ = some (.int .i64 n) := by rw [← hW]; exact alloc_keep (by simp)
      have d2 : W.cell? ⟨w.heap.size + 1, 2, none⟩ = some (.int .i64 m) := by rw [← hW]; simp
      clear hW
      refine (E.out _).mono ?_
      rintro e w1 ⟨rfl, hb⟩
      have B1 := Lib.hid (below_chain bW hb)
      replace c2 := below_keep hb c2
      replace d2 := below_keep hb d2
      clear hb bW E
      go_wp2
      go_ret
      exact ⟨rfl, B1.out⟩
  · have E := Lib.hid (fun W => eqSt_is (decide_eq_false h1) W)
    have e3 : decide (x = u ∧ y = v ∧ n = m) = false := decide_eq_false fun h => h1 ⟨h.1, h.2.1⟩
    clear h1
    rw [e3]
    clear e3
    go_enter Try.func59, Try.ntmps59
    go_wp2_with fail
    generalize hW : (w.alloc _).alloc _ = W
    have bW : Below w.heap.size w W := by rw [← hW]; exact ((Below.refl _ _).alloc (by simp) _).alloc (by simp) _
    have c2 : W.cell? ⟨w.heap.size, 2, none⟩ = some (.int .i64 n) := by rw [← hW]; exact alloc_keep (by simp)
    have d2 : W.cell? ⟨w.heap.size + 1, 2, none⟩ = some (.int .i64 m) := by rw [← hW]; simp
    clear hW
    refine (E.out _).mono ?_
    rintro e w1 ⟨rfl, hb⟩
    have B1 := Lib.hid (below_chain bW hb)
    replace c2 := below_keep hb c2
    replace d2 := below_keep hb d2
    clear hb bW E
    go_wp2
    go_ret
    exact ⟨rfl, B1.out⟩

set_option maxRecDepth 100000 in
theorem toCount_any (x y n : Int) (w : World) :
    Calls Try.prog 58 #[.agg #[.int .i64 x, .int .i64 y, .int .i64 n]] w fun e w' => e = .returned (.agg #[.int .i64 x, .int .i64 y, .int .i64 n]) ∧ Below w.heap.size w w' := by
  have E := Lib.hid (fun W => toStamp_any x y W)
  go_enter Try.func58, Try.ntmps58
  go_wp2_with fail
  generalize hW : ((w.alloc _).alloc _).alloc _ = W
  have bW : Below w.heap.size w W := by rw [← hW]; exact (((Below.refl _ _).alloc (by simp) _).alloc (by simp) _).alloc (by simp; omega) _
  have c2 : W.cell? ⟨w.heap.size, 2, none⟩ = some (.int .i64 n) := by rw [← hW]; exact alloc_keep (alloc_keep (by simp))
  have r0 : Blk W (w.heap.size + 1) 62 #[.int .i64 0, .int .i64 0, .int .i64 0] := by rw [← hW]; exact (Below.heap_alloc _ _ _ (by simp)).trans ((show w.heap.size + 1 = (w.alloc _).heap.size by simp) ▸ Blk.new _ _ _)
  have s0 : Blk W (w.heap.size + 2) 62 #[.int .i64 0, .int .i64 0, .int .i64 0] := by rw [← hW]; exact (show w.heap.size + 2 = ((w.alloc _).alloc _).heap.size by simp) ▸ Blk.new _ _ _
  clear hW
  refine (E.out _).mono ?_
  rintro e w1 ⟨rfl, hb⟩
  have B1 := Lib.hid (below_chain bW hb)
  replace c2 := below_keep hb c2
  have r1 := r0.below hb
  have s1 := s0.below hb
  have d0 : w1.cell? ⟨w.heap.size + 2, 0, none⟩ = some (.int .i64 0) := by rw [s1.cell]; rfl
  have d1 : w1.cell? ⟨w.heap.size + 2, 1, none⟩ = some (.int .i64 0) := by rw [s1.cell]; rfl
  have d2 : w1.cell? ⟨w.heap.size + 2, 2, none⟩ = some (.int .i64 0) := by rw [s1.cell]; rfl
  have k0 : w1.cell? ⟨w.heap.size + 1, 0, none⟩ = some (.int .i64 0) := by rw [r1.cell]; rfl
  have k1 : w1.cell? ⟨w.heap.size + 1, 1, none⟩ = some (.int .i64 0) := by rw [r1.cell]; rfl
  have k2 : w1.cell? ⟨w.heap.size + 1, 2, none⟩ = some (.int .i64 0) := by rw [r1.cell]; rfl
  have f0 := s1.frozen 0
  have f1 := s1.frozen 1
  have f2 := s1.frozen 2
  have g0 := r1.frozen 0
  have g1 := r1.frozen 1
  have g2 := r1.frozen 2
  have R1 := Lib.hid r1
  clear hb bW E r0 s0 r1 s1
  go_wp2_with fail
  generalize hWf : (((((w1.setCell _ _).setCell _ _).setCell _ _).setCell _ _).setCell _ _).setCell _ _ = Wf
  have bf : Blk Wf (w.heap.size + 1) 62 #[.int .i64 x, .int .i64 y, .int .i64 n] := by
    rw [← hWf]
    exact (((((R1.out.other (by simp) _).other (by simp) _).other (by simp) _).put 0 _).put 1 _).put 2 _
  have hb : Below w.heap.size w Wf := by
    rw [← hWf]
    exact (((((B1.out.setCell (by simp; omega) _).setCell (by simp; omega) _).setCell (by simp; omega) _).setCell (by simp) _).setCell (by simp) _).setCell (by simp) _
  have e0 : Wf.cell? ⟨w.heap.size + 1, 0, none⟩ = some (.int .i64 x) := by rw [bf.cell]; rfl
  have e1 : Wf.cell? ⟨w.heap.size + 1, 1, none⟩ = some (.int .i64 y) := by rw [bf.cell]; rfl
  have e2 : Wf.cell? ⟨w.heap.size + 1, 2, none⟩ = some (.int .i64 n) := by rw [bf.cell]; rfl
  exact bodyPost_ret (v := .agg #[.int .i64 x, .int .i64 y, .int .i64 n]) (by simp [results, Try.results58, go_sem, e0, e1, e2]) rfl ⟨rfl, hb⟩

end Go.Proofs.Ytiehpniogehkmaa.hexes
