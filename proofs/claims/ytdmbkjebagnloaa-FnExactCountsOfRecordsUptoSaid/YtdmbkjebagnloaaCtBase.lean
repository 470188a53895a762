/-
  Counts: the contracts of the laws' toCount and eqCount.
-/
import Derived.Test.YtdmbkjebagnloaaCtList
import Derived.Test.YtdmbkjebagnloaaStList
import Derived.Test.YtdmbkjebagnloaaCursor
import Derived.Test.YtdmbkjebagnloaaDrawBlk
namespace Go.Proofs.Ytdmbkjebagnloaa.hexes
open Go.RowKit

set_option maxRecDepth 100000 in
theorem eqCount_any (x y n u v m : Int) (w : World) :
    Calls Try.prog 55 #[.agg #[.int .i64 x, .int .i64 y, .int .i64 n], .agg #[.int .i64 u, .int .i64 v, .int .i64 m]] w fun e w' => e = .returned (.bool (decide (x = u ∧ y = v ∧ n = m))) ∧ Below w.heap.size w w' := by
  by_cases h1 : x = u ∧ y = v
  · have E := Lib.hid (fun W => eqSt_is (decide_eq_true h1) W)
    by_cases h2 : n = m
    · have e3 : decide (x = u ∧ y = v ∧ n = m) = true := decide_eq_true ⟨h1.1, h1.2, h2⟩
      have hn : (n != m) = false := by simpa using h2
      clear h1 h2
      rw [e3]
      clear e3
      go_enter Try.func55, Try.ntmps55
      go_wp2_with fail
      generalize hW : (w.alloc _).alloc _ = W
      have bW : Below w.heap.size w W := by rw [← hW]; exact ((Below.refl _ _).alloc (by simp) _).alloc (by simp) _
      have c2 : W.cell? ⟨w.heap.size, 2, none⟩ = some (.int .i64 n) := by rw [← hW]; exact alloc_keep (by simp)
      have d2 : W.cell? ⟨w.heap.size + 1, 2, none⟩ = some (.int .i64 m) := by rw [← hW]; simp
      clear hW
      refine (E.out _).mono ?_
      rintro e w1 ⟨rfl, hb⟩
      have B1 := Lib.hid (below_chain bW hb)
      replace c2 := below_keep hb c2
      replace d2 := below_keep hb d2
      clear hb bW E
      go_wp2
      go_ret
      exact ⟨rfl, B1.out⟩
    · have e3 : decide (x = u ∧ y = v ∧ n = m) = false := decide_eq_false fun h => h2 h.2.2
      have hn : (n != m) = true := by simpa using h2
      clear h1 h2
      rw [e3]
      clear e3
      go_enter Try.func55, Try.ntmps55
      go_wp2_with fail
      generalize hW : (w.alloc _).alloc _ = W
      have bW : Below w.heap.size w W := by rw [← hW]; exact ((Below.refl _ _).alloc (by simp) _).alloc (by simp) _
      have c2 : W.cell? ⟨w.heap.size, 2, none⟩ = some (.int .i64 n) := by rw [← hW]; exact alloc_keep (by simp)
      have d2 : W.cell? ⟨w.heap.size + 1, 2, none⟩ = some (.int .i64 m) := by rw [← hW]; simp
      clear hW
      refine (E.out _).mono ?_
      rintro e w1 ⟨rfl, hb⟩
      have B1 := Lib.hid (below_chain bW hb)
      replace c2 := below_keep hb c2
      replace d2 := below_keep hb d2
      clear hb bW E
      go_wp2
      go_ret
      exact ⟨rfl, B1.out⟩
  · have E := Lib.hid (fun W => eqSt_is (decide_eq_false h1) W)
    have e3 : decide (x = u ∧ y = v ∧ n = m) = false := decide_eq_false fun h => h1 ⟨h.1, h.2.1⟩
    clear h1
    rw [e3]
    clear e3
    go_enter Try.func55, Try.ntmps55
    go_wp2_with fail
    generalize hW : (w.alloc _).alloc _ = W
    have bW : Below w.heap.size w W := by rw [← hW]; exact ((Below.refl _ _).alloc (by simp) _).alloc (by simp) _
    have c2 : W.cell? ⟨w.heap.size, 2, none⟩ = some (.int .i64 n) := by rw [← hW]; exact alloc_keep (by simp)
    have d2 : W.cell? ⟨w.heap.size + 1, 2, none⟩ = some (.int .i64 m) := by rw [← hW]; simp
    clear hW
    refine (E.out _).mono ?_
    rintro e w1 ⟨rfl, hb⟩
    have B1 := Lib.hid (below_chain bW hb)
    replace c2 := below_keep hb c2
    replace d2 := below_keep hb d2
    clear hb bW E
    go_wp2
    go_ret
    exact ⟨rfl, B1.out⟩

end Go.Proofs.Ytdmbkjebagnloaa.hexes
