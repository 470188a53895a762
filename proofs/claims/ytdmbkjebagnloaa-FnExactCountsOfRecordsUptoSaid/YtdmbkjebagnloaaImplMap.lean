/-
  The program's maps of counts: the contracts of impl.countsByStamp, impl.adjustCount and slices.Clone over counts.
-/
import Derived.Test.YtdmbkjebagnloaaStMap
import Derived.Test.YtdmbkjebagnloaaImplCtOk
import Derived.Lib.SliceRun
namespace Go.Proofs.Ytdmbkjebagnloaa.hexes
open Go.RowKit Go.Maps

theorem run_makeMap_hint (t k e : TypeId) (q : IntKind) (n : Int) (h : Try.prog.underlying t = some (.map k e)) (w : World) : (Instr.makeMap t (some (.int q n))).run Try.prog w = .ok (.map (some w.heap.size)) (w.alloc (.map #[] 0)) := by
  simp [Instr.makeMap, run_underlying h, go_sem]

/-- The program's own map at block b, that reads as a table. -/
def CtMap (w : World) (b m : Nat) (zs : List Ct) : Prop := ∃ D, w.ownsMap Try.prog 34 (plainElem Try.prog 3) b m D ∧ MapOf D zs
theorem CtMap.lt {w : World} {b m : Nat} {zs : List Ct} (h : CtMap w b m zs) : b < w.heap.size := by obtain ⟨D, h, _⟩ := h; exact h.lt
theorem CtMap.kept {w w' : World} {row : Option Nat} {b m : Nat} {zs : List Ct} (h : CtMap w b m zs) (hg : w.grownBy w' row) (hne : some b ≠ row) : CtMap w' b m zs := by
  obtain ⟨D, h, hm⟩ := h
  exact ⟨D, h.kept hg hne, hm⟩
theorem CtMap.below {w w' : World} {b m : Nat} {zs : List Ct} (h : CtMap w b m zs) (hb : Below w.heap.size w w') : CtMap w' b m zs := by
  obtain ⟨D, h, hm⟩ := h
  have hl := h.lt
  obtain ⟨es, clock, hbl, Ft, hs, hD⟩ := h
  exact ⟨D, ⟨es, clock, (hb.block b hl).trans hbl, Ft, hs, hD⟩, hm⟩
theorem CtMap.mono {w : World} {b m m' : Nat} {zs : List Ct} (h : CtMap w b m zs) (hm : m ≤ m') : CtMap w b m' zs := by
  obtain ⟨D, h, h'⟩ := h
  exact ⟨D, h.mono hm, h'⟩

theorem table_take {zs : List Ct} (h : Table zs) (k : Nat) : Table (zs.take k) := ⟨List.Pairwise.sublist (List.take_sublist _ _) h.asc, fun z hz => h.ent z (List.mem_of_mem_take hz)⟩
theorem countAt_take {zs : List Ct} (h : Table zs) {k : Nat} (hk : k < zs.length) (t : Int × Int) : countAt (zs.take (k + 1)) t = if t = zs[k].1 then zs[k].2 else countAt (zs.take k) t := by
  have hT := table_take h (k + 1)
  have hT' := table_take h k
  have hm : zs[k] ∈ zs.take (k + 1) := by rw [List.take_succ_eq_append_getElem hk]; exact List.mem_append_right _ List.mem_cons_self
  split
  · rename_i e
    rw [e]
    exact countAt_mem hT.asc hm
  · rename_i e
    have key : ∀ n, (t, n) ∈ zs.take (k + 1) ↔ (t, n) ∈ zs.take k := fun n => by
      rw [List.take_succ_eq_append_getElem hk]
      simp only [List.mem_append, List.mem_singleton, or_iff_left_iff_imp]
      intro h'
      rw [← h'] at e
      exact absurd rfl e
    by_cases h0 : countAt (zs.take k) t = 0
    · rw [h0]
      by_cases h1 : countAt (zs.take (k + 1)) t = 0
      · exact h1
      · have := (key _).1 ((mem_iff_countAt hT t _).2 ⟨rfl, h1⟩)
        have := ((mem_iff_countAt hT' t _).1 this).1
        rw [← this, h0]
    · have := (key _).2 ((mem_iff_countAt hT' t _).2 ⟨rfl, h0⟩)
      exact ((mem_iff_countAt hT t _).1 this).1

/-- How adjustCount ends: whether it took the count; the map then. -/
def AdjustEnd (w : World) (b m : Nat) (zs : List Ct) (s : Int × Int) (nn : Int) (e : Ending) (w' : World) : Prop :=
  e = .returned (.bool (adjOk zs s nn)) ∧ w.grownBy w' (some b) ∧ (adjOk zs s nn = true → CtMap w' b (m + 1) (adjL zs s nn))

theorem adj_wrap {c n : Int} (h1 : -1000000 ≤ c) (h2 : c ≤ 1000000) (hn : (Lit.int .i64 n).wf = true) : (-1000000 ≤ wrap64 (c + n) ∧ wrap64 (c + n) ≤ 1000000) ↔ (-1000000 ≤ c + n ∧ c + n ≤ 1000000) := by
  have := bounds_i64 hn
  unfold wrap64
  omega