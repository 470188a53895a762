/-
  The program's CountsOk: the contracts of impl.countInRange and impl.CountsOk.
  The program's maps of counts: the contracts of impl.countsByStamp, impl.adjustCount and slices.Clone over counts.
  The stamps of a map, sorted: the contract of slices.SortedFunc over the map's own iterator.
-/
import Derived.Test.YtdmbkjebagnloaaGreatDoorJ19
import Derived.Test.YtdmbkjebagnloaaGreatDoorJ39
import Derived.Lib.SliceRun
import Derived.Test.YtdmbkjebagnloaaGreatDoorJ41

namespace Go.Proofs.YtdmbkjebagnloaaGreatDoor.hexes
open Go.RowKit

structure Pair1 (W : World) (w' : World) : Prop where
  bel : Below W.heap.size W w'
theorem Pair1.drew {W : World} {w' : World} (h : Pair1 W w') : Pair1 W w'.drew := ⟨h.bel.drew⟩
theorem Pair1.below {W : World} {w' w2 : World} (h : Pair1 W w') (hb : Below w'.heap.size w' w2) : Pair1 W w2 := ⟨below_chain h.bel hb⟩
structure Pair3 (W : World) (b o : Nat) (r0 r1 : Int) (bc : Nat) (p0 p1 : Int) (w' : World) : Prop where
  c0 : w'.cell? ⟨b, o, none⟩ = some (.int .i64 r0)
  c1 : w'.cell? ⟨b, o + 1, none⟩ = some (.int .i64 r1)
  d0 : w'.cell? ⟨bc, 0, none⟩ = some (.int .i64 p0)
  d1 : w'.cell? ⟨bc, 1, none⟩ = some (.int .i64 p1)
  bel : Below W.heap.size W w'
theorem Pair3.drew {W : World} {b o : Nat} {r0 r1 : Int} {bc : Nat} {p0 p1 : Int} {w' : World} (h : Pair3 W b o r0 r1 bc p0 p1 w') : Pair3 W b o r0 r1 bc p0 p1 w'.drew := ⟨h.c0, h.c1, h.d0, h.d1, h.bel.drew⟩
theorem Pair3.below {W : World} {b o : Nat} {r0 r1 : Int} {bc : Nat} {p0 p1 : Int} {w' w2 : World} (h : Pair3 W b o r0 r1 bc p0 p1 w') (hb : Below w'.heap.size w' w2) : Pair3 W b o r0 r1 bc p0 p1 w2 := ⟨below_keep hb h.c0, below_keep hb h.c1, below_keep hb h.d0, below_keep hb h.d1, below_chain h.bel hb⟩

theorem implOkS_is {x y : Int} {b : Bool} (h : okSt x y = b) (W : World) : Calls Tryz.prog 36 #[.agg #[.int .i64 x, .int .i64 y]] W fun e w' => e = .returned (.bool b) ∧ Below W.heap.size W w' := by
  subst h; exact implOk_any _ _ W
end Go.Proofs.YtdmbkjebagnloaaGreatDoor.hexes

namespace Go.Proofs.YtdmbkjebagnloaaGreatDoor.hexes
open Go.RowKit Go.Maps

theorem run_makeMap_hint (t k e : TypeId) (q : IntKind) (n : Int) (h : Tryz.prog.underlying t = some (.map k e)) (w : World) : (Instr.makeMap t (some (.int q n))).run Tryz.prog w = .ok (.map (some w.heap.size)) (w.alloc (.map #[] 0)) := by
  simp [Instr.makeMap, run_underlying h, go_sem]

/-- The program's own map at block b, that reads as a table. -/
def CtMap (w : World) (b m : Nat) (zs : List Ct) : Prop := ∃ D, w.ownsMap Tryz.prog 30 (plainElem Tryz.prog 3) b m D ∧ MapOf D zs
theorem CtMap.lt {w : World} {b m : Nat} {zs : List Ct} (h : CtMap w b m zs) : b < w.heap.size := by obtain ⟨D, h, _⟩ := h; exact h.lt
theorem CtMap.kept {w w' : World} {row : Option Nat} {b m : Nat} {zs : List Ct} (h : CtMap w b m zs) (hg : w.grownBy w' row) (hne : some b ≠ row) : CtMap w' b m zs := by
  obtain ⟨D, h, hm⟩ := h
  exact ⟨D, h.kept hg hne, hm⟩
theorem CtMap.below {w w' : World} {b m : Nat} {zs : List Ct} (h : CtMap w b m zs) (hb : Below w.heap.size w w') : CtMap w' b m zs := by
  obtain ⟨D, h, hm⟩ := h
  have hl := h.lt
  obtain ⟨es, clock, hbl, Ft, hs, hD⟩ := h
  exact ⟨D, ⟨es, clock, (hb.block b hl).trans hbl, Ft, hs, hD⟩, hm⟩
theorem CtMap.mono {w : World} {b m m' : Nat} {zs : List Ct} (h : CtMap w b m zs) (hm : m ≤ m') : CtMap w b m' zs := by
  obtain ⟨D, h, h'⟩ := h
  exact ⟨D, h.mono hm, h'⟩

theorem table_take {zs : List Ct} (h : Table zs) (k : Nat) : Table (zs.take k) := ⟨List.Pairwise.sublist (List.take_sublist _ _) h.asc, fun z hz => h.ent z (List.mem_of_mem_take hz)⟩
theorem countAt_take {zs : List Ct} (h : Table zs) {k : Nat} (hk : k < zs.length) (t : Int × Int) : countAt (zs.take (k + 1)) t = if t = zs[k].1 then zs[k].2 else countAt (zs.take k) t := by
  have hT := table_take h (k + 1)
  have hT' := table_take h k
  have hm : zs[k] ∈ zs.take (k + 1) := by rw [List.take_succ_eq_append_getElem hk]; exact List.mem_append_right _ List.mem_cons_self
  split
  · rename_i e
    rw [e]
    exact countAt_mem hT.asc hm
  · rename_i e
    have key : ∀ n, (t, n) ∈ zs.take (k + 1) ↔ (t, n) ∈ zs.take k := fun n => by
      rw [List.take_succ_eq_append_getElem hk]
      simp only [List.mem_append, List.mem_singleton, or_iff_left_iff_imp]
      intro h'
      rw [← h'] at e
      exact absurd rfl e
    by_cases h0 : countAt (zs.take k) t = 0
    · rw [h0]
      by_cases h1 : countAt (zs.take (k + 1)) t = 0
      · exact h1
      · have := (key _).1 ((mem_iff_countAt hT t _).2 ⟨rfl, h1⟩)
        have := ((mem_iff_countAt hT' t _).1 this).1
        rw [← this, h0]
    · have := (key _).2 ((mem_iff_countAt hT' t _).2 ⟨rfl, h0⟩)
      exact ((mem_iff_countAt hT t _).1 this).1

/-- How adjustCount ends: whether it took the count; the map then. -/
def AdjustEnd (w : World) (b m : Nat) (zs : List Ct) (s : Int × Int) (nn : Int) (e : Ending) (w' : World) : Prop :=
  e = .returned (.bool (adjOk zs s nn)) ∧ w.grownBy w' (some b) ∧ (adjOk zs s nn = true → CtMap w' b (m + 1) (adjL zs s nn))

theorem adj_wrap {c n : Int} (h1 : -1000000 ≤ c) (h2 : c ≤ 1000000) (hn : (Lit.int .i64 n).wf = true) : (-1000000 ≤ wrap64 (c + n) ∧ wrap64 (c + n) ≤ 1000000) ↔ (-1000000 ≤ c + n ∧ c + n ≤ 1000000) := by
  have := bounds_i64 hn
  unfold wrap64
  omega
end Go.Proofs.YtdmbkjebagnloaaGreatDoor.hexes

namespace Go.Proofs.YtdmbkjebagnloaaGreatDoor.hexes
open Go.RowKit Go.Maps Go.Sort Go.Shelf

/-- How the sort ends: the row holds the same stamps, ascending. -/
def SortPerm (w : World) (v : Value) (zs : List (Int × Int)) (n : Nat) (e : Ending) (w' : World) : Prop :=
  e = .returned (.tuple #[]) ∧ ∃ (ys : List (Int × Int)) (A : Option Addr) (c : Nat), v = .slice A n c ∧ ys.length = n ∧ ys.Perm zs ∧ Asc ys ∧ Sts w' A ys ∧ w.grownBy w' v.ownBlock

theorem sortSt_perm (n : Nat) (zs : List (Int × Int)) (hz : zs.length = n) (hn : n ≤ 4194304) (B : Nat) (v : Value) (w : World) (h : w.ownsRow B 30 2 v n (stCells zs)) :
    Calls Tryz.prog 83 #[v, .func (.func 52) #[] #[]] w (SortPerm w v zs n) := by
  obtain ⟨A, c, rfl, hf⟩ := own_form h
  by_cases h0 : n = 0
  · subst h0
    obtain rfl := List.eq_nil_of_length_eq_zero hz
    have hcon := AnyF.slices_SortFunc_none Tryz.sortSt A c (.func (.func 52) #[] #[]) w
    change Calls Tryz.prog 83 _ _ _ at hcon
    refine hcon.mono ?_
    rintro e w' ⟨rfl, rfl⟩
    exact ⟨rfl, [], A, c, rfl, rfl, List.Perm.refl _, List.Pairwise.nil, fun hl => absurd hl (by simp), grown_refl _ _⟩
  · obtain ⟨g, rfl⟩ := hf (by omega)
    have eg : ∀ args w, (callFunc 52 args).run Tryz.prog w = .ok (.enter 52 args) w := enters_of Tryz.func52 (by kernel_rfl) rfl
    have hH := holds_own h hz
    have hlt := own_lt h
    have hcon := AnyQ.slices_SortFunc Tryz.sortSt 2 Tryz.isAgg30 Tryz.sizeOf30 encSt (fun _ => rfl) (fun x v hv => by simp [encSt] at hv; rcases hv with rfl | rfl <;> rfl) cfSt swoSt 52 #[] g 0 c zs.toArray w eg (cmpSt g 0 _ w) hH hlt (by simp; omega)
    change Calls Tryz.prog 83 _ _ _ at hcon
    rw [show zs.toArray.size = n by simpa using hz] at hcon
    refine hcon.mono ?_
    rintro e w' ⟨rfl, d', m, os, hp, hs, rfl⟩
    have hsz : d'.size = n := by rw [hp.1]; simpa using hz
    have hperm : d'.toList.Perm zs := by
      have := hp.2.2
      rwa [Array.extract_eq_self_of_le (by omega), Array.extract_eq_self_of_le (by simp; omega)] at this
    refine ⟨rfl, d'.toList, some ⟨g, 0, none⟩, c, rfl, by simpa using hsz, hperm, ?_, ?_, grown_sort w g m d' os⟩
    · refine List.pairwise_iff_getElem.2 fun i j hi hj hij => ?_
      have h1 := hs i j (Nat.zero_le _) hij (by rw [← hsz]; simpa using hj)
      rw [ltOf_st, decide_eq_false_iff_not, getElem!_pos d' i (by simpa using hi), getElem!_pos d' j (by simpa using hj)] at h1
      simpa using h1
    · exact sts_holds (SWK.holds ⟨m, os, rfl⟩ hlt hH (by rw [hsz]; simpa using hz.symm)) (SWK.lt (enc := encSt) (k := 2) (off := 0) (dk := d') ⟨m, os, rfl⟩ hlt)

/-- How slices.SortedFunc ends: what came, ascending, in a row of its own. -/
def SortedEnd (S : List (Int × Int) → Prop) (N : Nat) (w : World) (e : Ending) (w' : World) : Prop :=
  ∃ (A : Option Addr) (m c : Nat) (ys ss : List (Int × Int)), e = .returned (.slice A m c) ∧ S ss ∧ ys.Perm ss ∧ ys.length = m ∧ m ≤ N ∧ Asc ys ∧ Sts w' A ys ∧ (∀ ad, A = some ad → w.heap.size ≤ ad.block ∧ ad.block < w'.heap.size) ∧ Below w.heap.size w w'

set_option maxHeartbeats 1000000 in
theorem sortedFunc_any (g : Nat) (lb : Array Value) (eg : ∀ args w, (callFunc g args).run Tryz.prog w = .ok (.enter g args) w)
    (S : List (Int × Int) → Prop) (N : Nat) (hN : N ≤ 4194304) (w : World) (hseq : SeqGives Fence.wide 3 Tryz.prog g lb stVal S N w) :
    Calls Tryz.prog 63 #[.func (.func g) #[] lb, .func (.func 52) #[] #[]] w (SortedEnd S N w) := by
  refine (callsIn_wide (n := 6)).1 ?_
  have cC := collect_in Fence.wide 5 trivial trivial rfl (by omega) g lb trivial eg _ N hN w hseq.bounded
  have CC := Lib.hid cC
  clear cC
  have hf1 : Fence.wide.fn 82 := trivial
  have hf2 : Fence.wide.fn 83 := trivial
  refine callsIn_of_wp Tryz.func63 rfl trivial ?_ rfl
  simp only [Tryz.ntmps63, List.size_toArray, List.length_cons, List.length_nil, Nat.reduceAdd, Nat.reduceSub, Array.replicate_succ, Array.replicate_zero, List.push_toArray, List.append_toArray, List.nil_append, List.cons_append]
  gi_wp2_with (gi_at_call 82; refine CC.out.mono ?_; rintro e W ⟨v, ss, rfl, ⟨hS, hlen⟩, hrow, hb⟩)
  have RW := Lib.hid hrow
  have cS := callsIn_wide (n := 5).2 (sortSt_perm ss.length ss rfl (by omega) w.heap.size v W hrow)
  have CS := Lib.hid cS
  have HB := Lib.hid hb
  clear hrow cS hb
  gi_wp2_with (gi_at_call 83; refine CS.out.mono ?_; rintro e w2 ⟨rfl, ys, A, c, rfl, hl, hp, ha, hs, hg⟩)
  go_ret
  refine ⟨A, ss.length, c, ys, ss, rfl, hS, hp, hl, hlen, ha, hs, fun ad hA => ?_, HB.out.grown hg HB.out.size (own_ge RW.out)⟩
  subst hA
  have h2 := RW.out.lt ad.block (by simp [Value.ownBlock])
  exact ⟨h2.1, Nat.lt_of_lt_of_le h2.2 hg.size⟩
end Go.Proofs.YtdmbkjebagnloaaGreatDoor.hexes

