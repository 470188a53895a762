/-
  The stamps of a map, sorted: the contract of slices.SortedFunc over the map's own iterator.
-/
import Derived.Test.YtdmbkjebagnloaaStKeys2
import Derived.Test.YtdmbkjebagnloaaImplMap
namespace Go.Proofs.Ytdmbkjebagnloaa.hexes
open Go.RowKit Go.Maps Go.Sort Go.Shelf

/-- How the sort ends: the row holds the same stamps, ascending. -/
def SortPerm (w : World) (v : Value) (zs : List (Int × Int)) (n : Nat) (e : Ending) (w' : World) : Prop :=
  e = .returned (.tuple #[]) ∧ ∃ (ys : List (Int × Int)) (A : Option Addr) (c : Nat), v = .slice A n c ∧ ys.length = n ∧ ys.Perm zs ∧ Asc ys ∧ Sts w' A ys ∧ w.grownBy w' v.ownBlock

theorem sortSt_perm (n : Nat) (zs : List (Int × Int)) (hz : zs.length = n) (hn : n ≤ 4194304) (B : Nat) (v : Value) (w : World) (h : w.ownsRow B 34 2 v n (stCells zs)) :
    Calls Try.prog 79 #[v, .func (.func 58) #[] #[]] w (SortPerm w v zs n) := by
  obtain ⟨A, c, rfl, hf⟩ := own_form h
  by_cases h0 : n = 0
  · subst h0
    obtain rfl := List.eq_nil_of_length_eq_zero hz
    have hcon := AnyF.slices_SortFunc_none Try.sortSt A c (.func (.func 58) #[] #[]) w
    change Calls Try.prog 79 _ _ _ at hcon
    refine hcon.mono ?_
    rintro e w' ⟨rfl, rfl⟩
    exact ⟨rfl, [], A, c, rfl, rfl, List.Perm.refl _, List.Pairwise.nil, fun hl => absurd hl (by simp), grown_refl _ _⟩
  · obtain ⟨g, rfl⟩ := hf (by omega)
    have eg : ∀ args w, (callFunc 58 args).run Try.prog w = .ok (.enter 58 args) w := enters_of Try.func58 (by kernel_rfl) rfl
    have hH := holds_own h hz
    have hlt := own_lt h
    have hcon := AnyQ.slices_SortFunc Try.sortSt 2 Try.isAgg34 Try.sizeOf34 encSt (fun _ => rfl) (fun x v hv => by simp [encSt] at hv; rcases hv with rfl | rfl <;> rfl) cfSt swoSt 58 #[] g 0 c zs.toArray w eg (cmpSt g 0 _ w) hH hlt (by simp; omega)
    change Calls Try.prog 79 _ _ _ at hcon
    rw [show zs.toArray.size = n by simpa using hz] at hcon
    refine hcon.mono ?_
    rintro e w' ⟨rfl, d', m, os, hp, hs, rfl⟩
    have hsz : d'.size = n := by rw [hp.1]; simpa using hz
    have hperm : d'.toList.Perm zs := by
      have := hp.2.2
      rwa [Array.extract_eq_self_of_le (by omega), Array.extract_eq_self_of_le (by simp; omega)] at this
    refine ⟨rfl, d'.toList, some ⟨g, 0, none⟩, c, rfl, by simpa using hsz, hperm, ?_, ?_, grown_sort w g m d' os⟩
    · refine List.pairwise_iff_getElem.2 fun i j hi hj hij => ?_
      have h1 := hs i j (Nat.zero_le _) hij (by rw [← hsz]; simpa using hj)
      rw [ltOf_st, decide_eq_false_iff_not, getElem!_pos d' i (by simpa using hi), getElem!_pos d' j (by simpa using hj)] at h1
      simpa using h1
    · exact sts_holds (SWK.holds ⟨m, os, rfl⟩ hlt hH (by rw [hsz]; simpa using hz.symm)) (SWK.lt (enc := encSt) (k := 2) (off := 0) (dk := d') ⟨m, os, rfl⟩ hlt)

/-- How slices.SortedFunc ends: what came, ascending, in a row of its own. -/
def SortedEnd (S : List (Int × Int) → Prop) (N : Nat) (w : World) (e : Ending) (w' : World) : Prop :=
  ∃ (A : Option Addr) (m c : Nat) (ys ss : List (Int × Int)), e = .returned (.slice A m c) ∧ S ss ∧ ys.Perm ss ∧ ys.length = m ∧ m ≤ N ∧ Asc ys ∧ Sts w' A ys ∧ (∀ ad, A = some ad → w.heap.size ≤ ad.block ∧ ad.block < w'.heap.size) ∧ Below w.heap.size w w'

set_option maxHeartbeats 1000000 in
theorem sortedFunc_any (g : Nat) (lb : Array Value) (eg : ∀ args w, (callFunc g args).run Try.prog w = .ok (.enter g args) w)
    (S : List (Int × Int) → Prop) (N : Nat) (hN : N ≤ 4194304) (w : World) (hseq : SeqGives Fence.wide 3 Try.prog g lb stVal S N w) :
    Calls Try.prog 65 #[.func (.func g) #[] lb, .func (.func 58) #[] #[]] w (SortedEnd S N w) := by
  refine (callsIn_wide (n := 6)).1 ?_
  have cC := collect_in Fence.wide 5 trivial trivial rfl (by omega) g lb trivial eg _ N hN w hseq.bounded
  have CC := Lib.hid cC
  clear cC
  have hf1 : Fence.wide.fn 78 := trivial
  have hf2 : Fence.wide.fn 79 := trivial
  refine callsIn_of_wp Try.func65 rfl trivial ?_ rfl
  simp only [Try.ntmps65, List.size_toArray, List.length_cons, List.length_nil, Nat.reduceAdd, Nat.reduceSub, Array.replicate_succ, Array.replicate_zero, List.push_toArray, List.append_toArray, List.nil_append, List.cons_append]
  gi_wp2_with (gi_at_call 78; refine CC.out.mono ?_; rintro e W ⟨v, ss, rfl, ⟨hS, hlen⟩, hrow, hb⟩)
  have RW := Lib.hid hrow
  have cS := callsIn_wide (n := 5).2 (sortSt_perm ss.length ss rfl (by omega) w.heap.size v W hrow)
  have CS := Lib.hid cS
  have HB := Lib.hid hb
  clear hrow cS hb
  gi_wp2_with (gi_at_call 79; refine CS.out.mono ?_; rintro e w2 ⟨rfl, ys, A, c, rfl, hl, hp, ha, hs, hg⟩)
  go_ret
  refine ⟨A, ss.length, c, ys, ss, rfl, hS, hp, hl, hlen, ha, hs, fun ad hA => ?_, HB.out.grown hg HB.out.size (own_ge RW.out)⟩
  subst hA
  have h2 := RW.out.lt ad.block (by simp [Value.ownBlock])
  exact ⟨h2.1, Nat.lt_of_lt_of_le h2.2 hg.size⟩
end Go.Proofs.Ytdmbkjebagnloaa.hexes
