/-
  slices.SortFunc over stamps by impl.StampOrder: the contract, by the library's own.
  The stamps of a map, sorted: the contracts of maps.Keys over stamps, of its iterator, of slices.AppendSeq, slices.Collect and slices.SortedFunc.
-/
import Derived.Test.YtdmbkjebagnloaaGreatDoorJ34
import Derived.Test.YtdmbkjebagnloaaGreatDoorJ7
import Derived.Test.YtdmbkjebagnloaaGreatDoorMinFacts
import Derived.Test.YtdmbkjebagnloaaGreatDoorJ39
import Derived.RangeFuncBound
import Derived.Sort.MapsRangeIn
import Derived.Shelf.AbstractIn
import Derived.WalkKit
import Derived.OwnWalkIn
import Derived.TacticsInMore
import Derived.RegionIn
import Derived.LoopNIn
import Derived.LoopIn

namespace Go.Proofs.YtdmbkjebagnloaaGreatDoor.hexes
open Go.RowKit Go.Sort Go.Shelf

/-- A stamp's two cells. -/
def encSt (x : Int × Int) : List Value := [.int .i64 x.1, .int .i64 x.2]
/-- What the sort compares by. -/
def cfSt (x y : Int × Int) : Int := ordSt x.1 x.2 y.1 y.2

theorem ltOf_st (x y : Int × Int) : ltOf cfSt x y = decide (ltS x y) := by
  unfold ltOf cfSt
  rw [decide_eq_decide]
  exact ord_lt x y

theorem swoSt : SWO (ltOf cfSt) where
  irrefl x := by rw [ltOf_st]; simpa using ltS_irrefl x
  trans x y z h1 h2 := by rw [ltOf_st] at *; simp only [decide_eq_true_eq] at *; exact ltS_trans h1 h2
  ntrans x y z h1 h2 := by rw [ltOf_st] at *; simp only [decide_eq_false_iff_not] at *; unfold ltS at *; omega

theorem two_grown (W : World) (o p : Obj) : (W.alloc o).alloc p = grow (W.drewN 0) (#[o] ++ #[p]) := by
  rw [alloc_eq_grow, alloc_eq_grow, grow_grow]
  rfl

theorem cmpSt (blk off size : Nat) (w : World) : CmpLays Tryz.prog 52 #[] encSt 2 cfSt blk off size w := by
  intro m os dk _ x y
  refine (implOrder_at x.1 x.2 y.1 y.2 _).mono ?_
  rintro e w' ⟨rfl, rfl⟩
  exact ⟨rfl, 0, _, two_grown _ _ _⟩

theorem holds_own {w : World} {B e g n c : Nat} {zs : List (Int × Int)} (h : w.ownsRow B e 2 (.slice (some ⟨g, 0, none⟩) n c) n (stCells zs)) (hz : zs.length = n) : HoldsK encSt 2 w g 0 zs.toArray := fun j hj => by
  rw [size_flatK] at hj
  have hj2 : j < n * 2 := by simpa [hz] using hj
  rw [Nat.zero_add]
  refine ⟨?_, h.frozenAt j⟩
  rw [get_flatK _ _ _ _ hj, h.cellAt j hj2]
  have hk : j / 2 < zs.length := by omega
  have e1 := stCells_at zs (j / 2) hk
  have e2 : zs.toArray[j / 2]! = zs[j / 2] := by simp [hk]
  rw [e2]
  rcases Nat.mod_two_eq_zero_or_one j with h2 | h2
  · rw [show j / 2 * 2 = j by omega] at e1
    rw [e1.1, h2]; rfl
  · rw [show j / 2 * 2 + 1 = j by omega] at e1
    rw [e1.2, h2]; rfl

theorem sts_holds {w : World} {g : Nat} {d : Array (Int × Int)} (h : HoldsK encSt 2 w g 0 d) (hg : g < w.heap.size) : Sts w (some ⟨g, 0, none⟩) d.toList := fun _ =>
  ⟨g, 0, rfl, hg, fun j hj => by
    have hd : j < d.size := by simpa using hj
    have h0 := (h (j * 2) (by rw [size_flatK]; omega)).1
    have h1 := (h (j * 2 + 1) (by rw [size_flatK]; omega)).1
    rw [get_flatK _ _ _ _ (by omega), show j * 2 / 2 = j by omega, show j * 2 % 2 = 0 by omega, getElem!_pos d j hd] at h0
    rw [get_flatK _ _ _ _ (by omega), show (j * 2 + 1) / 2 = j by omega, show (j * 2 + 1) % 2 = 1 by omega, getElem!_pos d j hd] at h1
    exact ⟨by simpa [encSt] using h0, by simpa [encSt, Nat.add_assoc] using h1⟩⟩

theorem grown_sort (w : World) (g m : Nat) (d : Array (Int × Int)) (os : Array Obj) : w.grownBy (sortWorldK encSt 2 w g 0 m d os) (some g) := by
  refine ⟨rfl, rfl, rfl, SWK.le ⟨m, os, rfl⟩, fun k hk hne => ?_⟩
  have hne' : ¬g = k := fun h => hne (by rw [h])
  unfold sortWorldK grow putRowK putRow mapBlock
  rw [Array.getElem?_append_left (by simpa [Sort.ahead] using hk), Array.getElem?_modify, if_neg hne']
  rfl

/-- How the sort ends: the row holds the same stamps, ascending. -/
def SortEnd (w : World) (v : Value) (zs : List (Int × Int)) (n : Nat) (e : Ending) (w' : World) : Prop :=
  e = .returned (.tuple #[]) ∧ ∃ (ys : List (Int × Int)) (A : Option Addr) (c : Nat), v = .slice A n c ∧ ys.length = n ∧ (∀ z, z ∈ ys ↔ z ∈ zs) ∧ Asc ys ∧ Sts w' A ys ∧ w.grownBy w' v.ownBlock

theorem sortSt_own (n : Nat) (zs : List (Int × Int)) (hz : zs.length = n) (hn : n ≤ 4194304) (B : Nat) (v : Value) (w : World) (h : w.ownsRow B 30 2 v n (stCells zs)) :
    Calls Tryz.prog 83 #[v, .func (.func 52) #[] #[]] w (SortEnd w v zs n) := by
  obtain ⟨A, c, rfl, hf⟩ := own_form h
  by_cases h0 : n = 0
  · subst h0
    obtain rfl := List.eq_nil_of_length_eq_zero hz
    have hcon := AnyF.slices_SortFunc_none Tryz.sortSt A c (.func (.func 52) #[] #[]) w
    change Calls Tryz.prog 83 _ _ _ at hcon
    refine hcon.mono ?_
    rintro e w' ⟨rfl, rfl⟩
    exact ⟨rfl, [], A, c, rfl, rfl, fun _ => Iff.rfl, List.Pairwise.nil, fun hl => absurd hl (by simp), grown_refl _ _⟩
  · obtain ⟨g, rfl⟩ := hf (by omega)
    have eg : ∀ args w, (callFunc 52 args).run Tryz.prog w = .ok (.enter 52 args) w := enters_of Tryz.func52 (by kernel_rfl) rfl
    have hH := holds_own h hz
    have hlt := own_lt h
    have hcon := AnyQ.slices_SortFunc Tryz.sortSt 2 Tryz.isAgg30 Tryz.sizeOf30 encSt (fun _ => rfl) (fun x v hv => by simp [encSt] at hv; rcases hv with rfl | rfl <;> rfl) cfSt swoSt 52 #[] g 0 c zs.toArray w eg (cmpSt g 0 _ w) hH hlt (by simp; omega)
    change Calls Tryz.prog 83 _ _ _ at hcon
    rw [show zs.toArray.size = n by simpa using hz] at hcon
    refine hcon.mono ?_
    rintro e w' ⟨rfl, d', m, os, hp, hs, rfl⟩
    have hsz : d'.size = n := by rw [hp.1]; simpa using hz
    have hperm : d'.toList.Perm zs := by
      have := hp.2.2
      rwa [Array.extract_eq_self_of_le (by omega), Array.extract_eq_self_of_le (by simp; omega)] at this
    refine ⟨rfl, d'.toList, some ⟨g, 0, none⟩, c, rfl, by simpa using hsz, fun z => hperm.mem_iff, ?_, ?_, grown_sort w g m d' os⟩
    · refine List.pairwise_iff_getElem.2 fun i j hi hj hij => ?_
      have h1 := hs i j (Nat.zero_le _) hij (by rw [← hsz]; simpa using hj)
      rw [ltOf_st, decide_eq_false_iff_not, getElem!_pos d' i (by simpa using hi), getElem!_pos d' j (by simpa using hj)] at h1
      simpa using h1
    · exact sts_holds (SWK.holds ⟨m, os, rfl⟩ hlt hH (by rw [hsz]; simpa using hz.symm)) (SWK.lt (enc := encSt) (k := 2) (off := 0) (dk := d') ⟨m, os, rfl⟩ hlt)

end Go.Proofs.YtdmbkjebagnloaaGreatDoor.hexes

namespace Go.Proofs.YtdmbkjebagnloaaGreatDoor.hexes
open Go.RowKit Go.Maps Go.Sort Go.Shelf

/-- A stamp as a value. -/
def stVal (s : Int × Int) : Value := .agg #[.int .i64 s.1, .int .i64 s.2]

set_option maxRecDepth 100000 in
set_option maxHeartbeats 1000000 in
theorem keysIt_in (F : Fence) (n : Nat) (hf : F.fn 84) (hro : F.round = none) (hn : 1 ≤ n) (l Bm b nn : Nat) (D0 : DataW Unit) (J : List (Int × Int) → World → Prop)
    (hY : ∀ pre x W, J pre W → pre.length < Maps.size D0 → YieldAt F (n - 1) Tryz.prog l #[stVal x] W fun e W' => e = .returned (.bool true) ∧ J (pre ++ [x]) W' ∧ KeepsWalks W W')
    (W : World) (hJ : AbidesFrom W.heap.size J) (hm : W.cell? ⟨Bm, 0, none⟩ = some (.map (some b))) (hown : W.ownsMap Tryz.prog 30 (plainElem Tryz.prog 3) b nn D0) (h0 : J [] W) :
    CallsIn F n Tryz.prog 84 #[.func (.yield l) #[] #[], .pointer (some ⟨Bm, 0, none⟩)] W fun e W' => (∃ v, e = .returned v) ∧ ∃ ss : List (Int × Int), (ss.Nodup ∧ (∀ s ∈ ss, wfSt s) ∧ ∀ s, wfSt s → (s ∈ ss ↔ Maps.has D0 (stKey s.1 s.2) = true)) ∧ J ss W' := by
  refine callsIn_of_wp Tryz.func84 rfl hf ?_ hro
  simp only [Tryz.ntmps84, List.size_toArray, List.length_cons, List.length_nil, Nat.reduceAdd, Nat.reduceSub, Array.replicate_succ, Array.replicate_zero, List.push_toArray, List.append_toArray, List.nil_append, List.cons_append]
  gi_wp2_with (first
    | (gi_at_range; refine wpListIn_range_own _ rfl _ 65 rfl 30 3 stKeyed Tryz.underlying65 _ b nn _ rfl hown ?_; intro w0 hrg0 hg0 hs0)
    | gi_in)
  go_frame
  gi_loopw [3] (fun _ wr => ∃ (left : Lit → Bool) (cnt : Nat) (ss : List (Int × Int)), wr.ranges Tryz.prog 30 (plainElem Tryz.prog 3) b W.heap.size nn D0 left cnt ∧ ss.length + cnt ≤ Maps.size D0 ∧ Met D0 left ss ∧ J ss wr)
    (fun _ wr => wr.rangeLeft b W.heap.size)
  case atStart =>
    exact ⟨_, _, [], hrg0, by simp, Met.start D0, hJ [] W w0 none h0 hg0 (fun r e => by cases e)⟩
  case round =>
    obtain ⟨left, cnt, ss, hrg, hcs, hC, hJs⟩ := hrel
    gi_wp2_with (first
      | (gi_at_next; refine wpListIn_next_ranges _ rfl _ rfl 30 stKeyed (plainElem Tryz.prog 3) stVal id (fun key kl hk => by obtain ⟨x, y, hx, _⟩ := stKey_inv hk; exact ⟨(x, y), hx⟩) (fun v _ _ => ⟨v, rfl⟩) b W.heap.size nn _ _ _ rfl hrg ?_ ?_)
      | gi_in)
    · intro hc0 hl0
      gi_wp2
      go_end0
      exact ⟨⟨_, rfl⟩, ss, ⟨hC.nodup, hC.wf, fun s hs => hC.all hl0 s hs⟩, hJs⟩
    · intro p q c kl yd yp w2 cnt2 hkey hlk hv hat hrg2 hlt hg2 hs2 hen
      obtain ⟨x', y', ex, rfl, hwx, hwy⟩ := stKey_inv hkey
      have exy : x' = p ∧ y' = q := by simp [stVal] at ex; exact ⟨ex.1.symm, ex.2.symm⟩
      obtain ⟨rfl, rfl⟩ := exy
      have hJ2 : J ss w2 := hJ ss wr w2 (some W.heap.size) hJs hg2 (fun r e => by cases e; exact ⟨Nat.le_refl _, hrg.iter_walk⟩)
      have hJ3 : J ss (w2.alloc (.cells #[.int .i64 x', .int .i64 y'] 30)) := hJ ss w2 _ none hJ2 (World.grownBy_alloc _ _ none) (fun r e => by cases e)
      obtain ⟨fn, tmps, assign, body, hy, hR⟩ := hY ss (x', y') _ hJ3 (by omega)
      have hrg2' := hrg2.alloc (.cells #[.int .i64 x', .int .i64 y'] 30)
      simp only [stVal] at hy hen
      clear hs2
      gi_wp2
      refine hR.mono ?_
      rintro e W3 ⟨rfl, hJ4, hk3⟩
      gi_wp2
      have hrg3 := hrg2'.of_walks hk3
      go_roundw
      case rel => exact ⟨_, cnt2, ss ++ [(x', y')], hrg3, by simp; omega, hC.step ⟨hwx, hwy⟩ hlk hat, hJ4⟩
      case measure => rw [hrg3.left_eq, hrg.left_eq]; exact hlt
end Go.Proofs.YtdmbkjebagnloaaGreatDoor.hexes

