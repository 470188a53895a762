/-
  The stamps of a map, sorted: the contracts of maps.Keys over stamps, of its iterator, of slices.AppendSeq, slices.Collect and slices.SortedFunc.
-/
import Derived.Test.YtdmbkjebagnloaaStMap
import Derived.Test.YtdmbkjebagnloaaSortSt
import Derived.RangeFuncBound
import Derived.Sort.MapsRangeIn
import Derived.Shelf.AbstractIn
import Derived.WalkKit
import Derived.OwnWalkIn
import Derived.TacticsInMore
import Derived.RegionIn
import Derived.LoopNIn
import Derived.LoopIn
namespace Go.Proofs.Ytdmbkjebagnloaa.hexes
open Go.RowKit Go.Maps Go.Sort Go.Shelf

/-- A stamp as a value. -/
def stVal (s : Int × Int) : Value := .agg #[.int .i64 s.1, .int .i64 s.2]

set_option maxRecDepth 100000 in
set_option maxHeartbeats 1000000 in
theorem keysIt_in (F : Fence) (n : Nat) (hf : F.fn 80) (hro : F.round = none) (hn : 1 ≤ n) (l Bm b nn : Nat) (D0 : DataW Unit) (J : List (Int × Int) → World → Prop)
    (hY : ∀ pre x W, J pre W → pre.length < Maps.size D0 → YieldAt F (n - 1) Try.prog l #[stVal x] W fun e W' => e = .returned (.bool true) ∧ J (pre ++ [x]) W' ∧ KeepsWalks W W')
    (W : World) (hJ : AbidesFrom W.heap.size J) (hm : W.cell? ⟨Bm, 0, none⟩ = some (.map (some b))) (hown : W.ownsMap Try.prog 34 (plainElem Try.prog 3) b nn D0) (h0 : J [] W) :
    CallsIn F n Try.prog 80 #[.func (.yield l) #[] #[], .pointer (some ⟨Bm, 0, none⟩)] W fun e W' => (∃ v, e = .returned v) ∧ ∃ ss : List (Int × Int), (ss.Nodup ∧ (∀ s ∈ ss, wfSt s) ∧ ∀ s, wfSt s → (s ∈ ss ↔ Maps.has D0 (stKey s.1 s.2) = true)) ∧ J ss W' := by
  refine callsIn_of_wp Try.func80 rfl hf ?_ hro
  simp only [Try.ntmps80, List.size_toArray, List.length_cons, List.length_nil, Nat.reduceAdd, Nat.reduceSub, Array.replicate_succ, Array.replicate_zero, List.push_toArray, List.append_toArray, List.nil_append, List.cons_append]
  gi_wp2_with (first
    | (gi_at_range; refine wpListIn_range_own _ rfl _ 70 rfl 34 3 stKeyed Try.underlying70 _ b nn _ rfl hown ?_; intro w0 hrg0 hg0 hs0)
    | gi_in)
  go_frame
  gi_loopw [3] (fun _ wr => ∃ (left : Lit → Bool) (cnt : Nat) (ss : List (Int × Int)), wr.ranges Try.prog 34 (plainElem Try.prog 3) b W.heap.size nn D0 left cnt ∧ ss.length + cnt ≤ Maps.size D0 ∧ Met D0 left ss ∧ J ss wr)
    (fun _ wr => wr.rangeLeft b W.heap.size)
  case atStart =>
    exact ⟨_, _, [], hrg0, by simp, Met.start D0, hJ [] W w0 none h0 hg0 (fun r e => by cases e)⟩
  case round =>
    obtain ⟨left, cnt, ss, hrg, hcs, hC, hJs⟩ := hrel
    gi_wp2_with (first
      | (gi_at_next; refine wpListIn_next_ranges _ rfl _ rfl 34 stKeyed (plainElem Try.prog 3) stVal id (fun key kl hk => by obtain ⟨x, y, hx, _⟩ := stKey_inv hk; exact ⟨(x, y), hx⟩) (fun v _ _ => ⟨v, rfl⟩) b W.heap.size nn _ _ _ rfl hrg ?_ ?_)
      | gi_in)
    · intro hc0 hl0
      gi_wp2
      go_end0
      exact ⟨⟨_, rfl⟩, ss, ⟨hC.nodup, hC.wf, fun s hs => hC.all hl0 s hs⟩, hJs⟩
    · intro p q c kl yd yp w2 cnt2 hkey hlk hv hat hrg2 hlt hg2 hs2 hen
      obtain ⟨x', y', ex, rfl, hwx, hwy⟩ := stKey_inv hkey
      have exy : x' = p ∧ y' = q := by simp [stVal] at ex; exact ⟨ex.1.symm, ex.2.symm⟩
      obtain ⟨rfl, rfl⟩ := exy
      have hJ2 : J ss w2 := hJ ss wr w2 (some W.heap.size) hJs hg2 (fun r e => by cases e; exact ⟨Nat.le_refl _, hrg.iter_walk⟩)
      have hJ3 : J ss (w2.alloc (.cells #[.int .i64 x', .int .i64 y'] 34)) := hJ ss w2 _ none hJ2 (World.grownBy_alloc _ _ none) (fun r e => by cases e)
      obtain ⟨fn, tmps, assign, body, hy, hR⟩ := hY ss (x', y') _ hJ3 (by omega)
      have hrg2' := hrg2.alloc (.cells #[.int .i64 x', .int .i64 y'] 34)
      simp only [stVal] at hy hen
      clear hs2
      gi_wp2
      refine hR.mono ?_
      rintro e W3 ⟨rfl, hJ4, hk3⟩
      gi_wp2
      have hrg3 := hrg2'.of_walks hk3
      go_roundw
      case rel => exact ⟨_, cnt2, ss ++ [(x', y')], hrg3, by simp; omega, hC.step ⟨hwx, hwy⟩ hlk hat, hJ4⟩
      case measure => rw [hrg3.left_eq, hrg.left_eq]; exact hlt
end Go.Proofs.Ytdmbkjebagnloaa.hexes
