/-
  What FnStamps asks of chapter 2, at two stamps: one structure of facts, from the contracts.
-/
import Derived.Test.YtpodppmcdikmbaaDoorText
import Derived.Test.YtpodppmcdikmbaaDoorDrawTwo
namespace Go.Proofs.YtpodppmcdikmbaaDoor.fnStamps
open Go.RowKit Go.Proofs.YtpodppmcdikmbaaDoor.hexes

structure Facts (x y u v m0 m1 j0 j1 ny : Int) (hn ok L : Bool) (tx : ByteArray) (o o2 : Int) : Prop where
  MM : ∀ W : World, Calls Tryd.prog 7 #[.agg #[.int .i64 x, .int .i64 y], .agg #[.int .i64 u, .int .i64 v]] W fun e w' => e = .returned (.agg #[.int .i64 m0, .int .i64 m1]) ∧ Below W.heap.size W w'
  JJ : ∀ W : World, Calls Tryd.prog 8 #[.agg #[.int .i64 x, .int .i64 y], .agg #[.int .i64 u, .int .i64 v]] W fun e w' => e = .returned (.agg #[.int .i64 j0, .int .i64 j1]) ∧ Below W.heap.size W w'
  NI : ∀ W : World, Calls Tryd.prog 9 #[.agg #[.int .i64 x, .int .i64 y]] W fun e w' => e = .returned (.tuple #[.agg #[.int .i64 x, .int .i64 ny], .bool hn]) ∧ Below W.heap.size W w'
  NS : ∀ W : World, Calls Tryd.prog 10 #[.agg #[.int .i64 x, .int .i64 y]] W fun e w' => e = .returned (.tuple #[.agg #[.int .i64 x, .int .i64 ny], .bool hn]) ∧ Below W.heap.size W w'
  OI : ∀ W : World, Calls Tryd.prog 11 #[.agg #[.int .i64 x, .int .i64 y]] W fun e w' => e = .returned (.bool ok) ∧ Below W.heap.size W w'
  OS : ∀ W : World, Calls Tryd.prog 12 #[.agg #[.int .i64 x, .int .i64 y]] W fun e w' => e = .returned (.bool ok) ∧ Below W.heap.size W w'
  TS : ∀ W : World, Calls Tryd.prog 14 #[.agg #[.int .i64 x, .int .i64 y]] W fun e w' => e = .returned (.string tx) ∧ Below W.heap.size W w'
  TI : ∀ W : World, Lib.TabIs Tryd.prog W "internal/strconv.uint64pow10" .u64 Lib.pow10Tab → Calls Tryd.prog 13 #[.agg #[.int .i64 x, .int .i64 y]] W fun e w' => e = .returned (.string tx) ∧ Below W.heap.size W w'
  L0 : ∀ W : World, Calls Tryd.prog 15 #[.agg #[.int .i64 x, .int .i64 y], .agg #[.int .i64 u, .int .i64 v]] W fun e w' => e = .returned (.bool L) ∧ Below W.heap.size W w'
  L1 : ∀ W : World, Calls Tryd.prog 15 #[.agg #[.int .i64 m0, .int .i64 m1], .agg #[.int .i64 x, .int .i64 y]] W fun e w' => e = .returned (.bool true) ∧ Below W.heap.size W w'
  L2 : ∀ W : World, Calls Tryd.prog 15 #[.agg #[.int .i64 m0, .int .i64 m1], .agg #[.int .i64 u, .int .i64 v]] W fun e w' => e = .returned (.bool true) ∧ Below W.heap.size W w'
  L3 : ∀ W : World, Calls Tryd.prog 15 #[.agg #[.int .i64 x, .int .i64 y], .agg #[.int .i64 j0, .int .i64 j1]] W fun e w' => e = .returned (.bool true) ∧ Below W.heap.size W w'
  L4 : ∀ W : World, Calls Tryd.prog 15 #[.agg #[.int .i64 u, .int .i64 v], .agg #[.int .i64 j0, .int .i64 j1]] W fun e w' => e = .returned (.bool true) ∧ Below W.heap.size W w'
  O1 : ∀ W : World, Calls Tryd.prog 16 #[.agg #[.int .i64 x, .int .i64 y], .agg #[.int .i64 u, .int .i64 v]] W fun e w' => e = .returned (.int .i64 o) ∧ Below W.heap.size W w'
  O2 : ∀ W : World, Calls Tryd.prog 16 #[.agg #[.int .i64 u, .int .i64 v], .agg #[.int .i64 x, .int .i64 y]] W fun e w' => e = .returned (.int .i64 o2) ∧ Below W.heap.size W w'
  L5 : hn = true → ∀ W : World, Calls Tryd.prog 15 #[.agg #[.int .i64 x, .int .i64 y], .agg #[.int .i64 x, .int .i64 ny]] W fun e w' => e = .returned (.bool true) ∧ Below W.heap.size W w'
  TX : ∀ W : World, Lib.TabIs Tryd.prog W "internal/strconv.uint64pow10" .u64 Lib.pow10Tab → Calls Tryd.prog 13 #[.agg #[.int .i64 1, .int .i64 2]] W fun e w' => e = .returned (.string ⟨#[49, 46, 50]⟩) ∧ Below W.heap.size W w'
  neg : IntKind.i64.wrap (-o2) = o
  hL : (true = L ∧ x = m0 ∧ y = m1 ∧ u = j0 ∧ v = j1 ∧ decide (o ≤ 0) = true) ∨ (false = L ∧ ¬(m0 = x ∧ m1 = y) ∧ ¬(j0 = u ∧ j1 = v))
  hN : (true = hn ∧ ¬ny = y) ∨ (false = hn ∧ y = ny)

theorem leq_is {x y u v : Int} {b : Bool} (h : leqSt x y u v = b) (W : World) : Calls Tryd.prog 15 #[.agg #[.int .i64 x, .int .i64 y], .agg #[.int .i64 u, .int .i64 v]] W fun e w' => e = .returned (.bool b) ∧ Below W.heap.size W w' := by
  subst h; exact implLeq_any _ _ _ _ W

theorem text12 : dotText 1 2 = ⟨#[49, 46, 50]⟩ := by decide +kernel

theorem order_leq {x y u v : Int} (h : x ≤ u ∧ y ≤ v) : ordSt x y u v ≤ 0 := by
  unfold ordSt ordI
  split <;> split <;> (first | omega | (split <;> omega))

theorem facts (x y u v : Int) (hx : In64 x) (hy : In64 y) : ∃ m0 m1 j0 j1 ny hn ok L tx o o2, Facts x y u v m0 m1 j0 j1 ny hn ok L tx o o2 := by
  refine ⟨min x u, min y v, max x u, max y v, nextY x y, hasNext x y, okSt x y, leqSt x y u v, dotText x y, ordSt x y u v, ordSt u v x y, ?_⟩
  constructor
  · exact implMeet_any _ _ _ _
  · exact implJoin_any _ _ _ _
  · exact implNext_any _ _
  · exact specNext_any _ _
  · exact implOk_any _ _
  · exact specOk_any _ _
  · exact specText_any _ _ hx hy
  · exact implText_any _ _ hx hy
  · exact implLeq_any _ _ _ _
  · exact leq_is (by simp [leqSt]; omega)
  · exact leq_is (by simp [leqSt]; omega)
  · exact leq_is (by simp [leqSt]; omega)
  · exact leq_is (by simp [leqSt]; omega)
  · exact implOrder_any _ _ _ _
  · exact implOrder_any _ _ _ _
  · intro h
    rw [nextY_yes h]
    exact leq_is (by simp [leqSt]; omega)
  · exact text12 ▸ implText_any 1 2 ⟨by omega, by omega⟩ ⟨by omega, by omega⟩
  · have h := ordSt_neg x y u v
    have k := ordSt_bd x y u v
    rw [← h]
    exact IntWalk.i64_in _ (by omega)
  · by_cases h : x ≤ u ∧ y ≤ v
    · have ho := order_leq h
      left
      refine ⟨by simp [leqSt]; omega, by omega, by omega, by omega, by omega, by simpa using ho⟩
    · right
      refine ⟨by simp [leqSt]; omega, by omega, by omega⟩
  · by_cases h : hasNext x y = true
    · exact .inl ⟨h.symm, by rw [nextY_yes h]; omega⟩
    · exact .inr ⟨(by simpa using h : hasNext x y = false).symm, (nextY_no (by simpa using h)).symm⟩
end Go.Proofs.YtpodppmcdikmbaaDoor.fnStamps
