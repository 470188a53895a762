/-
  FnInOrder on lists: the records that were sent and have not come back yet, and what each step makes of a link.
-/
import Derived.Test.YthkkleicekhelaaLkSent
import Derived.Test.YthkkleicekhelaaLkList
namespace Go.Proofs.Ythkkleicekhelaa.hexes
open Go.RowKit

/-- m records whose keys are cm, cm + 1, .. -/
def keyL (cm m : Nat) : List Rc := (List.range m).map fun i => (0, (0, 0), ((cm + i : Nat) : Int), 0)
theorem keyL_len (cm m : Nat) : (keyL cm m).length = m := by simp [keyL]
theorem keyL_drop (cm m : Nat) : (keyL cm (m + 1)).drop 1 = keyL (cm + 1) m := by
  apply List.ext_getElem
  · simp [keyL]
  · intro i h1 h2
    simp [keyL]
    omega
theorem keyL_head (cm m : Nat) : takeR true (keyL cm (m + 1)) = (0, (0, 0), (cm : Int), 0) := by simp [takeR, keyL, List.range_succ_eq_map]
theorem keyL_snoc (cm m : Nat) : keyL cm m ++ [(0, (0, 0), ((cm + m : Nat) : Int), 0)] = keyL cm (m + 1) := by simp [keyL, List.range_succ]
theorem okRc_key {x : Nat} (h : x ≤ 99) : okRc (0, (0, 0), (x : Int), 0) = true := by
  simp [okRc, okSt]; omega
theorem keyL_all {cm m : Nat} (h : cm + m ≤ 100) : (keyL cm m).all okRc = true := by
  rw [List.all_eq_true]
  intro z hz
  simp only [keyL, List.mem_map, List.mem_range] at hz
  obtain ⟨i, hi, rfl⟩ := hz
  exact okRc_key (by omega)

/-- The counters at the beginning of a round. -/
structure Inv (q : Int) (k sn cm m : Nat) (a b : Int) : Prop where
  q1 : 1 ≤ q
  q4 : q ≤ 4
  a0 : 0 ≤ a
  b0 : 0 ≤ b
  sum : a + b + (m : Int) = q
  sc : sn = cm + m
  sk : sn ≤ k
theorem Inv.ok {q : Int} {k sn cm m : Nat} {a b : Int} (h : Inv q k sn cm m a b) (hk : k ≤ 30) : okLk q a b (sn : Int) (cm : Int) (m : Int) (keyL cm m) = true := by
  obtain ⟨h1, h2, h3, h4, h5, h6, h7⟩ := h
  exact okLk_iff.2 ⟨h1, h2, h3, by omega, h4, by omega, h5, by omega, by omega, by omega, by omega, keyL_all (by omega)⟩
theorem Inv.next {q : Int} {k sn cm m : Nat} {a b : Int} (h : Inv q k sn cm m a b) : Inv q (k + 1) sn cm m a b := ⟨h.q1, h.q4, h.a0, h.b0, h.sum, h.sc, Nat.le_succ_of_le h.sk⟩
theorem Inv.take {q : Int} {k sn cm m : Nat} {a b : Int} (h : Inv q k sn cm (m + 1) a b) : Inv q (k + 1) sn (cm + 1) m a (b + 1) := by
  obtain ⟨h1, h2, h3, h4, h5, h6, h7⟩ := h
  exact ⟨h1, h2, h3, by omega, by omega, by omega, by omega⟩
theorem Inv.back {q : Int} {k sn cm m : Nat} {a b : Int} (h : Inv q k sn cm m a b) (hb : ¬b = 0) : Inv q (k + 1) sn cm m (a + 1) (b - 1) := by
  obtain ⟨h1, h2, h3, h4, h5, h6, h7⟩ := h
  exact ⟨h1, h2, by omega, by omega, by omega, by omega, by omega⟩
theorem Inv.send {q : Int} {k sn cm m : Nat} {a b : Int} (h : Inv q k sn cm m a b) (ha : ¬a = 0) : Inv q (k + 1) (sn + 1) cm (m + 1) (a - 1) b := by
  obtain ⟨h1, h2, h3, h4, h5, h6, h7⟩ := h
  exact ⟨h1, h2, by omega, by omega, by omega, by omega, by omega⟩
theorem takeOk_no {q : Int} {sn cm : Nat} {a b : Int} : takeOk q a b (sn : Int) (cm : Int) ((0 : Nat) : Int) (keyL cm 0) = false := by unfold takeOk; simp
theorem takeOk_yes {q : Int} {k sn cm m : Nat} {a b : Int} (h : Inv q k sn cm (m + 1) a b) (hk : k ≤ 30) : takeOk q a b (sn : Int) (cm : Int) ((m + 1 : Nat) : Int) (keyL cm (m + 1)) = true := by
  unfold takeOk; rw [h.ok hk]; simp; omega
theorem backOk_no {q : Int} {sn cm m : Nat} {a : Int} : backOk q a 0 (sn : Int) (cm : Int) (m : Int) (keyL cm m) = false := by unfold backOk; simp
theorem backOk_yes {q : Int} {k sn cm m : Nat} {a b : Int} (h : Inv q k sn cm m a b) (hk : k ≤ 30) (hb : ¬b = 0) : backOk q a b (sn : Int) (cm : Int) (m : Int) (keyL cm m) = true := by
  unfold backOk; rw [h.ok hk]; simp [hb]
theorem sendOk_no {q : Int} {sn cm m : Nat} {b : Int} : sendOk q 0 b (sn : Int) (cm : Int) (m : Int) (keyL cm m) (0, (0, 0), (sn : Int), 0) = false := by unfold sendOk; simp
theorem sendOk_yes {q : Int} {k sn cm m : Nat} {a b : Int} (h : Inv q k sn cm m a b) (hk : k ≤ 30) (ha : ¬a = 0) : sendOk q a b (sn : Int) (cm : Int) (m : Int) (keyL cm m) (0, (0, 0), (sn : Int), 0) = true := by
  have := h.sk
  unfold sendOk; rw [h.ok hk, okRc_key (by omega)]; simp [ha]; omega
theorem send_keyL {q : Int} {k sn cm m : Nat} {a b : Int} (h : Inv q k sn cm m a b) : sendQ true (keyL cm m) (0, (0, 0), (sn : Int), 0) = keyL cm (m + 1) := by
  rw [← keyL_snoc, ← h.sc]; rfl

/-- What holds at the beginning of a round. -/
def InRound (w2 : World) (q : Int) (sv cv iv : Value) (wr : World) : Prop :=
  ∃ (k sn cm m c lo hi : Nat) (a b : Int) (A : Option Addr), k ≤ 30 ∧ sv = .int .i64 (sn : Int) ∧ cv = .int .i64 (cm : Int) ∧ iv = .int .i64 (k : Int) ∧ Inv q k sn cm m a b ∧ Blk wr w2.heap.size 26 #[.int .i64 q, .slice A m c, .int .i64 a, .int .i64 b, .int .i64 (sn : Int), .int .i64 (cm : Int)] ∧ Row wr lo hi 30 5 A m c (rcCells (keyL cm m)) ∧ w2.heap.size < lo ∧ Below w2.heap.size w2 wr
theorem row_none (w : World) (g : Nat) : Row w g g 30 5 none 0 0 (rcCells []) := ⟨World.ownsRow_nil w g _ _, fun _ h => by simp [Value.ownBlock] at h⟩
end Go.Proofs.Ythkkleicekhelaa.hexes
