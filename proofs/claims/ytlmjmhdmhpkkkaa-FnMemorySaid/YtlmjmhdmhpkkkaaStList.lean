/-
  Lists of stamps in memory: how they lie there, and the contracts of the laws' own functions on them.
-/
import Derived.Test.YtlmjmhdmhpkkkaaStamps
import Derived.Test.YtlmjmhdmhpkkkaaOwned
import Derived.Deep.RegionHeld3
namespace Go.Proofs.Ytlmjmhdmhpkkkaa.hexes
open Go.RowKit

/-- A list of stamps as a row of cells. -/
def stCells (zs : List (Int × Int)) : List Value := zs.flatMap fun z => [.int .i64 z.1, .int .i64 z.2]

theorem stCells_nil : stCells [] = [] := rfl
theorem stCells_cons (z : Int × Int) (zs : List (Int × Int)) : stCells (z :: zs) = .int .i64 z.1 :: .int .i64 z.2 :: stCells zs := rfl
theorem stCells_append (a b : List (Int × Int)) : stCells (a ++ b) = stCells a ++ stCells b := by simp [stCells]
theorem stCells_length (zs : List (Int × Int)) : (stCells zs).length = zs.length * 2 := by
  induction zs with
  | nil => rfl
  | cons z zs ih => rw [stCells_cons]; simp only [List.length_cons, ih]; omega
theorem stCells_at (zs : List (Int × Int)) (j : Nat) (h : j < zs.length) : (stCells zs)[j * 2]? = some (.int .i64 zs[j].1) ∧ (stCells zs)[j * 2 + 1]? = some (.int .i64 zs[j].2) := by
  induction zs generalizing j with
  | nil => simp at h
  | cons z zs ih =>
    rw [stCells_cons]
    cases j with
    | zero => exact ⟨rfl, rfl⟩
    | succ j =>
      have := ih j (by simpa using h)
      rw [show (j + 1) * 2 = j * 2 + 1 + 1 by omega, show j * 2 + 1 + 1 + 1 = (j * 2 + 1) + 1 + 1 by omega]
      simpa using this

/-- A list of stamps that can be read at A. -/
def Sts (w : World) (A : Option Addr) (zs : List (Int × Int)) : Prop :=
  0 < zs.length → ∃ b off, A = some ⟨b, off, none⟩ ∧ b < w.heap.size ∧ ∀ j, (h : j < zs.length) → w.cell? ⟨b, off + j * 2, none⟩ = some (.int .i64 zs[j].1) ∧ w.cell? ⟨b, off + j * 2 + 1, none⟩ = some (.int .i64 zs[j].2)

theorem Sts.below {w w' : World} {A : Option Addr} {zs : List (Int × Int)} (h : Sts w A zs) (hb : Below w.heap.size w w') : Sts w' A zs := fun hl => by
  obtain ⟨b, off, hA, hlt, hz⟩ := h hl
  exact ⟨b, off, hA, Nat.lt_of_lt_of_le hlt hb.size, fun j hj => ⟨below_keep hb (hz j hj).1, below_keep hb (hz j hj).2⟩⟩

theorem Sts.of_own {w : World} {B e n : Nat} {v : Value} {zs : List (Int × Int)} (h : w.ownsRow B e 2 v n (stCells zs)) : ∃ A cap, v = .slice A n cap ∧ zs.length = n ∧ Sts w A zs := by
  have hl : zs.length = n := by have := h.1; rw [stCells_length] at this; omega
  rcases h.2 with ⟨rfl, rfl⟩ | ⟨g, cap, cur, rfl, _, hg, hnc, _, hcs, htk⟩
  · exact ⟨none, 0, rfl, hl, fun h => absurd h (by omega)⟩
  · refine ⟨some ⟨g, 0, none⟩, cap, rfl, hl, fun hp => ⟨g, 0, rfl, ?_, fun j hj => ?_⟩⟩
    · rcases Nat.lt_or_ge g w.heap.size with hlt | hge
      · exact hlt
      · rw [Array.getElem?_eq_none hge] at hg; cases hg
    · have key : ∀ i u, (stCells zs)[i]? = some u → w.cell? ⟨g, i, none⟩ = some u := fun i u hu => by
        rw [cell_of_row w g i cur e (0, 0) hg]
        rw [← htk, List.getElem?_take] at hu
        split at hu
        · simpa using hu
        · cases hu
      rw [Nat.zero_add]
      exact ⟨key _ _ (stCells_at zs j hj).1, key _ _ (stCells_at zs j hj).2⟩

theorem take_step {zs ys : List (Int × Int)} {k : Nat} (h1 : k < zs.length) (h2 : k < ys.length) (ht : zs.take k = ys.take k) (he : zs[k] = ys[k]) : zs.take (k + 1) = ys.take (k + 1) := by
  rw [List.take_succ_eq_append_getElem h1, List.take_succ_eq_append_getElem h2, ht, he]

/-- The k-th stamp of a list that can be read, cell by cell. -/
theorem Sts.at {w : World} {A : Option Addr} {zs : List (Int × Int)} (h : Sts w A zs) {k : Nat} (hk : k < zs.length) : ∃ b off p q, A = some ⟨b, off, none⟩ ∧ zs[k] = (p, q) ∧ w.cell? ⟨b, off + k * 2, none⟩ = some (.int .i64 p) ∧ w.cell? ⟨b, off + k * 2 + 1, none⟩ = some (.int .i64 q) := by
  obtain ⟨b, off, hA, _, hz⟩ := h (by omega)
  exact ⟨b, off, zs[k].1, zs[k].2, hA, rfl, (hz k hk).1, (hz k hk).2⟩

theorem stCells_made (n : Nat) : (madeCells #[.int .i64 0, .int .i64 0] (n * 2)).toList = stCells (List.replicate n (0, 0)) := by
  apply List.ext_getElem?
  intro i
  have hl : (stCells (List.replicate n ((0 : Int), (0 : Int)))).length = n * 2 := by rw [stCells_length]; simp
  by_cases hi : i < n * 2
  · have hL : (madeCells #[.int .i64 0, .int .i64 0] (n * 2)).toList[i]? = some (.int .i64 0) := by
      simp only [madeCells, Array.toList_map, Array.toList_range, List.getElem?_map, List.getElem?_range hi, Option.map_some]
      rcases Nat.mod_two_eq_zero_or_one i with h | h
      · simp [h]
      · simp [h]
    rw [hL]
    have hj : i / 2 < (List.replicate n ((0 : Int), (0 : Int))).length := by simp; omega
    have := stCells_at (List.replicate n (0, 0)) (i / 2) hj
    rcases Nat.mod_two_eq_zero_or_one i with h | h
    · rw [show i / 2 * 2 = i by omega] at this
      rw [this.1]; simp
    · rw [show i / 2 * 2 + 1 = i by omega] at this
      rw [this.2]; simp
  · rw [List.getElem?_eq_none (by simp [size_madeCells]; omega), List.getElem?_eq_none (by omega)]

theorem stCells_set (zs : List (Int × Int)) (k : Nat) (x y : Int) : ((stCells zs).set (k * 2) (.int .i64 x)).set (k * 2 + 1) (.int .i64 y) = stCells (zs.set k (x, y)) := by
  induction zs generalizing k with
  | nil => simp [stCells]
  | cons z zs ih =>
    cases k with
    | zero => rfl
    | succ k =>
      rw [stCells_cons, List.set_cons_succ, stCells_cons, ← ih k, show (k + 1) * 2 = k * 2 + 2 by omega, show k * 2 + 2 + 1 = (k * 2 + 1) + 2 by omega]
      rfl

theorem fill_step {zs : List (Int × Int)} {k n : Nat} (hk : k < zs.length) (hn : zs.length = n) : (zs.take k ++ List.replicate (n - k) ((0 : Int), (0 : Int))).set k zs[k] = zs.take (k + 1) ++ List.replicate (n - (k + 1)) (0, 0) := by
  have hl : (zs.take k).length = k := by simp; omega
  rw [List.set_append_right _ _ (by omega), hl, Nat.sub_self, show n - k = (n - (k + 1)) + 1 by omega, List.replicate_succ, List.set_cons_zero, List.take_succ_eq_append_getElem hk]
  simp only [List.append_assoc, List.singleton_append]

/-- A store of a stamp into an owned row. -/
theorem own_stored2 {w : World} {base e g n cap : Nat} {ys : List (Int × Int)} (h : w.ownsRow base e 2 (.slice (some ⟨g, 0, none⟩) n cap) n (stCells ys)) (k : Nat) (x y : Int) :
    ((w.setCell ⟨g, k * 2, none⟩ (.int .i64 x)).setCell ⟨g, k * 2 + 1, none⟩ (.int .i64 y)).ownsRow base e 2 (.slice (some ⟨g, 0, none⟩) n cap) n (stCells (ys.set k (x, y))) ∧ w.grownBy ((w.setCell ⟨g, k * 2, none⟩ (.int .i64 x)).setCell ⟨g, k * 2 + 1, none⟩ (.int .i64 y)) (some g) := by
  have h1 := h.stored (k * 2) (.int .i64 x)
  have h2 := h1.1.stored (k * 2 + 1) (.int .i64 y)
  rw [stCells_set] at h2
  exact ⟨h2.1, grown_trans h1.2 h2.2⟩

/-- The marks that the laws lay into a list of stamps. -/
def stMarks (k n : Nat) : List (Int × Int) := (List.range n).map fun i => (((k + 2 * i : Nat) : Int), ((k + 2 * i + 1 : Nat) : Int))

theorem stMarks_length (k n : Nat) : (stMarks k n).length = n := by simp [stMarks]
theorem stMarks_succ (k n : Nat) : stMarks k (n + 1) = stMarks k n ++ [(((k + 2 * n : Nat) : Int), ((k + 2 * n + 1 : Nat) : Int))] := by
  unfold stMarks; rw [List.range_succ, List.map_append]; rfl
theorem stMarks_at (k n j : Nat) (h : j < (stMarks k n).length) : (stMarks k n)[j] = (((k + 2 * j : Nat) : Int), ((k + 2 * j + 1 : Nat) : Int)) := by simp [stMarks]
theorem stMarks_set {zs : List (Int × Int)} {k i n : Nat} (hi : i < n) (hl : zs.length = n) : (stMarks k i ++ zs.drop i).set i (((k + 2 * i : Nat) : Int), ((k + 2 * i + 1 : Nat) : Int)) = stMarks k (i + 1) ++ zs.drop (i + 1) := by
  have l1 := stMarks_length k i
  rw [List.set_append_right _ _ (by omega), l1, Nat.sub_self, List.drop_eq_getElem_cons (by omega), List.set_cons_zero, stMarks_succ]
  simp only [List.append_assoc, List.singleton_append]

end Go.Proofs.Ytlmjmhdmhpkkkaa.hexes
