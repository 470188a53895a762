/-
  Lists of Record in memory: how they lie there, and the contracts of the laws' own functions on them.
-/
import Derived.Test.YthkkleicekhelaaRcBase
import Derived.Test.YthkkleicekhelaaCtKit
import Derived.Test.YthkkleicekhelaaRows2
namespace Go.Proofs.Ythkkleicekhelaa.hexes
open Go.RowKit

/-- A list of Record as a row of cells. -/
def rcCells (zs : List Rc) : List Value := zs.flatMap fun z => [.int .i64 z.1, .int .i64 z.2.1.1, .int .i64 z.2.1.2, .int .i64 z.2.2.1, .int .i64 z.2.2.2]

theorem rcCells_nil : rcCells [] = [] := rfl
theorem rcCells_cons (z : Rc) (zs : List Rc) : rcCells (z :: zs) = .int .i64 z.1 :: .int .i64 z.2.1.1 :: .int .i64 z.2.1.2 :: .int .i64 z.2.2.1 :: .int .i64 z.2.2.2 :: rcCells zs := rfl
theorem rcCells_append (a b : List Rc) : rcCells (a ++ b) = rcCells a ++ rcCells b := by simp [rcCells]
theorem rcCells_length (zs : List Rc) : (rcCells zs).length = zs.length * 5 := by
  induction zs with
  | nil => rfl
  | cons z zs ih => rw [rcCells_cons]; simp only [List.length_cons, ih]; omega
theorem rcCells_at (zs : List Rc) (j : Nat) (h : j < zs.length) : (rcCells zs)[j * 5]? = some (.int .i64 zs[j].1) ∧ (rcCells zs)[j * 5 + 1]? = some (.int .i64 zs[j].2.1.1) ∧ (rcCells zs)[j * 5 + 2]? = some (.int .i64 zs[j].2.1.2) ∧ (rcCells zs)[j * 5 + 3]? = some (.int .i64 zs[j].2.2.1) ∧ (rcCells zs)[j * 5 + 4]? = some (.int .i64 zs[j].2.2.2) := by
  induction zs generalizing j with
  | nil => simp at h
  | cons z zs ih =>
    rw [rcCells_cons]
    cases j with
    | zero => exact ⟨rfl, rfl, rfl, rfl, rfl⟩
    | succ j =>
      have := ih j (by simpa using h)
      rw [show (j + 1) * 5 = j * 5 + 1 + 1 + 1 + 1 + 1 by omega]
      simpa using this
theorem rcCells_one {zs : List Rc} {u : Value} (h : u ∈ rcCells zs) : u.oneCell' = true := by
  simp only [rcCells, List.mem_flatMap, List.mem_cons, List.not_mem_nil, or_false] at h
  obtain ⟨z, _, rfl | rfl | rfl | rfl | rfl⟩ := h <;> rfl

/-- A list of Record that can be read at A. -/
def Rcs (w : World) (A : Option Addr) (zs : List Rc) : Prop :=
  0 < zs.length → ∃ b off, A = some ⟨b, off, none⟩ ∧ b < w.heap.size ∧ ∀ j, (h : j < zs.length) → w.cell? ⟨b, off + j * 5, none⟩ = some (.int .i64 zs[j].1) ∧ w.cell? ⟨b, off + j * 5 + 1, none⟩ = some (.int .i64 zs[j].2.1.1) ∧ w.cell? ⟨b, off + j * 5 + 2, none⟩ = some (.int .i64 zs[j].2.1.2) ∧ w.cell? ⟨b, off + j * 5 + 3, none⟩ = some (.int .i64 zs[j].2.2.1) ∧ w.cell? ⟨b, off + j * 5 + 4, none⟩ = some (.int .i64 zs[j].2.2.2)

theorem Rcs.below {w w' : World} {A : Option Addr} {zs : List Rc} (h : Rcs w A zs) (hb : Below w.heap.size w w') : Rcs w' A zs := fun hl => by
  obtain ⟨b, off, hA, hlt, hz⟩ := h hl
  refine ⟨b, off, hA, Nat.lt_of_lt_of_le hlt hb.size, fun j hj => ?_⟩
  obtain ⟨h0, h1, h2, h3, h4⟩ := hz j hj
  exact ⟨below_keep hb h0, below_keep hb h1, below_keep hb h2, below_keep hb h3, below_keep hb h4⟩

theorem Rcs.of_own {w : World} {B e n : Nat} {v : Value} {zs : List Rc} (h : w.ownsRow B e 5 v n (rcCells zs)) : ∃ A cap, v = .slice A n cap ∧ zs.length = n ∧ Rcs w A zs := by
  have hl : zs.length = n := by have := h.1; rw [rcCells_length] at this; omega
  rcases h.2 with ⟨rfl, rfl⟩ | ⟨g, cap, cur, rfl, _, hg, hnc, _, hcs, htk⟩
  · exact ⟨none, 0, rfl, hl, fun h => absurd h (by omega)⟩
  · refine ⟨some ⟨g, 0, none⟩, cap, rfl, hl, fun hp => ⟨g, 0, rfl, ?_, fun j hj => ?_⟩⟩
    · rcases Nat.lt_or_ge g w.heap.size with hlt | hge
      · exact hlt
      · rw [Array.getElem?_eq_none hge] at hg; cases hg
    · have key : ∀ i u, (rcCells zs)[i]? = some u → w.cell? ⟨g, i, none⟩ = some u := fun i u hu => by
        rw [cell_of_row w g i cur e (0, 0) hg]
        rw [← htk, List.getElem?_take] at hu
        split at hu
        · simpa using hu
        · cases hu
      rw [Nat.zero_add]
      obtain ⟨h0, h1, h2, h3, h4⟩ := rcCells_at zs j hj
      exact ⟨key _ _ h0, key _ _ h1, key _ _ h2, key _ _ h3, key _ _ h4⟩

/-- The k-th entry of a list that can be read, cell by cell. -/
theorem Rcs.at {w : World} {A : Option Addr} {zs : List Rc} (h : Rcs w A zs) {k : Nat} (hk : k < zs.length) : ∃ b off p0 p1 p2 p3 p4, A = some ⟨b, off, none⟩ ∧ zs[k] = (p0, (p1, p2), p3, p4) ∧ w.cell? ⟨b, off + k * 5, none⟩ = some (.int .i64 p0) ∧ w.cell? ⟨b, off + k * 5 + 1, none⟩ = some (.int .i64 p1) ∧ w.cell? ⟨b, off + k * 5 + 2, none⟩ = some (.int .i64 p2) ∧ w.cell? ⟨b, off + k * 5 + 3, none⟩ = some (.int .i64 p3) ∧ w.cell? ⟨b, off + k * 5 + 4, none⟩ = some (.int .i64 p4) := by
  obtain ⟨b, off, hA, _, hz⟩ := h (by omega)
  obtain ⟨h0, h1, h2, h3, h4⟩ := hz k hk
  exact ⟨b, off, zs[k].1, zs[k].2.1.1, zs[k].2.1.2, zs[k].2.2.1, zs[k].2.2.2, hA, rfl, h0, h1, h2, h3, h4⟩

theorem Rcs.news {w : World} {ad : Addr} {ys : List Rc} (h : Rcs w (some ad) ys) (j : Nat) (u : Value) (hu : (rcCells ys)[j]? = some u) : w.cell? (ad.add j) = some u := by
  have hj : j < ys.length * 5 := by rw [← rcCells_length]; exact (List.getElem?_eq_some_iff.1 hu).1
  obtain ⟨b, off, hA, _, hz⟩ := h (by omega)
  obtain rfl : ad = ⟨b, off, none⟩ := Option.some.inj hA
  rw [addr_add1]
  have hk : j / 5 < ys.length := by omega
  obtain ⟨e0, e1, e2, e3, e4⟩ := rcCells_at ys (j / 5) hk
  obtain ⟨z0, z1, z2, z3, z4⟩ := hz (j / 5) hk
  have hm : j % 5 = 0 ∨ j % 5 = 1 ∨ j % 5 = 2 ∨ j % 5 = 3 ∨ j % 5 = 4 := by omega
  rcases hm with h2 | h2 | h2 | h2 | h2
  · rw [show j / 5 * 5 = j by omega] at e0
    rw [show off + j / 5 * 5 = off + j by omega] at z0
    rw [z0, ← hu, e0]
  · rw [show j / 5 * 5 + 1 = j by omega] at e1
    rw [show off + j / 5 * 5 + 1 = off + j by omega] at z1
    rw [z1, ← hu, e1]
  · rw [show j / 5 * 5 + 2 = j by omega] at e2
    rw [show off + j / 5 * 5 + 2 = off + j by omega] at z2
    rw [z2, ← hu, e2]
  · rw [show j / 5 * 5 + 3 = j by omega] at e3
    rw [show off + j / 5 * 5 + 3 = off + j by omega] at z3
    rw [z3, ← hu, e3]
  · rw [show j / 5 * 5 + 4 = j by omega] at e4
    rw [show off + j / 5 * 5 + 4 = off + j by omega] at z4
    rw [z4, ← hu, e4]

theorem rcs_none {w : World} {n : Nat} {zs : List Rc} (h : Rcs w none zs) (hz : zs.length = n) : n = 0 := by
  rcases Nat.eq_zero_or_pos n with h0 | h0
  · exact h0
  · obtain ⟨b, off, hA, _⟩ := h (by omega)
    cases hA

theorem take_step_rc {zs ys : List Rc} {k : Nat} (h1 : k < zs.length) (h2 : k < ys.length) (ht : zs.take k = ys.take k) (he : zs[k] = ys[k]) : zs.take (k + 1) = ys.take (k + 1) := by
  rw [List.take_succ_eq_append_getElem h1, List.take_succ_eq_append_getElem h2, ht, he]

theorem rcinfo : (Try.prog.info? 30).map (fun i => (i.zero, i.size, i.bytes)) = some (some (.agg #[.int .i64 0, .int .i64 0, .int .i64 0, .int .i64 0, .int .i64 0]), 5, 40) := by kernel_rfl

theorem rcCells_made (n : Nat) : (madeCells #[.int .i64 0, .int .i64 0, .int .i64 0, .int .i64 0, .int .i64 0] (n * 5)).toList = rcCells (List.replicate n (0, (0, 0), 0, 0)) := by
  apply List.ext_getElem?
  intro i
  have hl : (rcCells (List.replicate n ((0, (0, 0), 0, 0) : Rc))).length = n * 5 := by rw [rcCells_length]; simp
  by_cases hi : i < n * 5
  · have hm : i % 5 = 0 ∨ i % 5 = 1 ∨ i % 5 = 2 ∨ i % 5 = 3 ∨ i % 5 = 4 := by omega
    have hL : (madeCells #[.int .i64 0, .int .i64 0, .int .i64 0, .int .i64 0, .int .i64 0] (n * 5)).toList[i]? = some (.int .i64 0) := by
      simp only [madeCells, Array.toList_map, Array.toList_range, List.getElem?_map, List.getElem?_range hi, Option.map_some]
      rcases hm with h | h | h | h | h <;> simp [h]
    rw [hL]
    have hj : i / 5 < (List.replicate n ((0, (0, 0), 0, 0) : Rc)).length := by simp; omega
    obtain ⟨e0, e1, e2, e3, e4⟩ := rcCells_at (List.replicate n (0, (0, 0), 0, 0)) (i / 5) hj
    rcases hm with h | h | h | h | h
    · rw [show i / 5 * 5 = i by omega] at e0
      rw [e0]; simp
    · rw [show i / 5 * 5 + 1 = i by omega] at e1
      rw [e1]; simp
    · rw [show i / 5 * 5 + 2 = i by omega] at e2
      rw [e2]; simp
    · rw [show i / 5 * 5 + 3 = i by omega] at e3
      rw [e3]; simp
    · rw [show i / 5 * 5 + 4 = i by omega] at e4
      rw [e4]; simp
  · rw [List.getElem?_eq_none (by simp [size_madeCells]; omega), List.getElem?_eq_none (by omega)]

theorem rcCells_set (zs : List Rc) (k : Nat) (p0 p1 p2 p3 p4 : Int) : (((((rcCells zs).set (k * 5) (.int .i64 p0)).set (k * 5 + 1) (.int .i64 p1)).set (k * 5 + 2) (.int .i64 p2)).set (k * 5 + 3) (.int .i64 p3)).set (k * 5 + 4) (.int .i64 p4) = rcCells (zs.set k (p0, (p1, p2), p3, p4)) := by
  induction zs generalizing k with
  | nil => simp [rcCells]
  | cons z zs ih =>
    cases k with
    | zero => rfl
    | succ k =>
      rw [rcCells_cons, List.set_cons_succ, rcCells_cons, ← ih k, show (k + 1) * 5 = k * 5 + 5 by omega, show k * 5 + 5 + 1 = (k * 5 + 1) + 5 by omega, show k * 5 + 5 + 2 = (k * 5 + 2) + 5 by omega, show k * 5 + 5 + 3 = (k * 5 + 3) + 5 by omega, show k * 5 + 5 + 4 = (k * 5 + 4) + 5 by omega]
      rfl

theorem fill_step_rc {zs : List Rc} {k n : Nat} (hk : k < zs.length) (hn : zs.length = n) : (zs.take k ++ List.replicate (n - k) ((0, (0, 0), 0, 0) : Rc)).set k zs[k] = zs.take (k + 1) ++ List.replicate (n - (k + 1)) (0, (0, 0), 0, 0) := by
  have hl : (zs.take k).length = k := by simp; omega
  rw [List.set_append_right _ _ (by omega), hl, Nat.sub_self, show n - k = (n - (k + 1)) + 1 by omega, List.replicate_succ, List.set_cons_zero, List.take_succ_eq_append_getElem hk]
  simp only [List.append_assoc, List.singleton_append]

/-- A store of one into an owned row. -/
theorem own_stored_rc {w : World} {base e g n cap : Nat} {ys : List Rc} (h : w.ownsRow base e 5 (.slice (some ⟨g, 0, none⟩) n cap) n (rcCells ys)) (k : Nat) (p0 p1 p2 p3 p4 : Int) :
    ((((((w).setCell ⟨g, k * 5, none⟩ (.int .i64 p0)).setCell ⟨g, k * 5 + 1, none⟩ (.int .i64 p1)).setCell ⟨g, k * 5 + 2, none⟩ (.int .i64 p2)).setCell ⟨g, k * 5 + 3, none⟩ (.int .i64 p3)).setCell ⟨g, k * 5 + 4, none⟩ (.int .i64 p4)).ownsRow base e 5 (.slice (some ⟨g, 0, none⟩) n cap) n (rcCells (ys.set k (p0, (p1, p2), p3, p4))) ∧ w.grownBy ((((((w).setCell ⟨g, k * 5, none⟩ (.int .i64 p0)).setCell ⟨g, k * 5 + 1, none⟩ (.int .i64 p1)).setCell ⟨g, k * 5 + 2, none⟩ (.int .i64 p2)).setCell ⟨g, k * 5 + 3, none⟩ (.int .i64 p3)).setCell ⟨g, k * 5 + 4, none⟩ (.int .i64 p4)) (some g) := by
  have s0 := h.stored (k * 5) (.int .i64 p0)
  have s1 := s0.1.stored (k * 5 + 1) (.int .i64 p1)
  have s2 := s1.1.stored (k * 5 + 2) (.int .i64 p2)
  have s3 := s2.1.stored (k * 5 + 3) (.int .i64 p3)
  have s4 := s3.1.stored (k * 5 + 4) (.int .i64 p4)
  have hl := s4.1
  rw [rcCells_set] at hl
  exact ⟨hl, grown_trans (grown_trans (grown_trans (grown_trans s0.2 s1.2) s2.2) s3.2) s4.2⟩

/-- The marks that the laws lay into a list of Record. -/
def rcMarks (k n : Nat) : List Rc := (List.range n).map fun i => (((k + 5 * i : Nat) : Int), (((k + 5 * i + 1 : Nat) : Int), ((k + 5 * i + 2 : Nat) : Int)), ((k + 5 * i + 3 : Nat) : Int), ((k + 5 * i + 4 : Nat) : Int))

theorem rcMarks_length (k n : Nat) : (rcMarks k n).length = n := by simp [rcMarks]
theorem rcMarks_succ (k n : Nat) : rcMarks k (n + 1) = rcMarks k n ++ [(((k + 5 * n : Nat) : Int), (((k + 5 * n + 1 : Nat) : Int), ((k + 5 * n + 2 : Nat) : Int)), ((k + 5 * n + 3 : Nat) : Int), ((k + 5 * n + 4 : Nat) : Int))] := by
  unfold rcMarks; rw [List.range_succ, List.map_append]; rfl
theorem rcMarks_at (k n j : Nat) (h : j < (rcMarks k n).length) : (rcMarks k n)[j] = (((k + 5 * j : Nat) : Int), (((k + 5 * j + 1 : Nat) : Int), ((k + 5 * j + 2 : Nat) : Int)), ((k + 5 * j + 3 : Nat) : Int), ((k + 5 * j + 4 : Nat) : Int)) := by simp [rcMarks]
theorem rcMarks_set {zs : List Rc} {k i n : Nat} (hi : i < n) (hl : zs.length = n) : (rcMarks k i ++ zs.drop i).set i (((k + 5 * i : Nat) : Int), (((k + 5 * i + 1 : Nat) : Int), ((k + 5 * i + 2 : Nat) : Int)), ((k + 5 * i + 3 : Nat) : Int), ((k + 5 * i + 4 : Nat) : Int)) = rcMarks k (i + 1) ++ zs.drop (i + 1) := by
  have l1 := rcMarks_length k i
  rw [List.set_append_right _ _ (by omega), l1, Nat.sub_self, List.drop_eq_getElem_cons (by omega), List.set_cons_zero, rcMarks_succ]
  simp only [List.append_assoc, List.singleton_append]

/-- An append of a list of Record to an owned one. -/
theorem wpList_append_rc {w : World} {ops : Array Oper} {rest : List Oper} {o : Oper} {a : Act} {Q : Exit → Act → World → Prop} (hgd : o.guard = none) (s x : Operand)
    (ho : o.op = .call { callee := .builtin .append, args := #[s, x], argTypes := #[24, 24] })
    (base : Nat) (v : Value) (n : Nat) (zs : List Rc) (hs : a.eval s = v) (hown : w.ownsRow base 30 5 v n (rcCells zs))
    (A : Option Addr) (m c : Nat) (ys : List Rc) (hx : a.eval x = .slice A m c) (hA : A = none → c = 0) (hl : ys.length = m) (hsts : Rcs w A ys)
    (hb : n + m ≤ 4194304) (hbase : base ≤ w.heap.size)
    (h : ∀ v' w', w'.ownsRow base 30 5 v' (n + m) (rcCells (zs ++ ys)) → w.grownBy w' v.ownBlock → wpList Try.prog ops Q rest (a.put o.dst v') w') : wpList Try.prog ops Q (o :: rest) a w := by
  obtain ⟨i0, hi, hz0, hz1, hz2⟩ := info_parts rcinfo
  cases A with
  | none =>
    obtain rfl := rcs_none hsts hl
    obtain rfl := hA rfl
    obtain rfl := List.eq_nil_of_length_eq_zero hl
    exact wpList_append_own_none hgd s x 24 ho base 30 i0 5 Try.underlying24 hi v n (rcCells zs) hs hown hx (h v w (by simpa using hown) (grown_refl _ _))
  | some ad =>
    refine wpList_append_own w hgd s x 24 ho base 30 i0 (.agg #[.int .i64 0, .int .i64 0, .int .i64 0, .int .i64 0, .int .i64 0]) 5 40 Try.underlying24 hi hz0 hz1 hz2 rfl (by decide) v n (rcCells zs) hs hown ad m c (rcCells ys) hx (by rw [rcCells_length, hl]) hsts.news (fun u hu => rcCells_one hu) (by unfold maxLen; omega) (by omega) hbase ?_
    intro v' w' h2 h3 _
    rw [← rcCells_append] at h2
    exact h v' w' h2 h3

theorem rc_new (w : World) (p0 p1 p2 p3 p4 : Int) : Rcs (w.alloc (.cells #[.int .i64 p0, .int .i64 p1, .int .i64 p2, .int .i64 p3, .int .i64 p4] 30)) (some ⟨w.heap.size, 0, none⟩) [(p0, (p1, p2), p3, p4)] := fun _ =>
  ⟨w.heap.size, 0, rfl, by simp, fun j hj => by
    obtain rfl : j = 0 := by simpa using hj
    exact ⟨alloc_cells rfl rfl, alloc_cells rfl rfl, alloc_cells rfl rfl, alloc_cells rfl rfl, alloc_cells rfl rfl⟩⟩

theorem Row.rc {w : World} {lo hi e n c : Nat} {A : Option Addr} {zs : List Rc} (h : Row w lo hi e 5 A n c (rcCells zs)) : Rcs w A zs := by
  obtain ⟨A', c', he, _, hs⟩ := Rcs.of_own h.own
  simp only [Value.slice.injEq, true_and] at he
  obtain ⟨rfl, rfl⟩ := he
  exact hs
theorem Row.rcLen {w : World} {lo hi e n c : Nat} {A : Option Addr} {zs : List Rc} (h : Row w lo hi e 5 A n c (rcCells zs)) : zs.length = n := by
  have := h.own.1; rw [rcCells_length] at this; omega

end Go.Proofs.Ythkkleicekhelaa.hexes
