/-
  Lists of Cell in memory: how they lie there, and the contracts of the laws' own functions on them.
  Cells in memory: more of the kit: capacities, parts of a list, an append at one step of a region that draws its order.
  Two blocks parted by what they hold.
  More of the kit for steps: appends of records at one operation; rows parted by their element types; an empty literal as a row.
-/
import Derived.Test.YtbbagpnjjjohpaaJ8
import Derived.Test.YtbbagpnjjjohpaaJ0
import Derived.Test.YtbbagpnjjjohpaaJ1
import Derived.Laws.AppendOwnNone
import Derived.Deep.AppendLies
import Derived.Lib.SliceRun
import Derived.Test.YtbbagpnjjjohpaaJ9

namespace Go.Proofs.Ytbbagpnjjjohpaa.hexes
open Go.RowKit

/-- A list of Cell as a row of cells. -/
def ceCells (zs : List Ce) : List Value := zs.flatMap fun z => [.int .i64 z.1, .int .i64 z.2.1, .int .i64 z.2.2.1, .int .i64 z.2.2.2]

theorem ceCells_cons (z : Ce) (zs : List Ce) : ceCells (z :: zs) = .int .i64 z.1 :: .int .i64 z.2.1 :: .int .i64 z.2.2.1 :: .int .i64 z.2.2.2 :: ceCells zs := rfl
theorem ceCells_append (a b : List Ce) : ceCells (a ++ b) = ceCells a ++ ceCells b := by simp [ceCells]
theorem ceCells_length (zs : List Ce) : (ceCells zs).length = zs.length * 4 := by
  induction zs with
  | nil => rfl
  | cons z zs ih => rw [ceCells_cons]; simp only [List.length_cons, ih]; omega
theorem ceCells_at (zs : List Ce) (j : Nat) (h : j < zs.length) : (ceCells zs)[j * 4]? = some (.int .i64 zs[j].1) ∧ (ceCells zs)[j * 4 + 1]? = some (.int .i64 zs[j].2.1) ∧ (ceCells zs)[j * 4 + 2]? = some (.int .i64 zs[j].2.2.1) ∧ (ceCells zs)[j * 4 + 3]? = some (.int .i64 zs[j].2.2.2) := by
  induction zs generalizing j with
  | nil => simp at h
  | cons z zs ih =>
    rw [ceCells_cons]
    cases j with
    | zero => exact ⟨rfl, rfl, rfl, rfl⟩
    | succ j =>
      have := ih j (by simpa using h)
      rw [show (j + 1) * 4 = j * 4 + 1 + 1 + 1 + 1 by omega]
      simpa using this
theorem ceCells_one {zs : List Ce} {u : Value} (h : u ∈ ceCells zs) : u.oneCell' = true := by
  simp only [ceCells, List.mem_flatMap, List.mem_cons, List.not_mem_nil, or_false] at h
  obtain ⟨z, _, rfl | rfl | rfl | rfl⟩ := h <;> rfl

/-- A list of Cell that can be read at A. -/
def Ces (w : World) (A : Option Addr) (zs : List Ce) : Prop :=
  0 < zs.length → ∃ b off, A = some ⟨b, off, none⟩ ∧ b < w.heap.size ∧ ∀ j, (h : j < zs.length) → w.cell? ⟨b, off + j * 4, none⟩ = some (.int .i64 zs[j].1) ∧ w.cell? ⟨b, off + j * 4 + 1, none⟩ = some (.int .i64 zs[j].2.1) ∧ w.cell? ⟨b, off + j * 4 + 2, none⟩ = some (.int .i64 zs[j].2.2.1) ∧ w.cell? ⟨b, off + j * 4 + 3, none⟩ = some (.int .i64 zs[j].2.2.2)

theorem Ces.below {w w' : World} {A : Option Addr} {zs : List Ce} (h : Ces w A zs) (hb : Below w.heap.size w w') : Ces w' A zs := fun hl => by
  obtain ⟨b, off, hA, hlt, hz⟩ := h hl
  refine ⟨b, off, hA, Nat.lt_of_lt_of_le hlt hb.size, fun j hj => ?_⟩
  obtain ⟨h0, h1, h2, h3⟩ := hz j hj
  exact ⟨below_keep hb h0, below_keep hb h1, below_keep hb h2, below_keep hb h3⟩

theorem Ces.of_own {w : World} {B e n : Nat} {v : Value} {zs : List Ce} (h : w.ownsRow B e 4 v n (ceCells zs)) : ∃ A cap, v = .slice A n cap ∧ zs.length = n ∧ Ces w A zs := by
  have hl : zs.length = n := by have := h.1; rw [ceCells_length] at this; omega
  rcases h.2 with ⟨rfl, rfl⟩ | ⟨g, cap, cur, rfl, _, hg, hnc, _, hcs, htk⟩
  · exact ⟨none, 0, rfl, hl, fun h => absurd h (by omega)⟩
  · refine ⟨some ⟨g, 0, none⟩, cap, rfl, hl, fun hp => ⟨g, 0, rfl, ?_, fun j hj => ?_⟩⟩
    · rcases Nat.lt_or_ge g w.heap.size with hlt | hge
      · exact hlt
      · rw [Array.getElem?_eq_none hge] at hg; cases hg
    · have key : ∀ i u, (ceCells zs)[i]? = some u → w.cell? ⟨g, i, none⟩ = some u := fun i u hu => by
        rw [cell_of_row w g i cur e (0, 0) hg]
        rw [← htk, List.getElem?_take] at hu
        split at hu
        · simpa using hu
        · cases hu
      rw [Nat.zero_add]
      obtain ⟨h0, h1, h2, h3⟩ := ceCells_at zs j hj
      exact ⟨key _ _ h0, key _ _ h1, key _ _ h2, key _ _ h3⟩

/-- The k-th entry of a list that can be read, cell by cell. -/
theorem Ces.at {w : World} {A : Option Addr} {zs : List Ce} (h : Ces w A zs) {k : Nat} (hk : k < zs.length) : ∃ b off p0 p1 p2 p3, A = some ⟨b, off, none⟩ ∧ zs[k] = (p0, p1, p2, p3) ∧ w.cell? ⟨b, off + k * 4, none⟩ = some (.int .i64 p0) ∧ w.cell? ⟨b, off + k * 4 + 1, none⟩ = some (.int .i64 p1) ∧ w.cell? ⟨b, off + k * 4 + 2, none⟩ = some (.int .i64 p2) ∧ w.cell? ⟨b, off + k * 4 + 3, none⟩ = some (.int .i64 p3) := by
  obtain ⟨b, off, hA, _, hz⟩ := h (by omega)
  obtain ⟨h0, h1, h2, h3⟩ := hz k hk
  exact ⟨b, off, zs[k].1, zs[k].2.1, zs[k].2.2.1, zs[k].2.2.2, hA, rfl, h0, h1, h2, h3⟩

theorem Ces.news {w : World} {ad : Addr} {ys : List Ce} (h : Ces w (some ad) ys) (j : Nat) (u : Value) (hu : (ceCells ys)[j]? = some u) : w.cell? (ad.add j) = some u := by
  have hj : j < ys.length * 4 := by rw [← ceCells_length]; exact (List.getElem?_eq_some_iff.1 hu).1
  obtain ⟨b, off, hA, _, hz⟩ := h (by omega)
  obtain rfl : ad = ⟨b, off, none⟩ := Option.some.inj hA
  rw [addr_add1]
  have hk : j / 4 < ys.length := by omega
  obtain ⟨e0, e1, e2, e3⟩ := ceCells_at ys (j / 4) hk
  obtain ⟨z0, z1, z2, z3⟩ := hz (j / 4) hk
  have hm : j % 4 = 0 ∨ j % 4 = 1 ∨ j % 4 = 2 ∨ j % 4 = 3 := by omega
  rcases hm with h2 | h2 | h2 | h2
  · rw [show j / 4 * 4 = j by omega] at e0
    rw [show off + j / 4 * 4 = off + j by omega] at z0
    rw [z0, ← hu, e0]
  · rw [show j / 4 * 4 + 1 = j by omega] at e1
    rw [show off + j / 4 * 4 + 1 = off + j by omega] at z1
    rw [z1, ← hu, e1]
  · rw [show j / 4 * 4 + 2 = j by omega] at e2
    rw [show off + j / 4 * 4 + 2 = off + j by omega] at z2
    rw [z2, ← hu, e2]
  · rw [show j / 4 * 4 + 3 = j by omega] at e3
    rw [show off + j / 4 * 4 + 3 = off + j by omega] at z3
    rw [z3, ← hu, e3]

theorem ces_none {w : World} {n : Nat} {zs : List Ce} (h : Ces w none zs) (hz : zs.length = n) : n = 0 := by
  rcases Nat.eq_zero_or_pos n with h0 | h0
  · exact h0
  · obtain ⟨b, off, hA, _⟩ := h (by omega)
    cases hA

theorem take_step_ce {zs ys : List Ce} {k : Nat} (h1 : k < zs.length) (h2 : k < ys.length) (ht : zs.take k = ys.take k) (he : zs[k] = ys[k]) : zs.take (k + 1) = ys.take (k + 1) := by
  rw [List.take_succ_eq_append_getElem h1, List.take_succ_eq_append_getElem h2, ht, he]

theorem ceinfo : (Try.prog.info? 38).map (fun i => (i.zero, i.size, i.bytes)) = some (some (.agg #[.int .i64 0, .int .i64 0, .int .i64 0, .int .i64 0]), 4, 32) := by kernel_rfl

theorem ceCells_set (zs : List Ce) (k : Nat) (p0 p1 p2 p3 : Int) : ((((ceCells zs).set (k * 4) (.int .i64 p0)).set (k * 4 + 1) (.int .i64 p1)).set (k * 4 + 2) (.int .i64 p2)).set (k * 4 + 3) (.int .i64 p3) = ceCells (zs.set k (p0, p1, p2, p3)) := by
  induction zs generalizing k with
  | nil => simp [ceCells]
  | cons z zs ih =>
    cases k with
    | zero => rfl
    | succ k =>
      rw [ceCells_cons, List.set_cons_succ, ceCells_cons, ← ih k, show (k + 1) * 4 = k * 4 + 4 by omega, show k * 4 + 4 + 1 = (k * 4 + 1) + 4 by omega, show k * 4 + 4 + 2 = (k * 4 + 2) + 4 by omega, show k * 4 + 4 + 3 = (k * 4 + 3) + 4 by omega]
      rfl

/-- A store of one into an owned row. -/
theorem own_stored_ce {w : World} {base e g n cap : Nat} {ys : List Ce} (h : w.ownsRow base e 4 (.slice (some ⟨g, 0, none⟩) n cap) n (ceCells ys)) (k : Nat) (p0 p1 p2 p3 : Int) :
    (((((w).setCell ⟨g, k * 4, none⟩ (.int .i64 p0)).setCell ⟨g, k * 4 + 1, none⟩ (.int .i64 p1)).setCell ⟨g, k * 4 + 2, none⟩ (.int .i64 p2)).setCell ⟨g, k * 4 + 3, none⟩ (.int .i64 p3)).ownsRow base e 4 (.slice (some ⟨g, 0, none⟩) n cap) n (ceCells (ys.set k (p0, p1, p2, p3))) ∧ w.grownBy (((((w).setCell ⟨g, k * 4, none⟩ (.int .i64 p0)).setCell ⟨g, k * 4 + 1, none⟩ (.int .i64 p1)).setCell ⟨g, k * 4 + 2, none⟩ (.int .i64 p2)).setCell ⟨g, k * 4 + 3, none⟩ (.int .i64 p3)) (some g) := by
  have s0 := h.stored (k * 4) (.int .i64 p0)
  have s1 := s0.1.stored (k * 4 + 1) (.int .i64 p1)
  have s2 := s1.1.stored (k * 4 + 2) (.int .i64 p2)
  have s3 := s2.1.stored (k * 4 + 3) (.int .i64 p3)
  have hl := s3.1
  rw [ceCells_set] at hl
  exact ⟨hl, grown_trans (grown_trans (grown_trans s0.2 s1.2) s2.2) s3.2⟩

/-- An append of a list of Cell to an owned one. -/
theorem wpList_append_ce {w : World} {ops : Array Oper} {rest : List Oper} {o : Oper} {a : Act} {Q : Exit → Act → World → Prop} (hgd : o.guard = none) (s x : Operand)
    (ho : o.op = .call { callee := .builtin .append, args := #[s, x], argTypes := #[30, 30] })
    (base : Nat) (v : Value) (n : Nat) (zs : List Ce) (hs : a.eval s = v) (hown : w.ownsRow base 38 4 v n (ceCells zs))
    (A : Option Addr) (m c : Nat) (ys : List Ce) (hx : a.eval x = .slice A m c) (hA : A = none → c = 0) (hl : ys.length = m) (hsts : Ces w A ys)
    (hb : n + m ≤ 4194304) (hbase : base ≤ w.heap.size)
    (h : ∀ v' w', w'.ownsRow base 38 4 v' (n + m) (ceCells (zs ++ ys)) → w.grownBy w' v.ownBlock → wpList Try.prog ops Q rest (a.put o.dst v') w') : wpList Try.prog ops Q (o :: rest) a w := by
  obtain ⟨i0, hi, hz0, hz1, hz2⟩ := info_parts ceinfo
  cases A with
  | none =>
    obtain rfl := ces_none hsts hl
    obtain rfl := hA rfl
    obtain rfl := List.eq_nil_of_length_eq_zero hl
    exact wpList_append_own_none hgd s x 30 ho base 38 i0 4 Try.underlying30 hi v n (ceCells zs) hs hown hx (h v w (by simpa using hown) (grown_refl _ _))
  | some ad =>
    refine wpList_append_own w hgd s x 30 ho base 38 i0 (.agg #[.int .i64 0, .int .i64 0, .int .i64 0, .int .i64 0]) 4 32 Try.underlying30 hi hz0 hz1 hz2 rfl (by decide) v n (ceCells zs) hs hown ad m c (ceCells ys) hx (by rw [ceCells_length, hl]) hsts.news (fun u hu => ceCells_one hu) (by unfold maxLen; omega) (by omega) hbase ?_
    intro v' w' h2 h3 _
    rw [← ceCells_append] at h2
    exact h v' w' h2 h3

theorem ce_new (w : World) (p0 p1 p2 p3 : Int) : Ces (w.alloc (.cells #[.int .i64 p0, .int .i64 p1, .int .i64 p2, .int .i64 p3] 38)) (some ⟨w.heap.size, 0, none⟩) [(p0, p1, p2, p3)] := fun _ =>
  ⟨w.heap.size, 0, rfl, by simp, fun j hj => by
    obtain rfl : j = 0 := by simpa using hj
    exact ⟨alloc_cells rfl rfl, alloc_cells rfl rfl, alloc_cells rfl rfl, alloc_cells rfl rfl⟩⟩

theorem Row.ce {w : World} {lo hi e n c : Nat} {A : Option Addr} {zs : List Ce} (h : Row w lo hi e 4 A n c (ceCells zs)) : Ces w A zs := by
  obtain ⟨A', c', he, _, hs⟩ := Ces.of_own h.own
  simp only [Value.slice.injEq, true_and] at he
  obtain ⟨rfl, rfl⟩ := he
  exact hs

end Go.Proofs.Ytbbagpnjjjohpaa.hexes

namespace Go.Proofs.Ytbbagpnjjjohpaa.hexes
open Go.RowKit

theorem own_capS {w : World} {B e size n c : Nat} {A : Option Addr} {xs : List Value} (h : w.ownsRow B e size (.slice A n c) n xs) : n ≤ c := by
  rcases h.2 with ⟨h0, rfl⟩ | ⟨g, cap, cur, hv, _, _, hnc, _⟩
  · exact Nat.zero_le _
  · simp only [Value.slice.injEq, true_and] at hv
    obtain ⟨_, rfl⟩ := hv
    exact hnc

theorem Ces.take {w : World} {A : Option Addr} {zs : List Ce} (h : Ces w A zs) (k : Nat) : Ces w A (zs.take k) := fun hl => by
  rw [List.length_take] at hl
  obtain ⟨b, off, hA, hb, hz⟩ := h (by omega)
  refine ⟨b, off, hA, hb, fun j hj => ?_⟩
  rw [List.length_take] at hj
  have := hz j (by omega)
  simpa using this

theorem Ces.drop {w : World} {A : Option Addr} {zs : List Ce} (h : Ces w A zs) {k : Nat} {A' : Option Addr} (hA' : ∀ b off, k < zs.length → A = some ⟨b, off, none⟩ → A' = some ⟨b, off + k * 4, none⟩) : Ces w A' (zs.drop k) := fun hl => by
  rw [List.length_drop] at hl
  obtain ⟨b, off, hA, hb, hz⟩ := h (by omega)
  refine ⟨b, off + k * 4, hA' b off (by omega) hA, hb, fun j hj => ?_⟩
  rw [List.length_drop] at hj
  have := hz (k + j) (by omega)
  rw [List.getElem_drop, show off + k * 4 + j * 4 = off + (k + j) * 4 by omega]
  exact this

/-- An append of a list of Cell to an owned one, at one operation. -/
theorem wp_append_ce {w : World} {o : Oper} {a : Act} {K : Act → World → Prop} {Q : Exit → Act → World → Prop} (s x : Operand)
    (ho : o.op = .call { callee := .builtin .append, args := #[s, x], argTypes := #[30, 30] })
    (base : Nat) (v : Value) (n : Nat) (zs : List Ce) (hs : a.eval s = v) (hown : w.ownsRow base 38 4 v n (ceCells zs))
    (A : Option Addr) (m c : Nat) (ys : List Ce) (hx : a.eval x = .slice A m c) (hA : A = none → c = 0) (hl : ys.length = m) (hsts : Ces w A ys)
    (hb : n + m ≤ 4194304) (hbase : base ≤ w.heap.size)
    (h : ∀ v' w', w'.ownsRow base 38 4 v' (n + m) (ceCells (zs ++ ys)) → w.grownBy w' v.ownBlock → K (a.put o.dst v') w') : o.wp Try.prog a w K Q := by
  obtain ⟨i0, hi, hz0, hz1, hz2⟩ := info_parts ceinfo
  cases A with
  | none =>
    obtain rfl := ces_none hsts hl
    obtain rfl := hA rfl
    obtain rfl := List.eq_nil_of_length_eq_zero hl
    have hrun := run_append_owned_none (P := Try.prog) (w := w) base 30 o.type 38 i0 4 Try.underlying30 hi v n (ceCells zs) hown
    unfold Oper.wp
    simp [execOp, ho, resolve, invoke, builtin, hs, hx, hrun, Result.andThen]
    exact h _ _ (by simpa using hown) (grown_refl _ _)
  | some ad =>
    refine wp_append_own w s x 30 ho base 38 i0 (.agg #[.int .i64 0, .int .i64 0, .int .i64 0, .int .i64 0]) 4 32 Try.underlying30 hi hz0 hz1 hz2 rfl (by decide) v n (ceCells zs) hs hown ad m c (ceCells ys) hx (by rw [ceCells_length, hl]) hsts.news (fun u hu => ceCells_one hu) (by unfold maxLen; omega) (by omega) hbase ?_
    intro v' w' h2 h3 _
    rw [← ceCells_append] at h2
    exact h v' w' h2 h3

theorem step_append_ce {w : World} {ops : Array Oper} {o : Oper} {a : Act} {K : Act → World → Prop} {Q : Exit → Act → World → Prop} {E : Prop} (hgd : o.guard = none) (s x : Operand)
    (ho : o.op = .call { callee := .builtin .append, args := #[s, x], argTypes := #[30, 30] })
    (base : Nat) (v : Value) (n : Nat) (zs : List Ce) (hs : a.eval s = v) (hown : w.ownsRow base 38 4 v n (ceCells zs))
    (A : Option Addr) (m c : Nat) (ys : List Ce) (hx : a.eval x = .slice A m c) (hA : A = none → c = 0) (hl : ys.length = m) (hsts : Ces w A ys)
    (hb : n + m ≤ 4194304) (hbase : base ≤ w.heap.size)
    (h : ∀ v' w', w'.ownsRow base 38 4 v' (n + m) (ceCells (zs ++ ys)) → w.grownBy w' v.ownBlock → K (a.put o.dst v') w') :
    if Region.wanted o (yielded ops a.tmps) = true then Oper.wp Try.prog o a w K Q else E := by
  have hw : Region.wanted o (yielded ops a.tmps) = true := by simp [Region.wanted, hgd]
  rw [if_pos hw]
  exact wp_append_ce s x ho base v n zs hs hown A m c ys hx hA hl hsts hb hbase h

set_option maxRecDepth 100000 in
/-- list[:k]. -/
theorem slice_to (A : Option Addr) (n c k : Nat) (h : k ≤ c) (hA : A = none → c = 0) : ∃ L, (∀ w, (Instr.slice 30 (.slice A n c) none (some (.int .i64 (k : Int))) none).run Try.prog w = .ok (.slice L k c) w) ∧ (L = none → c = 0) ∧ ∀ w zs, Ces w A zs → Ces w L (zs.take k) := by
  refine ⟨if c = 0 then A else A.map (·.add (0 * 4)), fun w => ?_, ?_, fun w zs hz => ?_⟩
  · have hs : (sizeOf (Try.prog.elem 30)).run Try.prog w = .ok 4 w := rfl
    rw [run_slice_h (P := Try.prog) w 30 A n c Try.underlying30 .i64 (k : Int) (by omega) (by omega), hs]
    simp [Result.andThen, sliced]
  · intro hL
    by_cases h0 : c = 0
    · exact h0
    · rw [if_neg h0] at hL
      cases A with
      | none => exact hA rfl
      | some ad => simp at hL
  · intro hl
    obtain ⟨b, off, rfl, hb, hz2⟩ := (hz.take k) hl
    refine ⟨b, off, ?_, hb, hz2⟩
    split
    · rfl
    · simp only [Option.map_some, Nat.zero_mul]; rw [addr_add1]; rfl

set_option maxRecDepth 100000 in
/-- list[k:]. -/
theorem slice_from (A : Option Addr) (n c k : Nat) (h : k ≤ n) (hc : n ≤ c) (hA : A = none → c = 0) : ∃ T, (∀ w, (Instr.slice 30 (.slice A n c) (some (.int .i64 (k : Int))) none none).run Try.prog w = .ok (.slice T (n - k) (c - k)) w) ∧ (T = none → c - k = 0) ∧ ∀ w zs, zs.length = n → Ces w A zs → Ces w T (zs.drop k) := by
  refine ⟨if c = k then A else A.map (·.add (k * 4)), fun w => ?_, ?_, fun w zs hl hz => ?_⟩
  · have hs : (sizeOf (Try.prog.elem 30)).run Try.prog w = .ok 4 w := rfl
    rw [run_slice_l (P := Try.prog) w 30 A n c Try.underlying30 .i64 (k : Int) (by omega) (by omega), hs]
    simp [Result.andThen, sliced]
  · intro hT
    by_cases h0 : c = k
    · omega
    · rw [if_neg h0] at hT
      cases A with
      | none => have := hA rfl; omega
      | some ad => simp at hT
  · refine hz.drop fun b off hk hA' => ?_
    rw [hA', if_neg (by omega)]
    simp only [Option.map_some]; rw [addr_add1]

/-- A cell in a block of its own. -/
structure XB (b : Nat) (x0 x1 x2 x3 : Int) (w : World) : Prop where
  c0 : w.cell? ⟨b, 0, none⟩ = some (.int .i64 x0)
  c1 : w.cell? ⟨b, 1, none⟩ = some (.int .i64 x1)
  c2 : w.cell? ⟨b, 2, none⟩ = some (.int .i64 x2)
  c3 : w.cell? ⟨b, 3, none⟩ = some (.int .i64 x3)
theorem XB.below {b : Nat} {x0 x1 x2 x3 : Int} {w w' : World} (h : XB b x0 x1 x2 x3 w) (hb : Below w.heap.size w w') : XB b x0 x1 x2 x3 w' := ⟨below_keep hb h.c0, below_keep hb h.c1, below_keep hb h.c2, below_keep hb h.c3⟩
theorem XB.drew {b : Nat} {x0 x1 x2 x3 : Int} {w : World} (h : XB b x0 x1 x2 x3 w) : XB b x0 x1 x2 x3 w.drew := ⟨h.c0, h.c1, h.c2, h.c3⟩
theorem XB.grown {b : Nat} {x0 x1 x2 x3 : Int} {w w' : World} {row : Option Nat} (h : XB b x0 x1 x2 x3 w) (gr : w.grownBy w' row) (hr : row ≠ some b) : XB b x0 x1 x2 x3 w' :=
  ⟨World.grownBy.cell gr h.c0 (Ne.symm hr), World.grownBy.cell gr h.c1 (Ne.symm hr), World.grownBy.cell gr h.c2 (Ne.symm hr), World.grownBy.cell gr h.c3 (Ne.symm hr)⟩
theorem XB.new (w : World) (x0 x1 x2 x3 : Int) : XB w.heap.size x0 x1 x2 x3 (w.alloc (.cells #[.int .i64 x0, .int .i64 x1, .int .i64 x2, .int .i64 x3] 38)) := ⟨by simp, by simp, by simp, by simp⟩
theorem ces_grown {w w' : World} {g : Nat} {row : Option Nat} {zs : List Ce} (h : Ces w (some ⟨g, 0, none⟩) zs) (gr : w.grownBy w' row) (hr : row ≠ some g) : Ces w' (some ⟨g, 0, none⟩) zs := fun hl => by
  obtain ⟨b, off, hA, hb, hz⟩ := h hl
  have hA' := hA
  simp only [Option.some.injEq, Addr.mk.injEq, and_true] at hA'
  obtain ⟨rfl, rfl⟩ := hA'
  refine ⟨g, 0, hA, Nat.lt_of_lt_of_le hb gr.size, fun j hj => ?_⟩
  obtain ⟨h0, h1, h2, h3⟩ := hz j hj
  exact ⟨World.grownBy.cell gr h0 (Ne.symm hr), World.grownBy.cell gr h1 (Ne.symm hr), World.grownBy.cell gr h2 (Ne.symm hr), World.grownBy.cell gr h3 (Ne.symm hr)⟩
end Go.Proofs.Ytbbagpnjjjohpaa.hexes

namespace Go.Proofs.Ytbbagpnjjjohpaa.hexes
open Go.RowKit

/-- A row's block is not one of another type. -/
theorem own_type {w : World} {B e size n g : Nat} {t : TypeId} {v : Value} {xs : List Value} {cs : Array Value} (h : w.ownsRow B e size v n xs) (k : Blk w g t cs) (ht : t ≠ e) : v.ownBlock ≠ some g := by
  rcases h.2 with ⟨rfl, _⟩ | ⟨g', cap, cur, rfl, _, hg, _⟩
  · simp [Value.ownBlock]
  · simp only [Value.ownBlock, ne_eq, Option.some.injEq]
    rintro rfl
    unfold Blk at k
    rw [k] at hg
    simp only [Option.some.injEq, Obj.cells.injEq] at hg
    exact ht hg.2.1

end Go.Proofs.Ytbbagpnjjjohpaa.hexes

namespace Go.Proofs.Ytbbagpnjjjohpaa.hexes
open Go.RowKit

/-- Two rows of different element types share no block. -/
theorem own_types {w : World} {B B' e e' size size' n n' : Nat} {v v' : Value} {xs xs' : List Value} (h : w.ownsRow B e size v n xs) (h' : w.ownsRow B' e' size' v' n' xs') (ht : e ≠ e') : v.ownBlock = none ∨ v.ownBlock ≠ v'.ownBlock := by
  rcases h.2 with ⟨rfl, _⟩ | ⟨g, cap, cur, rfl, _, hg, _⟩
  · exact .inl rfl
  · refine .inr fun hh => ?_
    rcases h'.2 with ⟨rfl, _⟩ | ⟨g', cap', cur', rfl, _, hg', _⟩
    · simp [Value.ownBlock] at hh
    · simp only [Value.ownBlock, Option.some.injEq] at hh
      subst hh
      rw [hg] at hg'
      simp only [Option.some.injEq, Obj.cells.injEq] at hg'
      exact ht hg'.2.1
theorem row_lit {w : World} {g e size : Nat} (h : Blk w g e #[]) : Row w g (g + 1) e size (some ⟨g, 0, none⟩) 0 0 [] :=
  ⟨⟨by simp, .inr ⟨g, 0, #[], rfl, Nat.le_refl _, h, Nat.le_refl _, by unfold maxLen; omega, by simp, by simp⟩⟩, fun k hk => by simp [Value.ownBlock] at hk; omega⟩
end Go.Proofs.Ytbbagpnjjjohpaa.hexes

