/-
  Lists of stamps put behind an owned list: the law for the walk, and the contracts of slices.Clone, spec.MergeFronts and spec.FrontierOk.
-/
import Derived.Test.YtdmbkjebagnloaaOwnKit
import Derived.Laws.AppendOwnNone
import Derived.Lib.SliceRun
namespace Go.Proofs.Ytdmbkjebagnloaa.hexes
open Go.RowKit

theorem Sts.news {w : World} {ad : Addr} {ys : List (Int × Int)} (h : Sts w (some ad) ys) (j : Nat) (u : Value) (hu : (stCells ys)[j]? = some u) : w.cell? (ad.add j) = some u := by
  have hj : j < ys.length * 2 := by rw [← stCells_length]; exact (List.getElem?_eq_some_iff.1 hu).1
  obtain ⟨b, off, hA, _, hz⟩ := h (by omega)
  obtain rfl : ad = ⟨b, off, none⟩ := Option.some.inj hA
  rw [addr_add1]
  have hk : j / 2 < ys.length := by omega
  have e := stCells_at ys (j / 2) hk
  have z := hz (j / 2) hk
  rcases Nat.mod_two_eq_zero_or_one j with h2 | h2
  · rw [show j / 2 * 2 = j by omega] at e z
    rw [z.1, ← hu, e.1]
  · rw [show off + j / 2 * 2 + 1 = off + j by omega] at z
    rw [show j / 2 * 2 + 1 = j by omega] at e
    rw [z.2, ← hu, e.2]

theorem own_nil {w : World} {B e size n c : Nat} {A : Option Addr} {xs : List Value} (h : w.ownsRow B e size (.slice A n c) n xs) (hA : A = none) : c = 0 := by
  rcases h.2 with ⟨h', _⟩ | ⟨g, cap, cur, h', _⟩
  · simp only [Value.slice.injEq] at h'
    exact h'.2.2
  · subst hA
    simp at h'

theorem sts_none {w : World} {n : Nat} {zs : List (Int × Int)} (h : Sts w none zs) (hz : zs.length = n) : n = 0 := by
  rcases Nat.eq_zero_or_pos n with h0 | h0
  · exact h0
  · obtain ⟨b, off, hA, _⟩ := h (by omega)
    cases hA

/-- An append of a list of stamps to an owned one. -/
theorem wpList_append_sts {w : World} {ops : Array Oper} {rest : List Oper} {o : Oper} {a : Act} {Q : Exit → Act → World → Prop} (hgd : o.guard = none) (s x : Operand)
    (ho : o.op = .call { callee := .builtin .append, args := #[s, x], argTypes := #[85, 85] })
    (base : Nat) (v : Value) (n : Nat) (zs : List (Int × Int)) (hs : a.eval s = v) (hown : w.ownsRow base 34 2 v n (stCells zs))
    (A : Option Addr) (m c : Nat) (ys : List (Int × Int)) (hx : a.eval x = .slice A m c) (hA : A = none → c = 0) (hl : ys.length = m) (hsts : Sts w A ys)
    (hb : n + m ≤ 4194304) (hbase : base ≤ w.heap.size)
    (h : ∀ v' w', w'.ownsRow base 34 2 v' (n + m) (stCells (zs ++ ys)) → w.grownBy w' v.ownBlock → wpList Try.prog ops Q rest (a.put o.dst v') w') : wpList Try.prog ops Q (o :: rest) a w := by
  obtain ⟨i0, hi, hz0, hz1, hz2⟩ := info_parts stinfo
  cases A with
  | none =>
    obtain rfl := sts_none hsts hl
    obtain rfl := hA rfl
    obtain rfl := List.eq_nil_of_length_eq_zero hl
    exact wpList_append_own_none hgd s x 85 ho base 34 i0 2 Try.underlying85 hi v n (stCells zs) hs hown hx (h v w (by simpa using hown) (grown_refl _ _))
  | some ad =>
    refine wpList_append_own w hgd s x 85 ho base 34 i0 (.agg #[.int .i64 0, .int .i64 0]) 2 16 Try.underlying85 hi hz0 hz1 hz2 rfl (by decide) v n (stCells zs) hs hown ad m c (stCells ys) hx (by rw [stCells_length, hl]) hsts.news (fun u hu => stCells_one hu) (by unfold maxLen; omega) (by omega) hbase ?_
    intro v' w' h2 h3 _
    rw [← stCells_append] at h2
    exact h v' w' h2 h3

end Go.Proofs.Ytdmbkjebagnloaa.hexes
