/-
  Cells in memory: more of the kit: capacities, parts of a list, an append at one step of a region that draws its order.
  Two blocks parted by what they hold.
  More of the kit for steps: appends of records at one operation; rows parted by their element types; an empty literal as a row.
-/
import Derived.Test.YtbbagpnjjjohpaaJ17
import Derived.Laws.AppendOwnNone
import Derived.Deep.AppendLies
import Derived.Lib.SliceRun
import Derived.Test.YtbbagpnjjjohpaaJ1
import Derived.Test.YtbbagpnjjjohpaaJ16

namespace Go.Proofs.Ytbbagpnjjjohpaa.hexes
open Go.RowKit

theorem own_capS {w : World} {B e size n c : Nat} {A : Option Addr} {xs : List Value} (h : w.ownsRow B e size (.slice A n c) n xs) : n ≤ c := by
  rcases h.2 with ⟨h0, rfl⟩ | ⟨g, cap, cur, hv, _, _, hnc, _⟩
  · exact Nat.zero_le _
  · simp only [Value.slice.injEq, true_and] at hv
    obtain ⟨_, rfl⟩ := hv
    exact hnc

theorem Ces.take {w : World} {A : Option Addr} {zs : List Ce} (h : Ces w A zs) (k : Nat) : Ces w A (zs.take k) := fun hl => by
  rw [List.length_take] at hl
  obtain ⟨b, off, hA, hb, hz⟩ := h (by omega)
  refine ⟨b, off, hA, hb, fun j hj => ?_⟩
  rw [List.length_take] at hj
  have := hz j (by omega)
  simpa using this

theorem Ces.drop {w : World} {A : Option Addr} {zs : List Ce} (h : Ces w A zs) {k : Nat} {A' : Option Addr} (hA' : ∀ b off, k < zs.length → A = some ⟨b, off, none⟩ → A' = some ⟨b, off + k * 4, none⟩) : Ces w A' (zs.drop k) := fun hl => by
  rw [List.length_drop] at hl
  obtain ⟨b, off, hA, hb, hz⟩ := h (by omega)
  refine ⟨b, off + k * 4, hA' b off (by omega) hA, hb, fun j hj => ?_⟩
  rw [List.length_drop] at hj
  have := hz (k + j) (by omega)
  rw [List.getElem_drop, show off + k * 4 + j * 4 = off + (k + j) * 4 by omega]
  exact this

/-- An append of a list of Cell to an owned one, at one operation. -/
theorem wp_append_ce {w : World} {o : Oper} {a : Act} {K : Act → World → Prop} {Q : Exit → Act → World → Prop} (s x : Operand)
    (ho : o.op = .call { callee := .builtin .append, args := #[s, x], argTypes := #[30, 30] })
    (base : Nat) (v : Value) (n : Nat) (zs : List Ce) (hs : a.eval s = v) (hown : w.ownsRow base 38 4 v n (ceCells zs))
    (A : Option Addr) (m c : Nat) (ys : List Ce) (hx : a.eval x = .slice A m c) (hA : A = none → c = 0) (hl : ys.length = m) (hsts : Ces w A ys)
    (hb : n + m ≤ 4194304) (hbase : base ≤ w.heap.size)
    (h : ∀ v' w', w'.ownsRow base 38 4 v' (n + m) (ceCells (zs ++ ys)) → w.grownBy w' v.ownBlock → K (a.put o.dst v') w') : o.wp Try.prog a w K Q := by
  obtain ⟨i0, hi, hz0, hz1, hz2⟩ := info_parts ceinfo
  cases A with
  | none =>
    obtain rfl := ces_none hsts hl
    obtain rfl := hA rfl
    obtain rfl := List.eq_nil_of_length_eq_zero hl
    have hrun := run_append_owned_none (P := Try.prog) (w := w) base 30 o.type 38 i0 4 Try.underlying30 hi v n (ceCells zs) hown
    unfold Oper.wp
    simp [execOp, ho, resolve, invoke, builtin, hs, hx, hrun, Result.andThen]
    exact h _ _ (by simpa using hown) (grown_refl _ _)
  | some ad =>
    refine wp_append_own w s x 30 ho base 38 i0 (.agg #[.int .i64 0, .int .i64 0, .int .i64 0, .int .i64 0]) 4 32 Try.underlying30 hi hz0 hz1 hz2 rfl (by decide) v n (ceCells zs) hs hown ad m c (ceCells ys) hx (by rw [ceCells_length, hl]) hsts.news (fun u hu => ceCells_one hu) (by unfold maxLen; omega) (by omega) hbase ?_
    intro v' w' h2 h3 _
    rw [← ceCells_append] at h2
    exact h v' w' h2 h3

theorem step_append_ce {w : World} {ops : Array Oper} {o : Oper} {a : Act} {K : Act → World → Prop} {Q : Exit → Act → World → Prop} {E : Prop} (hgd : o.guard = none) (s x : Operand)
    (ho : o.op = .call { callee := .builtin .append, args := #[s, x], argTypes := #[30, 30] })
    (base : Nat) (v : Value) (n : Nat) (zs : List Ce) (hs : a.eval s = v) (hown : w.ownsRow base 38 4 v n (ceCells zs))
    (A : Option Addr) (m c : Nat) (ys : List Ce) (hx : a.eval x = .slice A m c) (hA : A = none → c = 0) (hl : ys.length = m) (hsts : Ces w A ys)
    (hb : n + m ≤ 4194304) (hbase : base ≤ w.heap.size)
    (h : ∀ v' w', w'.ownsRow base 38 4 v' (n + m) (ceCells (zs ++ ys)) → w.grownBy w' v.ownBlock → K (a.put o.dst v') w') :
    if Region.wanted o (yielded ops a.tmps) = true then Oper.wp Try.prog o a w K Q else E := by
  have hw : Region.wanted o (yielded ops a.tmps) = true := by simp [Region.wanted, hgd]
  rw [if_pos hw]
  exact wp_append_ce s x ho base v n zs hs hown A m c ys hx hA hl hsts hb hbase h

set_option maxRecDepth 100000 in
/-- list[:k]. -/
theorem slice_to (A : Option Addr) (n c k : Nat) (h : k ≤ c) (hA : A = none → c = 0) : ∃ L, (∀ w, (Instr.slice 30 (.slice A n c) none (some (.int .i64 (k : Int))) none).run Try.prog w = .ok (.slice L k c) w) ∧ (L = none → c = 0) ∧ ∀ w zs, Ces w A zs → Ces w L (zs.take k) := by
  refine ⟨if c = 0 then A else A.map (·.add (0 * 4)), fun w => ?_, ?_, fun w zs hz => ?_⟩
  · have hs : (sizeOf (Try.prog.elem 30)).run Try.prog w = .ok 4 w := rfl
    rw [run_slice_h (P := Try.prog) w 30 A n c Try.underlying30 .i64 (k : Int) (by omega) (by omega), hs]
    simp [Result.andThen, sliced]
  · intro hL
    by_cases h0 : c = 0
    · exact h0
    · rw [if_neg h0] at hL
      cases A with
      | none => exact hA rfl
      | some ad => simp at hL
  · intro hl
    obtain ⟨b, off, rfl, hb, hz2⟩ := (hz.take k) hl
    refine ⟨b, off, ?_, hb, hz2⟩
    split
    · rfl
    · simp only [Option.map_some, Nat.zero_mul]; rw [addr_add1]; rfl

set_option maxRecDepth 100000 in
/-- list[k:]. -/
theorem slice_from (A : Option Addr) (n c k : Nat) (h : k ≤ n) (hc : n ≤ c) (hA : A = none → c = 0) : ∃ T, (∀ w, (Instr.slice 30 (.slice A n c) (some (.int .i64 (k : Int))) none none).run Try.prog w = .ok (.slice T (n - k) (c - k)) w) ∧ (T = none → c - k = 0) ∧ ∀ w zs, zs.length = n → Ces w A zs → Ces w T (zs.drop k) := by
  refine ⟨if c = k then A else A.map (·.add (k * 4)), fun w => ?_, ?_, fun w zs hl hz => ?_⟩
  · have hs : (sizeOf (Try.prog.elem 30)).run Try.prog w = .ok 4 w := rfl
    rw [run_slice_l (P := Try.prog) w 30 A n c Try.underlying30 .i64 (k : Int) (by omega) (by omega), hs]
    simp [Result.andThen, sliced]
  · intro hT
    by_cases h0 : c = k
    · omega
    · rw [if_neg h0] at hT
      cases A with
      | none => have := hA rfl; omega
      | some ad => simp at hT
  · refine hz.drop fun b off hk hA' => ?_
    rw [hA', if_neg (by omega)]
    simp only [Option.map_some]; rw [addr_add1]

/-- A cell in a block of its own. -/
structure XB (b : Nat) (x0 x1 x2 x3 : Int) (w : World) : Prop where
  c0 : w.cell? ⟨b, 0, none⟩ = some (.int .i64 x0)
  c1 : w.cell? ⟨b, 1, none⟩ = some (.int .i64 x1)
  c2 : w.cell? ⟨b, 2, none⟩ = some (.int .i64 x2)
  c3 : w.cell? ⟨b, 3, none⟩ = some (.int .i64 x3)
theorem XB.below {b : Nat} {x0 x1 x2 x3 : Int} {w w' : World} (h : XB b x0 x1 x2 x3 w) (hb : Below w.heap.size w w') : XB b x0 x1 x2 x3 w' := ⟨below_keep hb h.c0, below_keep hb h.c1, below_keep hb h.c2, below_keep hb h.c3⟩
theorem XB.drew {b : Nat} {x0 x1 x2 x3 : Int} {w : World} (h : XB b x0 x1 x2 x3 w) : XB b x0 x1 x2 x3 w.drew := ⟨h.c0, h.c1, h.c2, h.c3⟩
theorem XB.grown {b : Nat} {x0 x1 x2 x3 : Int} {w w' : World} {row : Option Nat} (h : XB b x0 x1 x2 x3 w) (gr : w.grownBy w' row) (hr : row ≠ some b) : XB b x0 x1 x2 x3 w' :=
  ⟨World.grownBy.cell gr h.c0 (Ne.symm hr), World.grownBy.cell gr h.c1 (Ne.symm hr), World.grownBy.cell gr h.c2 (Ne.symm hr), World.grownBy.cell gr h.c3 (Ne.symm hr)⟩
theorem XB.new (w : World) (x0 x1 x2 x3 : Int) : XB w.heap.size x0 x1 x2 x3 (w.alloc (.cells #[.int .i64 x0, .int .i64 x1, .int .i64 x2, .int .i64 x3] 38)) := ⟨by simp, by simp, by simp, by simp⟩
theorem ces_grown {w w' : World} {g : Nat} {row : Option Nat} {zs : List Ce} (h : Ces w (some ⟨g, 0, none⟩) zs) (gr : w.grownBy w' row) (hr : row ≠ some g) : Ces w' (some ⟨g, 0, none⟩) zs := fun hl => by
  obtain ⟨b, off, hA, hb, hz⟩ := h hl
  have hA' := hA
  simp only [Option.some.injEq, Addr.mk.injEq, and_true] at hA'
  obtain ⟨rfl, rfl⟩ := hA'
  refine ⟨g, 0, hA, Nat.lt_of_lt_of_le hb gr.size, fun j hj => ?_⟩
  obtain ⟨h0, h1, h2, h3⟩ := hz j hj
  exact ⟨World.grownBy.cell gr h0 (Ne.symm hr), World.grownBy.cell gr h1 (Ne.symm hr), World.grownBy.cell gr h2 (Ne.symm hr), World.grownBy.cell gr h3 (Ne.symm hr)⟩
end Go.Proofs.Ytbbagpnjjjohpaa.hexes

namespace Go.Proofs.Ytbbagpnjjjohpaa.hexes
open Go.RowKit

/-- A row's block is not one of another type. -/
theorem own_type {w : World} {B e size n g : Nat} {t : TypeId} {v : Value} {xs : List Value} {cs : Array Value} (h : w.ownsRow B e size v n xs) (k : Blk w g t cs) (ht : t ≠ e) : v.ownBlock ≠ some g := by
  rcases h.2 with ⟨rfl, _⟩ | ⟨g', cap, cur, rfl, _, hg, _⟩
  · simp [Value.ownBlock]
  · simp only [Value.ownBlock, ne_eq, Option.some.injEq]
    rintro rfl
    unfold Blk at k
    rw [k] at hg
    simp only [Option.some.injEq, Obj.cells.injEq] at hg
    exact ht hg.2.1

end Go.Proofs.Ytbbagpnjjjohpaa.hexes

namespace Go.Proofs.Ytbbagpnjjjohpaa.hexes
open Go.RowKit

/-- Two rows of different element types share no block. -/
theorem own_types {w : World} {B B' e e' size size' n n' : Nat} {v v' : Value} {xs xs' : List Value} (h : w.ownsRow B e size v n xs) (h' : w.ownsRow B' e' size' v' n' xs') (ht : e ≠ e') : v.ownBlock = none ∨ v.ownBlock ≠ v'.ownBlock := by
  rcases h.2 with ⟨rfl, _⟩ | ⟨g, cap, cur, rfl, _, hg, _⟩
  · exact .inl rfl
  · refine .inr fun hh => ?_
    rcases h'.2 with ⟨rfl, _⟩ | ⟨g', cap', cur', rfl, _, hg', _⟩
    · simp [Value.ownBlock] at hh
    · simp only [Value.ownBlock, Option.some.injEq] at hh
      subst hh
      rw [hg] at hg'
      simp only [Option.some.injEq, Obj.cells.injEq] at hg'
      exact ht hg'.2.1
theorem row_lit {w : World} {g e size : Nat} (h : Blk w g e #[]) : Row w g (g + 1) e size (some ⟨g, 0, none⟩) 0 0 [] :=
  ⟨⟨by simp, .inr ⟨g, 0, #[], rfl, Nat.le_refl _, h, Nat.le_refl _, by unfold maxLen; omega, by simp, by simp⟩⟩, fun k hk => by simp [Value.ownBlock] at hk; omega⟩
end Go.Proofs.Ytbbagpnjjjohpaa.hexes

