/-
  What a step of the reference keeps.
  A statement of spec.StepOp: its operations, and a theorem a step.
-/
import Derived.Test.YtlanmkimaambgaaJ14
import Derived.Test.YtlanmkimaambgaaJ19
import Derived.Test.YtlanmkimaambgaaJ27
import Derived.Test.YtlanmkimaambgaaJ28
import Derived.Test.YtlanmkimaambgaaJ6
import Derived.Test.YtlanmkimaambgaaProg
import Derived.WalkKit
import Derived.Deep.RegionHeld3

namespace Go.Proofs.Ytlanmkimaambgaa.hexes
open Go.RowKit

/-- Whether Changed lets a record go on; whether its node remembers. -/
def goX (gs : List Nd) (r : Rc) : Bool := chgO (okX (nodeAt gs r.1) r) (nodeAt gs r.1).1 (nodeAt gs r.1).2.1 (nodeAt gs r.1).2.2.1 r.2.2.1
def remX (gs : List Nd) (t : Int) : Bool := remB (nodeAt gs t).1
/-- How a step ends. -/
def StepEnd (w : World) (q : (List Ce × List Rc) × Bool) (e : Ending) (w' : World) : Prop :=
  ∃ (A3 : Option Addr) (c3 m3 : Nat) (A4 : Option Addr) (c4 m4 : Nat), q.1.1.length = m3 ∧ q.1.2.length = m4 ∧ e = .returned (.tuple #[.slice A3 m3 c3, .slice A4 m4 c4, .bool q.2]) ∧ w'.ownsRow w.heap.size 75 4 (.slice A3 m3 c3) m3 (ceCells q.1.1) ∧ w'.ownsRow w.heap.size 31 5 (.slice A4 m4 c4) m4 (rcCells q.1.2) ∧ Below w.heap.size w w'
theorem specRcOkG_is {p0 p1 p2 p3 p4 : Int} {b : Bool} (h : okRc (p0, (p1, p2), p3, p4) = b) (w : World) : Calls Try.prog 14 #[.agg #[.int .i64 p0, .int .i64 p1, .int .i64 p2, .int .i64 p3, .int .i64 p4]] w fun e w' => e = .returned (.bool b) ∧ Below w.heap.size w w' := by
  subst h; exact specRcOk_any _ _ _ _ _ w
theorem specRemG_is {k : Int} {b : Bool} (h : remB k = b) (w : World) : Calls Try.prog 44 #[.int .i64 k] w fun e w' => e = .returned (.bool b) ∧ Below w.heap.size w w' := by
  subst h; exact (specRem_any k w).mono fun _ _ h => ⟨h.1, by first | exact h.2 | exact h.2 ▸ Below.refl _ _⟩
theorem specRecG_row {kd : Int} {n m : Nat} {zs us : List Ce} {A : Option Addr} {c : Nat} {b : Bool} {x0 x1 x2 x3 : Int} (hz : zs.length = n) (hA : A = none → c = 0) (hc : n ≤ c) (hn : n ≤ 2000000) (hr : recC kd zs (x0, x1, x2, x3) = (us, b)) (hm : us.length = m) (w : World) (h : Ces w A zs) :
    Calls Try.prog 45 #[.int .i64 kd, .slice A n c, .agg #[.int .i64 x0, .int .i64 x1, .int .i64 x2, .int .i64 x3]] w fun e w' => ∃ A1 c1, e = .returned (.tuple #[.slice A1 m c1, .bool b]) ∧ Row w' w.heap.size w'.heap.size 75 4 A1 m c1 (ceCells us) ∧ Below w.heap.size w w' := by
  subst hm
  refine (specRec_any kd n zs hz A c hA hc x0 x1 x2 x3 w h hn).mono ?_
  rintro e w' ⟨v, he, ho, hb⟩
  rw [hr] at he ho
  obtain ⟨A1, c1, rfl, r⟩ := row_of ho
  exact ⟨A1, c1, he, r, hb⟩

/-- What the emitting loop reads. -/
structure StepHeld (nb m cn bz oz j : Nat) (z : Int) (tb : Nat) (s0 s1 : Int) (w : World) : Prop where
  c3 : w.cell? ⟨nb, 3, none⟩ = some (.slice (some ⟨bz, oz, none⟩) m cn)
  e : w.cell? ⟨bz, oz + j, none⟩ = some (.int .i64 z)
  t0 : w.cell? ⟨tb, 0, none⟩ = some (.int .i64 s0)
  t1 : w.cell? ⟨tb, 1, none⟩ = some (.int .i64 s1)
  tr : True
theorem StepHeld.below {nb m cn bz oz j : Nat} {z : Int} {tb : Nat} {s0 s1 : Int} {w w' : World} (h : StepHeld nb m cn bz oz j z tb s0 s1 w) (hb : Below w.heap.size w w') : StepHeld nb m cn bz oz j z tb s0 s1 w' :=
  ⟨below_keep hb h.c3, below_keep hb h.e, below_keep hb h.t0, below_keep hb h.t1, trivial⟩
/-- What the emitting loop keeps from round to round. -/
structure StepSt (w wr : World) (bO bS bZ nb tb : Nat) (As : Option Addr) (ms cs : Nat) (us : List Ce) (An : Option Addr) (m cn : Nat) (zs : List Int) (k a b s0 s1 : Int) (AO : Option Addr) (j cO : Nat) (out : List Rc) : Prop where
  o : wr.ownsRow bO 31 5 (.slice AO j cO) j (rcCells out)
  s : wr.ownsRow bS 75 4 (.slice As ms cs) ms (ceCells us)
  z : wr.ownsRow bZ 3 1 (.slice An m cn) m (isCells zs)
  n : Blk wr nb 42 #[.int .i64 k, .int .i64 a, .int .i64 b, .slice An m cn]
  t : Blk wr tb 29 #[.int .i64 s0, .int .i64 s1]
  wo : w.heap.size ≤ bO
  ws : w.heap.size ≤ bS
  ob : bO ≤ tb
  sz : tb ≤ wr.heap.size
  bel : Below w.heap.size w wr
variable {w wr w' : World} {bO bS bZ nb tb ms cs m cn j cO : Nat} {As An AO : Option Addr} {us : List Ce} {zs : List Int} {k a b s0 s1 : Int} {out : List Rc}
theorem StepSt.fresh (h : StepSt w wr bO bS bZ nb tb As ms cs us An m cn zs k a b s0 s1 AO j cO out) (hb : Below wr.heap.size wr w') : StepSt w w' bO bS bZ nb tb As ms cs us An m cn zs k a b s0 s1 AO j cO out :=
  ⟨own_below h.o hb, own_below h.s hb, own_below h.z hb, h.n.below hb, h.t.below hb, h.wo, h.ws, h.ob, Nat.le_trans h.sz hb.size, below_chain h.bel hb⟩
theorem StepSt.app (h : StepSt w wr bO bS bZ nb tb As ms cs us An m cn zs k a b s0 s1 AO j cO out) {r : Rc} {v : Value} (ho : w'.ownsRow bO 31 5 v (j + 1) (rcCells (out ++ [r]))) (gr : wr.grownBy w' (Value.slice AO j cO).ownBlock) :
    ∃ A' c', v = .slice A' (j + 1) c' ∧ StepSt w w' bO bS bZ nb tb As ms cs us An m cn zs k a b s0 s1 A' (j + 1) c' (out ++ [r]) := by
  obtain ⟨A', c', rfl, _⟩ := own_form ho
  exact ⟨A', c', rfl, ho, h.s.kept gr (own_types h.s h.o (by decide)), h.z.kept gr (own_types h.z h.o (by decide)), h.n.grown gr (Ne.symm (own_type h.o h.n (by decide))), h.t.grown gr (Ne.symm (own_type h.o h.t (by decide))), h.wo, h.ws, h.ob, Nat.le_trans h.sz gr.size, h.bel.grown gr h.bel.size (fun g hg => Nat.le_trans h.wo (own_ge h.o g hg))⟩
theorem StepSt.at (h : StepSt w wr bO bS bZ nb tb As ms cs us An m cn zs k a b s0 s1 AO j cO out) : zs.length = m ∧ Ints wr An zs := by
  obtain ⟨A', c', he, hl, hs⟩ := Ints.of_own h.z
  simp only [Value.slice.injEq, true_and] at he
  obtain ⟨rfl, rfl⟩ := he
  exact ⟨hl, hs⟩
theorem StepSt.held (h : StepSt w wr bO bS bZ nb tb As ms cs us An m cn zs k a b s0 s1 AO j cO out) {bz oz i : Nat} {z : Int} (hi : i < zs.length) (hA : An = some ⟨bz, oz, none⟩) (hz : zs[i] = z) : StepHeld nb m cn bz oz i z tb s0 s1 wr := by
  obtain ⟨bz', oz', p, hA', hp, hc⟩ := h.at.2.at hi
  rw [hA] at hA'
  simp only [Option.some.injEq, Addr.mk.injEq, and_true] at hA'
  obtain ⟨rfl, rfl⟩ := hA'
  rw [hz] at hp
  subst hp
  exact ⟨by rw [h.n.cell, hA]; rfl, hc, by rw [h.t.cell]; rfl, by rw [h.t.cell]; rfl, trivial⟩
/-- How a step ends, from the loop's state. -/
theorem StepSt.done (h : StepSt w wr bO bS bZ nb tb As ms cs us An m cn zs k a b s0 s1 AO j cO out) {q : (List Ce × List Rc) × Bool} (hq : q = ((us, out), true)) : StepEnd w q (.returned (.tuple #[.slice As ms cs, .slice AO j cO, .bool true])) wr := by
  subst hq
  have h1 := h.s.1
  have h2 := h.o.1
  rw [ceCells_length] at h1
  rw [rcCells_length] at h2
  exact ⟨As, cs, ms, AO, cO, j, by show us.length = ms; omega, by show out.length = j; omega, rfl, own_base h.s h.ws, own_base h.o h.wo, h.bel⟩
end Go.Proofs.Ytlanmkimaambgaa.hexes

namespace Go.Proofs.Ytlanmkimaambgaa.hexes
open Go.RowKit

def findS23 (n : Nat) : Code → Option Code
  | .region id ops d => if id = n then some (.region id ops d) else none
  | .seq a b => match findS23 n a with
    | some c => some c
    | none => findS23 n b
  | .block _ c => findS23 n c
  | .scope c => findS23 n c
  | .loop c => findS23 n c
  | .cond _ a b => match findS23 n a with
    | some c => some c
    | none => findS23 n b
  | _ => none
def opsOfS23 : Option Code → Array Oper
  | some (.region _ ops _) => ops
  | _ => #[]
noncomputable def opsS23 : Array Oper := opsOfS23 (Try.f9.body.bind (findS23 23))
def schS23 : List Nat := [0, 1, 2, 3, 4, 5, 6, 7, 8, 9, 10, 11, 12]
def LS23 (k : Nat) : Array Bool := ((List.range 13).map fun i => (schS23.take k).contains i).toArray
theorem noselS23 : Region.noSelect opsS23 = true := by kernel_rfl
def qS23_0 : Oper := { dst := some 113, op := Op.move (Operand.tmp 10), type := 34, pos := "l10_steps.go:32", after := #[], guard := none }
theorem hS23_0 : opsS23[0]? = some qS23_0 := by kernel_rfl
theorem lS23_0 : (LS23 0).setIfInBounds 0 true = LS23 1 := by kernel_rfl
theorem tS23_0 {Q : Exit → Act → World → Prop} {S : World → Prop} {a : Act} {w : World} (v : Value) (hQ : ∀ c a w, Q (.panic c) (a.put (some 113) v) w → Q (.panic c) a w) (hy : YieldsIf Try.prog opsS23 S qS23_0 v a) (hS : S w)
    (h : wpAnyH Try.prog .any opsS23 Q S 12 (LS23 1) (a.put (some 113) v) w) : wpAnyH Try.prog .any opsS23 Q S 13 (LS23 0) a w :=
  wpAnyH_take (i := 0) hS23_0 noselS23 (by kernel_rfl) (by kernel_rfl) hQ hy hS (lS23_0.symm ▸ h)
def qS23_1 : Oper := { dst := some 114, op := Op.fieldAddr 42 (Operand.tmp 11) 3, type := 0, pos := "l10_steps.go:32", after := #[], guard := none }
theorem hS23_1 : opsS23[1]? = some qS23_1 := by kernel_rfl
theorem lS23_1 : (LS23 1).setIfInBounds 1 true = LS23 2 := by kernel_rfl
theorem tS23_1 {Q : Exit → Act → World → Prop} {S : World → Prop} {a : Act} {w : World} (v : Value) (hQ : ∀ c a w, Q (.panic c) (a.put (some 114) v) w → Q (.panic c) a w) (hy : YieldsIf Try.prog opsS23 S qS23_1 v a) (hS : S w)
    (h : wpAnyH Try.prog .any opsS23 Q S 11 (LS23 2) (a.put (some 114) v) w) : wpAnyH Try.prog .any opsS23 Q S 12 (LS23 1) a w :=
  wpAnyH_take (i := 1) hS23_1 noselS23 (by kernel_rfl) (by kernel_rfl) hQ hy hS (lS23_1.symm ▸ h)
def qS23_2 : Oper := { dst := some 115, op := Op.load 40 (Operand.tmp 114), type := 40, pos := "l10_steps.go:32", after := #[{ on := 1, ground := Ground.data }], guard := none }
theorem hS23_2 : opsS23[2]? = some qS23_2 := by kernel_rfl
theorem lS23_2 : (LS23 2).setIfInBounds 2 true = LS23 3 := by kernel_rfl
theorem tS23_2 {Q : Exit → Act → World → Prop} {S : World → Prop} {a : Act} {w : World} (v : Value) (hQ : ∀ c a w, Q (.panic c) (a.put (some 115) v) w → Q (.panic c) a w) (hy : YieldsIf Try.prog opsS23 S qS23_2 v a) (hS : S w)
    (h : wpAnyH Try.prog .any opsS23 Q S 10 (LS23 3) (a.put (some 115) v) w) : wpAnyH Try.prog .any opsS23 Q S 11 (LS23 2) a w :=
  wpAnyH_take (i := 2) hS23_2 noselS23 (by kernel_rfl) (by kernel_rfl) hQ hy hS (lS23_2.symm ▸ h)
def qS23_3 : Oper := { dst := some 116, op := Op.move (Operand.tmp 21), type := 3, pos := "l10_steps.go:32", after := #[], guard := none }
theorem hS23_3 : opsS23[3]? = some qS23_3 := by kernel_rfl
theorem lS23_3 : (LS23 3).setIfInBounds 3 true = LS23 4 := by kernel_rfl
theorem tS23_3 {Q : Exit → Act → World → Prop} {S : World → Prop} {a : Act} {w : World} (v : Value) (hQ : ∀ c a w, Q (.panic c) (a.put (some 116) v) w → Q (.panic c) a w) (hy : YieldsIf Try.prog opsS23 S qS23_3 v a) (hS : S w)
    (h : wpAnyH Try.prog .any opsS23 Q S 9 (LS23 4) (a.put (some 116) v) w) : wpAnyH Try.prog .any opsS23 Q S 10 (LS23 3) a w :=
  wpAnyH_take (i := 3) hS23_3 noselS23 (by kernel_rfl) (by kernel_rfl) hQ hy hS (lS23_3.symm ▸ h)
def qS23_4 : Oper := { dst := some 117, op := Op.indexAddr 40 (Operand.tmp 115) (Operand.tmp 116), type := 0, pos := "l10_steps.go:32", after := #[{ on := 2, ground := Ground.data }, { on := 3, ground := Ground.data }], guard := none }
theorem hS23_4 : opsS23[4]? = some qS23_4 := by kernel_rfl
theorem lS23_4 : (LS23 4).setIfInBounds 4 true = LS23 5 := by kernel_rfl
theorem tS23_4 {Q : Exit → Act → World → Prop} {S : World → Prop} {a : Act} {w : World} (v : Value) (hQ : ∀ c a w, Q (.panic c) (a.put (some 117) v) w → Q (.panic c) a w) (hy : YieldsIf Try.prog opsS23 S qS23_4 v a) (hS : S w)
    (h : wpAnyH Try.prog .any opsS23 Q S 8 (LS23 5) (a.put (some 117) v) w) : wpAnyH Try.prog .any opsS23 Q S 9 (LS23 4) a w :=
  wpAnyH_take (i := 4) hS23_4 noselS23 (by kernel_rfl) (by kernel_rfl) hQ hy hS (lS23_4.symm ▸ h)
def qS23_5 : Oper := { dst := some 118, op := Op.load 3 (Operand.tmp 117), type := 3, pos := "l10_steps.go:32", after := #[{ on := 4, ground := Ground.data }], guard := none }
theorem hS23_5 : opsS23[5]? = some qS23_5 := by kernel_rfl
theorem lS23_5 : (LS23 5).setIfInBounds 5 true = LS23 6 := by kernel_rfl
theorem tS23_5 {Q : Exit → Act → World → Prop} {S : World → Prop} {a : Act} {w : World} (v : Value) (hQ : ∀ c a w, Q (.panic c) (a.put (some 118) v) w → Q (.panic c) a w) (hy : YieldsIf Try.prog opsS23 S qS23_5 v a) (hS : S w)
    (h : wpAnyH Try.prog .any opsS23 Q S 7 (LS23 6) (a.put (some 118) v) w) : wpAnyH Try.prog .any opsS23 Q S 8 (LS23 5) a w :=
  wpAnyH_take (i := 5) hS23_5 noselS23 (by kernel_rfl) (by kernel_rfl) hQ hy hS (lS23_5.symm ▸ h)
def qS23_6 : Oper := { dst := some 119, op := Op.load 29 (Operand.tmp 18), type := 29, pos := "l10_steps.go:32", after := #[], guard := none }
theorem hS23_6 : opsS23[6]? = some qS23_6 := by kernel_rfl
theorem lS23_6 : (LS23 6).setIfInBounds 6 true = LS23 7 := by kernel_rfl
theorem tS23_6 {Q : Exit → Act → World → Prop} {S : World → Prop} {a : Act} {w : World} (v : Value) (hQ : ∀ c a w, Q (.panic c) (a.put (some 119) v) w → Q (.panic c) a w) (hy : YieldsIf Try.prog opsS23 S qS23_6 v a) (hS : S w)
    (h : wpAnyH Try.prog .any opsS23 Q S 6 (LS23 7) (a.put (some 119) v) w) : wpAnyH Try.prog .any opsS23 Q S 7 (LS23 6) a w :=
  wpAnyH_take (i := 6) hS23_6 noselS23 (by kernel_rfl) (by kernel_rfl) hQ hy hS (lS23_6.symm ▸ h)
def qS23_7 : Oper := { dst := some 120, op := Op.move (Operand.tmp 13), type := 3, pos := "l10_steps.go:32", after := #[], guard := none }
theorem hS23_7 : opsS23[7]? = some qS23_7 := by kernel_rfl
theorem lS23_7 : (LS23 7).setIfInBounds 7 true = LS23 8 := by kernel_rfl
theorem tS23_7 {Q : Exit → Act → World → Prop} {S : World → Prop} {a : Act} {w : World} (v : Value) (hQ : ∀ c a w, Q (.panic c) (a.put (some 120) v) w → Q (.panic c) a w) (hy : YieldsIf Try.prog opsS23 S qS23_7 v a) (hS : S w)
    (h : wpAnyH Try.prog .any opsS23 Q S 5 (LS23 8) (a.put (some 120) v) w) : wpAnyH Try.prog .any opsS23 Q S 6 (LS23 7) a w :=
  wpAnyH_take (i := 7) hS23_7 noselS23 (by kernel_rfl) (by kernel_rfl) hQ hy hS (lS23_7.symm ▸ h)
def qS23_8 : Oper := { dst := some 121, op := Op.move (Operand.tmp 14), type := 3, pos := "l10_steps.go:32", after := #[], guard := none }
theorem hS23_8 : opsS23[8]? = some qS23_8 := by kernel_rfl
theorem lS23_8 : (LS23 8).setIfInBounds 8 true = LS23 9 := by kernel_rfl
theorem tS23_8 {Q : Exit → Act → World → Prop} {S : World → Prop} {a : Act} {w : World} (v : Value) (hQ : ∀ c a w, Q (.panic c) (a.put (some 121) v) w → Q (.panic c) a w) (hy : YieldsIf Try.prog opsS23 S qS23_8 v a) (hS : S w)
    (h : wpAnyH Try.prog .any opsS23 Q S 4 (LS23 9) (a.put (some 121) v) w) : wpAnyH Try.prog .any opsS23 Q S 5 (LS23 8) a w :=
  wpAnyH_take (i := 8) hS23_8 noselS23 (by kernel_rfl) (by kernel_rfl) hQ hy hS (lS23_8.symm ▸ h)
def qS23_9 : Oper := { dst := some 122, op := Op.build 31 #[(0, Operand.tmp 118), (1, Operand.tmp 119), (2, Operand.tmp 120), (3, Operand.tmp 121)], type := 31, pos := "l10_steps.go:32", after := #[{ on := 5, ground := Ground.data }, { on := 6, ground := Ground.data }, { on := 7, ground := Ground.data }, { on := 8, ground := Ground.data }], guard := none }
theorem hS23_9 : opsS23[9]? = some qS23_9 := by kernel_rfl
theorem lS23_9 : (LS23 9).setIfInBounds 9 true = LS23 10 := by kernel_rfl
theorem tS23_9 {Q : Exit → Act → World → Prop} {S : World → Prop} {a : Act} {w : World} (v : Value) (hQ : ∀ c a w, Q (.panic c) (a.put (some 122) v) w → Q (.panic c) a w) (hy : YieldsIf Try.prog opsS23 S qS23_9 v a) (hS : S w)
    (h : wpAnyH Try.prog .any opsS23 Q S 3 (LS23 10) (a.put (some 122) v) w) : wpAnyH Try.prog .any opsS23 Q S 4 (LS23 9) a w :=
  wpAnyH_take (i := 9) hS23_9 noselS23 (by kernel_rfl) (by kernel_rfl) hQ hy hS (lS23_9.symm ▸ h)
def qS23_10 : Oper := { dst := some 123, op := Op.buildSlice 34 1 #[(0, Operand.tmp 122)], type := 34, pos := "l10_steps.go:32", after := #[{ on := 9, ground := Ground.data }], guard := none }
theorem hS23_10 : opsS23[10]? = some qS23_10 := by kernel_rfl
theorem lS23_10 : (LS23 10).setIfInBounds 10 true = LS23 11 := by kernel_rfl
set_option maxRecDepth 100000 in
theorem cS23_10 {Q : Exit → Act → World → Prop} {S : World → Prop} {a : Act} {w : World}
    (h : ∀ K' : Act → World → Prop, Shut (∀ a w, S w → (S w → wpAnyH Try.prog .any opsS23 Q S 2 (LS23 11) a w) → K' a w) → if Region.wanted qS23_10 (yielded opsS23 a.tmps) = true then Oper.wp Try.prog qS23_10 a w K' Q else K' (a.put (some 123) undef) w) :
    wpAnyH Try.prog .any opsS23 Q S 3 (LS23 10) a w :=
  wpAnyH_ready (rs := [10]) (by kernel_rfl) (by simp) (AllReadyH.cons hS23_10 (fun K' hK => h K' (lS23_10 ▸ hK)) AllReadyH.nil)
def qS23_11 : Oper := { dst := some 124, op := Op.call { callee := Callee.builtin Builtin.append, args := #[Operand.tmp 113, Operand.tmp 123], argTypes := #[34, 34] }, type := 34, pos := "l10_steps.go:32", after := #[{ on := 0, ground := Ground.data }, { on := 10, ground := Ground.data }], guard := none }
theorem hS23_11 : opsS23[11]? = some qS23_11 := by kernel_rfl
theorem lS23_11 : (LS23 11).setIfInBounds 11 true = LS23 12 := by kernel_rfl
set_option maxRecDepth 100000 in
theorem cS23_11 {Q : Exit → Act → World → Prop} {S : World → Prop} {a : Act} {w : World}
    (h : ∀ K' : Act → World → Prop, Shut (∀ a w, S w → (S w → wpAnyH Try.prog .any opsS23 Q S 1 (LS23 12) a w) → K' a w) → if Region.wanted qS23_11 (yielded opsS23 a.tmps) = true then Oper.wp Try.prog qS23_11 a w K' Q else K' (a.put (some 124) undef) w) :
    wpAnyH Try.prog .any opsS23 Q S 2 (LS23 11) a w :=
  wpAnyH_ready (rs := [11]) (by kernel_rfl) (by simp) (AllReadyH.cons hS23_11 (fun K' hK => h K' (lS23_11 ▸ hK)) AllReadyH.nil)
def qS23_12 : Oper := { dst := some 10, op := Op.assign (Operand.tmp 124), type := 34, pos := "l10_steps.go:32", after := #[{ on := 11, ground := Ground.data }, { on := 11, ground := Ground.chain }, { on := 0, ground := Ground.phase }, { on := 1, ground := Ground.phase }, { on := 2, ground := Ground.phase }, { on := 3, ground := Ground.phase }, { on := 4, ground := Ground.phase }, { on := 5, ground := Ground.phase }, { on := 6, ground := Ground.phase }, { on := 7, ground := Ground.phase }, { on := 8, ground := Ground.phase }, { on := 9, ground := Ground.phase }, { on := 10, ground := Ground.phase }, { on := 11, ground := Ground.phase }], guard := none }
theorem hS23_12 : opsS23[12]? = some qS23_12 := by kernel_rfl
theorem lS23_12 : (LS23 12).setIfInBounds 12 true = LS23 13 := by kernel_rfl
theorem tS23_12 {Q : Exit → Act → World → Prop} {S : World → Prop} {a : Act} {w : World} (v : Value) (hQ : ∀ c a w, Q (.panic c) (a.put (some 10) v) w → Q (.panic c) a w) (hy : YieldsIf Try.prog opsS23 S qS23_12 v a) (hS : S w)
    (h : wpAnyH Try.prog .any opsS23 Q S 0 (LS23 13) (a.put (some 10) v) w) : wpAnyH Try.prog .any opsS23 Q S 1 (LS23 12) a w :=
  wpAnyH_take (i := 12) hS23_12 noselS23 (by kernel_rfl) (by kernel_rfl) hQ hy hS (lS23_12.symm ▸ h)
end Go.Proofs.Ytlanmkimaambgaa.hexes

