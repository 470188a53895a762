/-
  OutsOnly's state.
  A list of cells behind its first k; a list that lies above what was written; a scope whose label the run passes again and again.
  A statement of spec.DrawImprove: its operations, and a theorem a step.
  A statement of spec.DrawImprove: its operations, and a theorem a step.
-/
import Derived.Test.YtbbagpnjjjohpaaJ32
import Derived.ScopeJumps
import Derived.WalkMore
import Derived.Test.YtbbagpnjjjohpaaJ12

namespace Go.Proofs.Ytbbagpnjjjohpaa.hexes
open Go.RowKit

theorem Wce.beside {w w' : World} {lo hi n c g t : Nat} {A : Option Addr} {zs : List Ce} {cs : Array Value} (h : Wce w lo hi A n c zs) (k : Blk w g t cs) (gr : w.grownBy w' (some g)) (ht : t ≠ 38) : Wce w' lo hi A n c zs :=
  ⟨h.1, h.2.1, h.2.2.imp id fun ⟨g2, k2, pre, h1, h2, h3, h4⟩ => ⟨g2, k2, pre, h1, h2, h3, h4.kept gr (.inr (own_type h4 k ht))⟩⟩
/-- What OutsOnly keeps. -/
structure OutSt (w wr : World) (gs : List Nd) (wk cp : Int) (A : Option Addr) (n c : Nat) (A4 : Option Addr) (m4 c4 : Nat) (xs : List Ce) : Prop where
  l : Wce wr w.heap.size wr.heap.size A4 m4 c4 xs
  g : Blk wr w.heap.size 26 #[.slice A n c, .int .i64 wk, .int .i64 cp]
  bel : Below w.heap.size w wr
  n0 : Nds w A gs
section
variable {w wr w' : World} {gs : List Nd} {wk cp : Int} {A : Option Addr} {n c : Nat} {A4 : Option Addr} {m4 c4 : Nat} {xs : List Ce}
theorem OutSt.fresh (h : OutSt w wr gs wk cp A n c A4 m4 c4 xs) (hb : Below wr.heap.size wr w') : OutSt w w' gs wk cp A n c A4 m4 c4 xs :=
  ⟨(h.l.below hb).bounds (Nat.le_refl _) hb.size, h.g.below hb, below_chain h.bel hb, h.n0⟩
theorem OutSt.nds (h : OutSt w wr gs wk cp A n c A4 m4 c4 xs) : Nds wr A gs := h.n0.below h.bel
theorem OutSt.put {g : Nat} {cs : Array Value} (h : OutSt w wr gs wk cp A n c A4 m4 c4 xs) (k : Blk wr g 46 cs) (gr : wr.grownBy w' (some g)) (hg : w.heap.size < g) : OutSt w w' gs wk cp A n c A4 m4 c4 xs :=
  ⟨(h.l.beside k gr (by decide)).bounds (Nat.le_refl _) gr.size, h.g.grown gr (by simp; omega), h.bel.grown gr h.bel.size (fun q hq => by have e : g = q := Option.some.inj hq; omega), h.n0⟩
end
/-- What a round reads. -/
structure OutHeld (g : Nat) (A : Option Addr) (n c : Nat) (wk cp : Int) (b o : Nat) (p0 p1 p2 p3 : Int) (w : World) : Prop where
  g0 : w.cell? ⟨g, 0, none⟩ = some (.slice A n c)
  g1 : w.cell? ⟨g, 1, none⟩ = some (.int .i64 wk)
  g2 : w.cell? ⟨g, 2, none⟩ = some (.int .i64 cp)
  c0 : w.cell? ⟨b, o, none⟩ = some (.int .i64 p0)
  c1 : w.cell? ⟨b, o + 1, none⟩ = some (.int .i64 p1)
  c2 : w.cell? ⟨b, o + 2, none⟩ = some (.int .i64 p2)
  c3 : w.cell? ⟨b, o + 3, none⟩ = some (.int .i64 p3)
theorem OutHeld.below {g : Nat} {A : Option Addr} {n c : Nat} {wk cp : Int} {b o : Nat} {p0 p1 p2 p3 : Int} {w w' : World} (h : OutHeld g A n c wk cp b o p0 p1 p2 p3 w) (hb : Below w.heap.size w w') : OutHeld g A n c wk cp b o p0 p1 p2 p3 w' :=
  ⟨below_keep hb h.g0, below_keep hb h.g1, below_keep hb h.g2, below_keep hb h.c0, below_keep hb h.c1, below_keep hb h.c2, below_keep hb h.c3⟩
theorem OutHeld.put {g : Nat} {A : Option Addr} {n c : Nat} {wk cp : Int} {b o q : Nat} {p0 p1 p2 p3 : Int} {w w' : World} (h : OutHeld g A n c wk cp b o p0 p1 p2 p3 w) (gr : w.grownBy w' (some q)) (h1 : g < q) (h2 : b < q) : OutHeld g A n c wk cp b o p0 p1 p2 p3 w' :=
  ⟨gr.cell h.g0 (by simp; omega), gr.cell h.g1 (by simp; omega), gr.cell h.g2 (by simp; omega), gr.cell h.c0 (by simp; omega), gr.cell h.c1 (by simp; omega), gr.cell h.c2 (by simp; omega), gr.cell h.c3 (by simp; omega)⟩
end Go.Proofs.Ytbbagpnjjjohpaa.hexes

namespace Go.Proofs.Ytbbagpnjjjohpaa.hexes
open Go.RowKit

/-- Behind the first k. -/
theorem Wce.drop {w : World} {lo hi n c : Nat} {A : Option Addr} {zs : List Ce} (k : Nat) (hk : k ≤ n) (h : Wce w lo hi A n c zs) {T : Option Addr} (hT : ∀ g o, A = some ⟨g, o, none⟩ → k < c → T = some ⟨g, o + k * 4, none⟩) : Wce w lo hi T (n - k) (c - k) (zs.drop k) := by
  have hl := h.1
  refine ⟨by rw [List.length_drop]; omega, by rw [ceCells_length, List.length_drop]; omega, ?_⟩
  rcases h.2.2 with ⟨h0, h1⟩ | ⟨g, k0, pre, hA, hk0, hlt, ho⟩
  · exact .inl ⟨by omega, by omega⟩
  · have hc := own_capS ho
    by_cases c1 : c ≤ k
    · exact .inl ⟨by omega, by omega⟩
    · refine .inr ⟨g, k0 + k, pre ++ ceCells (zs.take k), ?_, by rw [List.length_append, hk0, ceCells_length, List.length_take]; rw [Nat.min_eq_left (by omega)]; omega, hlt, ?_⟩
      · rw [hT g (k0 * 4) hA (by omega), show (k0 + k) * 4 = k0 * 4 + k * 4 by omega]
      · rw [show k0 + k + (n - k) = k0 + n by omega, show k0 + k + (c - k) = k0 + c by omega, List.append_assoc, ← ceCells_append, List.take_append_drop]
        exact ho
section
variable {P : Program} {a : Act} {w : World} {Q : Exit → Act → World → Prop}
end
end Go.Proofs.Ytbbagpnjjjohpaa.hexes

namespace Go.Proofs.Ytbbagpnjjjohpaa.hexes
open Go.RowKit

def findQ9 (n : Nat) : Code → Option Code
  | .region id ops d => if id = n then some (.region id ops d) else none
  | .seq a b => match findQ9 n a with
    | some c => some c
    | none => findQ9 n b
  | .block _ c => findQ9 n c
  | .scope c => findQ9 n c
  | .loop c => findQ9 n c
  | .cond _ a b => match findQ9 n a with
    | some c => some c
    | none => findQ9 n b
  | _ => none
def opsOfQ9 : Option Code → Array Oper
  | some (.region _ ops _) => ops
  | _ => #[]
noncomputable def opsQ9 : Array Oper := opsOfQ9 (Try.f20.body.bind (findQ9 9))
theorem noselQ9 : Region.noSelect opsQ9 = true := by kernel_rfl
def qQ9_0 : Oper := { dst := some 25, op := Op.load 26 (Operand.tmp 6), type := 26, pos := "l11_fixed.go:105", after := #[], guard := none }
theorem hQ9_0 : opsQ9[0]? = some qQ9_0 := by kernel_rfl
def qQ9_1 : Oper := { dst := some 26, op := Op.move (Operand.tmp 7), type := 30, pos := "l11_fixed.go:105", after := #[], guard := none }
theorem hQ9_1 : opsQ9[1]? = some qQ9_1 := by kernel_rfl
def qQ9_2 : Oper := { dst := some 27, op := Op.move (Operand.tmp 5), type := 80, pos := "l11_fixed.go:105", after := #[], guard := none }
theorem hQ9_2 : opsQ9[2]? = some qQ9_2 := by kernel_rfl
def qQ9_3 : Oper := { dst := some 28, op := Op.load 26 (Operand.tmp 6), type := 26, pos := "l11_fixed.go:105", after := #[], guard := none }
theorem hQ9_3 : opsQ9[3]? = some qQ9_3 := by kernel_rfl
def qQ9_4 : Oper := { dst := some 29, op := Op.call { callee := Callee.value (Operand.func 55), args := #[Operand.tmp 27, Operand.tmp 28], argTypes := #[80, 26] }, type := 38, pos := "l11_fixed.go:105", after := #[{ on := 2, ground := Ground.data }, { on := 3, ground := Ground.data }], guard := none }
theorem hQ9_4 : opsQ9[4]? = some qQ9_4 := by kernel_rfl
def qQ9_5 : Oper := { dst := some 30, op := Op.call { callee := Callee.value (Operand.func 22), args := #[Operand.tmp 25, Operand.tmp 26, Operand.tmp 29], argTypes := #[26, 30, 38] }, type := 35, pos := "l11_fixed.go:105", after := #[{ on := 0, ground := Ground.data }, { on := 1, ground := Ground.data }, { on := 4, ground := Ground.data }, { on := 4, ground := Ground.chain }], guard := none }
theorem hQ9_5 : opsQ9[5]? = some qQ9_5 := by kernel_rfl
def qQ9_6 : Oper := { dst := some 24, op := Op.move (Operand.tmp 30), type := 35, pos := "l11_fixed.go:105", after := #[{ on := 5, ground := Ground.data }], guard := none }
theorem hQ9_6 : opsQ9[6]? = some qQ9_6 := by kernel_rfl
def qQ9_7 : Oper := { dst := some 31, op := Op.extract (Operand.tmp 24) 0, type := 30, pos := "l11_fixed.go:105", after := #[{ on := 6, ground := Ground.data }], guard := none }
theorem hQ9_7 : opsQ9[7]? = some qQ9_7 := by kernel_rfl
def qQ9_8 : Oper := { dst := some 32, op := Op.extract (Operand.tmp 24) 1, type := 30, pos := "l11_fixed.go:105", after := #[{ on := 6, ground := Ground.data }, { on := 9, ground := Ground.gcOnly Departure.lateStores }], guard := none }
theorem hQ9_8 : opsQ9[8]? = some qQ9_8 := by kernel_rfl
def qQ9_9 : Oper := { dst := some 7, op := Op.assign (Operand.tmp 31), type := 30, pos := "l11_fixed.go:105", after := #[{ on := 7, ground := Ground.data }, { on := 5, ground := Ground.chain }, { on := 0, ground := Ground.phase }, { on := 1, ground := Ground.phase }, { on := 2, ground := Ground.phase }, { on := 3, ground := Ground.phase }, { on := 4, ground := Ground.phase }, { on := 5, ground := Ground.phase }, { on := 6, ground := Ground.phase }, { on := 7, ground := Ground.phase }, { on := 8, ground := Ground.textOnly Departure.lateStores }], guard := none }
theorem hQ9_9 : opsQ9[9]? = some qQ9_9 := by kernel_rfl
theorem tQ9_e_0 : RegT Try.prog opsQ9 qQ9_0 (some 25) 9 (#[false, false, false, false, false, false, false, false, false, false] : Array Bool) (#[true, false, false, false, false, false, false, false, false, false] : Array Bool) := regT hQ9_0 rfl noselQ9 (by kernel_rfl) (by kernel_rfl) (by kernel_rfl)
theorem tQ9_0_1 : RegT Try.prog opsQ9 qQ9_1 (some 26) 8 (#[true, false, false, false, false, false, false, false, false, false] : Array Bool) (#[true, true, false, false, false, false, false, false, false, false] : Array Bool) := regT hQ9_1 rfl noselQ9 (by kernel_rfl) (by kernel_rfl) (by kernel_rfl)
theorem tQ9_01_2 : RegT Try.prog opsQ9 qQ9_2 (some 27) 7 (#[true, true, false, false, false, false, false, false, false, false] : Array Bool) (#[true, true, true, false, false, false, false, false, false, false] : Array Bool) := regT hQ9_2 rfl noselQ9 (by kernel_rfl) (by kernel_rfl) (by kernel_rfl)
theorem tQ9_012_3 : RegT Try.prog opsQ9 qQ9_3 (some 28) 6 (#[true, true, true, false, false, false, false, false, false, false] : Array Bool) (#[true, true, true, true, false, false, false, false, false, false] : Array Bool) := regT hQ9_3 rfl noselQ9 (by kernel_rfl) (by kernel_rfl) (by kernel_rfl)
theorem tQ9_012345_6 : RegT Try.prog opsQ9 qQ9_6 (some 24) 3 (#[true, true, true, true, true, true, false, false, false, false] : Array Bool) (#[true, true, true, true, true, true, true, false, false, false] : Array Bool) := regT hQ9_6 rfl noselQ9 (by kernel_rfl) (by kernel_rfl) (by kernel_rfl)
theorem tQ9_0123456_7 : RegT Try.prog opsQ9 qQ9_7 (some 31) 2 (#[true, true, true, true, true, true, true, false, false, false] : Array Bool) (#[true, true, true, true, true, true, true, true, false, false] : Array Bool) := regT hQ9_7 rfl noselQ9 (by kernel_rfl) (by kernel_rfl) (by kernel_rfl)
theorem tQ9_01234567_8 : RegT Try.prog opsQ9 qQ9_8 (some 32) 1 (#[true, true, true, true, true, true, true, true, false, false] : Array Bool) (#[true, true, true, true, true, true, true, true, true, false] : Array Bool) := regT hQ9_8 rfl noselQ9 (by kernel_rfl) (by kernel_rfl) (by kernel_rfl)
theorem tQ9_012345678_9 : RegT Try.prog opsQ9 qQ9_9 (some 7) 0 (#[true, true, true, true, true, true, true, true, true, false] : Array Bool) (#[true, true, true, true, true, true, true, true, true, true] : Array Bool) := regT hQ9_9 rfl noselQ9 (by kernel_rfl) (by kernel_rfl) (by kernel_rfl)
theorem cQ9_01234_5 : RegC Try.prog opsQ9 qQ9_5 (some 30) 4 (#[true, true, true, true, true, false, false, false, false, false] : Array Bool) (#[true, true, true, true, true, true, false, false, false, false] : Array Bool) := regC hQ9_5 rfl (by kernel_rfl) (by kernel_rfl)
theorem cQ9_0123_4 : RegC Try.prog opsQ9 qQ9_4 (some 29) 5 (#[true, true, true, true, false, false, false, false, false, false] : Array Bool) (#[true, true, true, true, true, false, false, false, false, false] : Array Bool) := regC hQ9_4 rfl (by kernel_rfl) (by kernel_rfl)
end Go.Proofs.Ytbbagpnjjjohpaa.hexes

namespace Go.Proofs.Ytbbagpnjjjohpaa.hexes
open Go.RowKit

def findQ10 (n : Nat) : Code → Option Code
  | .region id ops d => if id = n then some (.region id ops d) else none
  | .seq a b => match findQ10 n a with
    | some c => some c
    | none => findQ10 n b
  | .block _ c => findQ10 n c
  | .scope c => findQ10 n c
  | .loop c => findQ10 n c
  | .cond _ a b => match findQ10 n a with
    | some c => some c
    | none => findQ10 n b
  | _ => none
def opsOfQ10 : Option Code → Array Oper
  | some (.region _ ops _) => ops
  | _ => #[]
noncomputable def opsQ10 : Array Oper := opsOfQ10 (Try.f20.body.bind (findQ10 10))
theorem noselQ10 : Region.noSelect opsQ10 = true := by kernel_rfl
def qQ10_0 : Oper := { dst := some 33, op := Op.load 26 (Operand.tmp 6), type := 26, pos := "l11_fixed.go:107", after := #[], guard := none }
theorem hQ10_0 : opsQ10[0]? = some qQ10_0 := by kernel_rfl
def qQ10_1 : Oper := { dst := some 34, op := Op.move (Operand.tmp 7), type := 30, pos := "l11_fixed.go:107", after := #[{ on := 5, ground := Ground.gcOnly Departure.lateStores }], guard := none }
theorem hQ10_1 : opsQ10[1]? = some qQ10_1 := by kernel_rfl
def qQ10_2 : Oper := { dst := some 35, op := Op.move (Operand.tmp 5), type := 80, pos := "l11_fixed.go:107", after := #[], guard := none }
theorem hQ10_2 : opsQ10[2]? = some qQ10_2 := by kernel_rfl
def qQ10_3 : Oper := { dst := some 36, op := Op.load 26 (Operand.tmp 6), type := 26, pos := "l11_fixed.go:107", after := #[], guard := none }
theorem hQ10_3 : opsQ10[3]? = some qQ10_3 := by kernel_rfl
def qQ10_4 : Oper := { dst := some 37, op := Op.call { callee := Callee.value (Operand.func 55), args := #[Operand.tmp 35, Operand.tmp 36], argTypes := #[80, 26] }, type := 38, pos := "l11_fixed.go:107", after := #[{ on := 2, ground := Ground.data }, { on := 3, ground := Ground.data }], guard := none }
theorem hQ10_4 : opsQ10[4]? = some qQ10_4 := by kernel_rfl
def qQ10_5 : Oper := { dst := none, op := Op.store 26 (Operand.tmp 2) (Operand.tmp 33), type := 0, pos := "l11_fixed.go:107", after := #[{ on := 0, ground := Ground.data }, { on := 4, ground := Ground.chain }, { on := 0, ground := Ground.phase }, { on := 1, ground := Ground.textOnly Departure.lateStores }, { on := 2, ground := Ground.textOnly Departure.lateStores }, { on := 3, ground := Ground.textOnly Departure.lateStores }, { on := 4, ground := Ground.textOnly Departure.lateStoresUnsure }], guard := none }
theorem hQ10_5 : opsQ10[5]? = some qQ10_5 := by kernel_rfl
def qQ10_6 : Oper := { dst := some 3, op := Op.assign (Operand.tmp 34), type := 30, pos := "l11_fixed.go:107", after := #[{ on := 1, ground := Ground.data }, { on := 5, ground := Ground.chain }, { on := 0, ground := Ground.phase }, { on := 1, ground := Ground.phase }, { on := 2, ground := Ground.textOnly Departure.lateStores }, { on := 3, ground := Ground.textOnly Departure.lateStores }, { on := 4, ground := Ground.textOnly Departure.lateStoresUnsure }, { on := 5, ground := Ground.phase }], guard := none }
theorem hQ10_6 : opsQ10[6]? = some qQ10_6 := by kernel_rfl
def qQ10_7 : Oper := { dst := none, op := Op.store 38 (Operand.tmp 4) (Operand.tmp 37), type := 0, pos := "l11_fixed.go:107", after := #[{ on := 4, ground := Ground.data }, { on := 6, ground := Ground.chain }, { on := 0, ground := Ground.phase }, { on := 1, ground := Ground.phase }, { on := 2, ground := Ground.phase }, { on := 3, ground := Ground.phase }, { on := 4, ground := Ground.phase }, { on := 5, ground := Ground.phase }, { on := 6, ground := Ground.phase }], guard := none }
theorem hQ10_7 : opsQ10[7]? = some qQ10_7 := by kernel_rfl
theorem tQ10_e_0 : RegT Try.prog opsQ10 qQ10_0 (some 33) 7 (#[false, false, false, false, false, false, false, false] : Array Bool) (#[true, false, false, false, false, false, false, false] : Array Bool) := regT hQ10_0 rfl noselQ10 (by kernel_rfl) (by kernel_rfl) (by kernel_rfl)
theorem tQ10_0_1 : RegT Try.prog opsQ10 qQ10_1 (some 34) 6 (#[true, false, false, false, false, false, false, false] : Array Bool) (#[true, true, false, false, false, false, false, false] : Array Bool) := regT hQ10_1 rfl noselQ10 (by kernel_rfl) (by kernel_rfl) (by kernel_rfl)
theorem tQ10_01_2 : RegT Try.prog opsQ10 qQ10_2 (some 35) 5 (#[true, true, false, false, false, false, false, false] : Array Bool) (#[true, true, true, false, false, false, false, false] : Array Bool) := regT hQ10_2 rfl noselQ10 (by kernel_rfl) (by kernel_rfl) (by kernel_rfl)
theorem tQ10_012_3 : RegT Try.prog opsQ10 qQ10_3 (some 36) 4 (#[true, true, true, false, false, false, false, false] : Array Bool) (#[true, true, true, true, false, false, false, false] : Array Bool) := regT hQ10_3 rfl noselQ10 (by kernel_rfl) (by kernel_rfl) (by kernel_rfl)
theorem tQ10_012345_6 : RegT Try.prog opsQ10 qQ10_6 (some 3) 1 (#[true, true, true, true, true, true, false, false] : Array Bool) (#[true, true, true, true, true, true, true, false] : Array Bool) := regT hQ10_6 rfl noselQ10 (by kernel_rfl) (by kernel_rfl) (by kernel_rfl)
theorem cQ10_0123456_7 : RegC Try.prog opsQ10 qQ10_7 (none) 0 (#[true, true, true, true, true, true, true, false] : Array Bool) (#[true, true, true, true, true, true, true, true] : Array Bool) := regC hQ10_7 rfl (by kernel_rfl) (by kernel_rfl)
theorem cQ10_01234_5 : RegC Try.prog opsQ10 qQ10_5 (none) 2 (#[true, true, true, true, true, false, false, false] : Array Bool) (#[true, true, true, true, true, true, false, false] : Array Bool) := regC hQ10_5 rfl (by kernel_rfl) (by kernel_rfl)
theorem cQ10_0123_4 : RegC Try.prog opsQ10 qQ10_4 (some 37) 3 (#[true, true, true, true, false, false, false, false] : Array Bool) (#[true, true, true, true, true, false, false, false] : Array Bool) := regC hQ10_4 rfl (by kernel_rfl) (by kernel_rfl)
end Go.Proofs.Ytbbagpnjjjohpaa.hexes

