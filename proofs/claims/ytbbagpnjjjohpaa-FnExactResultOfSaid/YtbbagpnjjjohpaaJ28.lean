/-
  OutsOnly's state.
  A statement of spec.OutsOnly: its operations, and a theorem a step.
-/
import Derived.Test.YtbbagpnjjjohpaaJ24
import Derived.Test.YtbbagpnjjjohpaaJ17

namespace Go.Proofs.Ytbbagpnjjjohpaa.hexes
open Go.RowKit

theorem Wce.beside {w w' : World} {lo hi n c g t : Nat} {A : Option Addr} {zs : List Ce} {cs : Array Value} (h : Wce w lo hi A n c zs) (k : Blk w g t cs) (gr : w.grownBy w' (some g)) (ht : t ≠ 38) : Wce w' lo hi A n c zs :=
  ⟨h.1, h.2.1, h.2.2.imp id fun ⟨g2, k2, pre, h1, h2, h3, h4⟩ => ⟨g2, k2, pre, h1, h2, h3, h4.kept gr (.inr (own_type h4 k ht))⟩⟩
/-- What OutsOnly keeps. -/
structure OutSt (w wr : World) (gs : List Nd) (wk cp : Int) (A : Option Addr) (n c : Nat) (A4 : Option Addr) (m4 c4 : Nat) (xs : List Ce) : Prop where
  l : Wce wr w.heap.size wr.heap.size A4 m4 c4 xs
  g : Blk wr w.heap.size 26 #[.slice A n c, .int .i64 wk, .int .i64 cp]
  bel : Below w.heap.size w wr
  n0 : Nds w A gs
section
variable {w wr w' : World} {gs : List Nd} {wk cp : Int} {A : Option Addr} {n c : Nat} {A4 : Option Addr} {m4 c4 : Nat} {xs : List Ce}
theorem OutSt.fresh (h : OutSt w wr gs wk cp A n c A4 m4 c4 xs) (hb : Below wr.heap.size wr w') : OutSt w w' gs wk cp A n c A4 m4 c4 xs :=
  ⟨(h.l.below hb).bounds (Nat.le_refl _) hb.size, h.g.below hb, below_chain h.bel hb, h.n0⟩
theorem OutSt.nds (h : OutSt w wr gs wk cp A n c A4 m4 c4 xs) : Nds wr A gs := h.n0.below h.bel
theorem OutSt.put {g : Nat} {cs : Array Value} (h : OutSt w wr gs wk cp A n c A4 m4 c4 xs) (k : Blk wr g 46 cs) (gr : wr.grownBy w' (some g)) (hg : w.heap.size < g) : OutSt w w' gs wk cp A n c A4 m4 c4 xs :=
  ⟨(h.l.beside k gr (by decide)).bounds (Nat.le_refl _) gr.size, h.g.grown gr (by simp; omega), h.bel.grown gr h.bel.size (fun q hq => by have e : g = q := Option.some.inj hq; omega), h.n0⟩
end
/-- What a round reads. -/
structure OutHeld (g : Nat) (A : Option Addr) (n c : Nat) (wk cp : Int) (b o : Nat) (p0 p1 p2 p3 : Int) (w : World) : Prop where
  g0 : w.cell? ⟨g, 0, none⟩ = some (.slice A n c)
  g1 : w.cell? ⟨g, 1, none⟩ = some (.int .i64 wk)
  g2 : w.cell? ⟨g, 2, none⟩ = some (.int .i64 cp)
  c0 : w.cell? ⟨b, o, none⟩ = some (.int .i64 p0)
  c1 : w.cell? ⟨b, o + 1, none⟩ = some (.int .i64 p1)
  c2 : w.cell? ⟨b, o + 2, none⟩ = some (.int .i64 p2)
  c3 : w.cell? ⟨b, o + 3, none⟩ = some (.int .i64 p3)
theorem OutHeld.below {g : Nat} {A : Option Addr} {n c : Nat} {wk cp : Int} {b o : Nat} {p0 p1 p2 p3 : Int} {w w' : World} (h : OutHeld g A n c wk cp b o p0 p1 p2 p3 w) (hb : Below w.heap.size w w') : OutHeld g A n c wk cp b o p0 p1 p2 p3 w' :=
  ⟨below_keep hb h.g0, below_keep hb h.g1, below_keep hb h.g2, below_keep hb h.c0, below_keep hb h.c1, below_keep hb h.c2, below_keep hb h.c3⟩
theorem OutHeld.put {g : Nat} {A : Option Addr} {n c : Nat} {wk cp : Int} {b o q : Nat} {p0 p1 p2 p3 : Int} {w w' : World} (h : OutHeld g A n c wk cp b o p0 p1 p2 p3 w) (gr : w.grownBy w' (some q)) (h1 : g < q) (h2 : b < q) : OutHeld g A n c wk cp b o p0 p1 p2 p3 w' :=
  ⟨gr.cell h.g0 (by simp; omega), gr.cell h.g1 (by simp; omega), gr.cell h.g2 (by simp; omega), gr.cell h.c0 (by simp; omega), gr.cell h.c1 (by simp; omega), gr.cell h.c2 (by simp; omega), gr.cell h.c3 (by simp; omega)⟩
end Go.Proofs.Ytbbagpnjjjohpaa.hexes

namespace Go.Proofs.Ytbbagpnjjjohpaa.hexes
open Go.RowKit

def findO5 (n : Nat) : Code → Option Code
  | .region id ops d => if id = n then some (.region id ops d) else none
  | .seq a b => match findO5 n a with
    | some c => some c
    | none => findO5 n b
  | .block _ c => findO5 n c
  | .scope c => findO5 n c
  | .loop c => findO5 n c
  | .cond _ a b => match findO5 n a with
    | some c => some c
    | none => findO5 n b
  | _ => none
def opsOfO5 : Option Code → Array Oper
  | some (.region _ ops _) => ops
  | _ => #[]
noncomputable def opsO5 : Array Oper := opsOfO5 (Try.f28.body.bind (findO5 5))
theorem noselO5 : Region.noSelect opsO5 = true := by kernel_rfl
def qO5_0 : Oper := { dst := some 17, op := Op.load 26 (Operand.tmp 2), type := 26, pos := "l11_fixed.go:43", after := #[], guard := none }
theorem hO5_0 : opsO5[0]? = some qO5_0 := by kernel_rfl
def qO5_1 : Oper := { dst := some 18, op := Op.move (Operand.tmp 1), type := 30, pos := "l11_fixed.go:43", after := #[], guard := none }
theorem hO5_1 : opsO5[1]? = some qO5_1 := by kernel_rfl
def qO5_2 : Oper := { dst := some 19, op := Op.move (Operand.tmp 6), type := 3, pos := "l11_fixed.go:43", after := #[], guard := none }
theorem hO5_2 : opsO5[2]? = some qO5_2 := by kernel_rfl
def qO5_3 : Oper := { dst := some 20, op := Op.indexAddr 30 (Operand.tmp 18) (Operand.tmp 19), type := 0, pos := "l11_fixed.go:43", after := #[{ on := 1, ground := Ground.data }, { on := 2, ground := Ground.data }], guard := none }
theorem hO5_3 : opsO5[3]? = some qO5_3 := by kernel_rfl
def qO5_4 : Oper := { dst := some 21, op := Op.fieldAddr 38 (Operand.tmp 20) 0, type := 0, pos := "l11_fixed.go:43", after := #[{ on := 3, ground := Ground.data }], guard := none }
theorem hO5_4 : opsO5[4]? = some qO5_4 := by kernel_rfl
def qO5_5 : Oper := { dst := some 22, op := Op.load 3 (Operand.tmp 21), type := 3, pos := "l11_fixed.go:43", after := #[{ on := 4, ground := Ground.data }], guard := none }
theorem hO5_5 : opsO5[5]? = some qO5_5 := by kernel_rfl
def qO5_6 : Oper := { dst := some 23, op := Op.call { callee := Callee.value (Operand.func 56), args := #[Operand.tmp 17, Operand.tmp 22], argTypes := #[26, 3] }, type := 87, pos := "l11_fixed.go:43", after := #[{ on := 0, ground := Ground.data }, { on := 5, ground := Ground.data }], guard := none }
theorem hO5_6 : opsO5[6]? = some qO5_6 := by kernel_rfl
def qO5_7 : Oper := { dst := some 16, op := Op.move (Operand.tmp 23), type := 87, pos := "l11_fixed.go:43", after := #[{ on := 6, ground := Ground.data }], guard := none }
theorem hO5_7 : opsO5[7]? = some qO5_7 := by kernel_rfl
def qO5_8 : Oper := { dst := some 24, op := Op.extract (Operand.tmp 16) 0, type := 46, pos := "l11_fixed.go:43", after := #[{ on := 7, ground := Ground.data }], guard := none }
theorem hO5_8 : opsO5[8]? = some qO5_8 := by kernel_rfl
def qO5_9 : Oper := { dst := some 25, op := Op.extract (Operand.tmp 16) 1, type := 4, pos := "l11_fixed.go:43", after := #[{ on := 7, ground := Ground.data }, { on := 11, ground := Ground.gcOnly Departure.lateStores }], guard := none }
theorem hO5_9 : opsO5[9]? = some qO5_9 := by kernel_rfl
def qO5_10 : Oper := { dst := some 7, op := Op.alloc 46, type := 0, pos := "l11_fixed.go:43", after := #[], guard := none }
theorem hO5_10 : opsO5[10]? = some qO5_10 := by kernel_rfl
def qO5_11 : Oper := { dst := none, op := Op.store 46 (Operand.tmp 7) (Operand.tmp 24), type := 0, pos := "l11_fixed.go:43", after := #[{ on := 10, ground := Ground.data }, { on := 8, ground := Ground.data }, { on := 6, ground := Ground.chain }, { on := 0, ground := Ground.phase }, { on := 1, ground := Ground.phase }, { on := 2, ground := Ground.phase }, { on := 3, ground := Ground.phase }, { on := 4, ground := Ground.phase }, { on := 5, ground := Ground.phase }, { on := 6, ground := Ground.phase }, { on := 7, ground := Ground.phase }, { on := 8, ground := Ground.phase }, { on := 9, ground := Ground.textOnly Departure.lateStores }, { on := 10, ground := Ground.phase }], guard := none }
theorem hO5_11 : opsO5[11]? = some qO5_11 := by kernel_rfl
def qO5_12 : Oper := { dst := some 8, op := Op.assign (Operand.tmp 25), type := 4, pos := "l11_fixed.go:43", after := #[{ on := 9, ground := Ground.data }, { on := 11, ground := Ground.chain }, { on := 0, ground := Ground.phase }, { on := 1, ground := Ground.phase }, { on := 2, ground := Ground.phase }, { on := 3, ground := Ground.phase }, { on := 4, ground := Ground.phase }, { on := 5, ground := Ground.phase }, { on := 6, ground := Ground.phase }, { on := 7, ground := Ground.phase }, { on := 8, ground := Ground.phase }, { on := 9, ground := Ground.phase }, { on := 10, ground := Ground.phase }, { on := 11, ground := Ground.phase }], guard := none }
theorem hO5_12 : opsO5[12]? = some qO5_12 := by kernel_rfl
theorem tO5_e_0 : RegT Try.prog opsO5 qO5_0 (some 17) 12 (#[false, false, false, false, false, false, false, false, false, false, false, false, false] : Array Bool) (#[true, false, false, false, false, false, false, false, false, false, false, false, false] : Array Bool) := regT hO5_0 rfl noselO5 (by kernel_rfl) (by kernel_rfl) (by kernel_rfl)
theorem tO5_0_1 : RegT Try.prog opsO5 qO5_1 (some 18) 11 (#[true, false, false, false, false, false, false, false, false, false, false, false, false] : Array Bool) (#[true, true, false, false, false, false, false, false, false, false, false, false, false] : Array Bool) := regT hO5_1 rfl noselO5 (by kernel_rfl) (by kernel_rfl) (by kernel_rfl)
theorem tO5_01_2 : RegT Try.prog opsO5 qO5_2 (some 19) 10 (#[true, true, false, false, false, false, false, false, false, false, false, false, false] : Array Bool) (#[true, true, true, false, false, false, false, false, false, false, false, false, false] : Array Bool) := regT hO5_2 rfl noselO5 (by kernel_rfl) (by kernel_rfl) (by kernel_rfl)
theorem tO5_012_3 : RegT Try.prog opsO5 qO5_3 (some 20) 9 (#[true, true, true, false, false, false, false, false, false, false, false, false, false] : Array Bool) (#[true, true, true, true, false, false, false, false, false, false, false, false, false] : Array Bool) := regT hO5_3 rfl noselO5 (by kernel_rfl) (by kernel_rfl) (by kernel_rfl)
theorem tO5_0123_4 : RegT Try.prog opsO5 qO5_4 (some 21) 8 (#[true, true, true, true, false, false, false, false, false, false, false, false, false] : Array Bool) (#[true, true, true, true, true, false, false, false, false, false, false, false, false] : Array Bool) := regT hO5_4 rfl noselO5 (by kernel_rfl) (by kernel_rfl) (by kernel_rfl)
theorem tO5_01234_5 : RegT Try.prog opsO5 qO5_5 (some 22) 7 (#[true, true, true, true, true, false, false, false, false, false, false, false, false] : Array Bool) (#[true, true, true, true, true, true, false, false, false, false, false, false, false] : Array Bool) := regT hO5_5 rfl noselO5 (by kernel_rfl) (by kernel_rfl) (by kernel_rfl)
theorem tO5_0123456_7 : RegT Try.prog opsO5 qO5_7 (some 16) 5 (#[true, true, true, true, true, true, true, false, false, false, false, false, false] : Array Bool) (#[true, true, true, true, true, true, true, true, false, false, false, false, false] : Array Bool) := regT hO5_7 rfl noselO5 (by kernel_rfl) (by kernel_rfl) (by kernel_rfl)
theorem tO5_01234567_8 : RegT Try.prog opsO5 qO5_8 (some 24) 4 (#[true, true, true, true, true, true, true, true, false, false, false, false, false] : Array Bool) (#[true, true, true, true, true, true, true, true, true, false, false, false, false] : Array Bool) := regT hO5_8 rfl noselO5 (by kernel_rfl) (by kernel_rfl) (by kernel_rfl)
theorem tO5_012345678_9 : RegT Try.prog opsO5 qO5_9 (some 25) 3 (#[true, true, true, true, true, true, true, true, true, false, false, false, false] : Array Bool) (#[true, true, true, true, true, true, true, true, true, true, false, false, false] : Array Bool) := regT hO5_9 rfl noselO5 (by kernel_rfl) (by kernel_rfl) (by kernel_rfl)
theorem tO5_0123456789_10_11_12 : RegT Try.prog opsO5 qO5_12 (some 8) 0 (#[true, true, true, true, true, true, true, true, true, true, true, true, false] : Array Bool) (#[true, true, true, true, true, true, true, true, true, true, true, true, true] : Array Bool) := regT hO5_12 rfl noselO5 (by kernel_rfl) (by kernel_rfl) (by kernel_rfl)
theorem cO5_0123456789_10__11 : RegC Try.prog opsO5 qO5_11 (none) 1 (#[true, true, true, true, true, true, true, true, true, true, true, false, false] : Array Bool) (#[true, true, true, true, true, true, true, true, true, true, true, true, false] : Array Bool) := regC hO5_11 rfl (by kernel_rfl) (by kernel_rfl)
theorem cO5_0123456789__10 : RegC Try.prog opsO5 qO5_10 (some 7) 2 (#[true, true, true, true, true, true, true, true, true, true, false, false, false] : Array Bool) (#[true, true, true, true, true, true, true, true, true, true, true, false, false] : Array Bool) := regC hO5_10 rfl (by kernel_rfl) (by kernel_rfl)
theorem tO5_0123456_10_7 : RegT Try.prog opsO5 qO5_7 (some 16) 4 (#[true, true, true, true, true, true, true, false, false, false, true, false, false] : Array Bool) (#[true, true, true, true, true, true, true, true, false, false, true, false, false] : Array Bool) := regT hO5_7 rfl noselO5 (by kernel_rfl) (by kernel_rfl) (by kernel_rfl)
theorem tO5_01234567_10_8 : RegT Try.prog opsO5 qO5_8 (some 24) 3 (#[true, true, true, true, true, true, true, true, false, false, true, false, false] : Array Bool) (#[true, true, true, true, true, true, true, true, true, false, true, false, false] : Array Bool) := regT hO5_8 rfl noselO5 (by kernel_rfl) (by kernel_rfl) (by kernel_rfl)
theorem tO5_012345678_10_9 : RegT Try.prog opsO5 qO5_9 (some 25) 2 (#[true, true, true, true, true, true, true, true, true, false, true, false, false] : Array Bool) (#[true, true, true, true, true, true, true, true, true, true, true, false, false] : Array Bool) := regT hO5_9 rfl noselO5 (by kernel_rfl) (by kernel_rfl) (by kernel_rfl)
theorem cO5_012345_10_6 : RegC Try.prog opsO5 qO5_6 (some 23) 5 (#[true, true, true, true, true, true, false, false, false, false, true, false, false] : Array Bool) (#[true, true, true, true, true, true, true, false, false, false, true, false, false] : Array Bool) := regC hO5_6 rfl (by kernel_rfl) (by kernel_rfl)
set_option maxRecDepth 100000 in
theorem cO5_012345_6_10 {Q : Exit → Act → World → Prop} {S : World → Prop} {a : Act} {w : World}
    (h6 : ∀ K' : Act → World → Prop, Shut (∀ a w, S w → (S w → wpAnyH Try.prog .any opsO5 Q S 6 (#[true, true, true, true, true, true, true, false, false, false, false, false, false] : Array Bool) a w) → K' a w) → if Region.wanted qO5_6 (yielded opsO5 a.tmps) = true then Oper.wp Try.prog qO5_6 a w K' Q else K' (a.put (some 23) undef) w)
    (h10 : ∀ K' : Act → World → Prop, Shut (∀ a w, S w → (S w → wpAnyH Try.prog .any opsO5 Q S 6 (#[true, true, true, true, true, true, false, false, false, false, true, false, false] : Array Bool) a w) → K' a w) → if Region.wanted qO5_10 (yielded opsO5 a.tmps) = true then Oper.wp Try.prog qO5_10 a w K' Q else K' (a.put (some 7) undef) w) :
    wpAnyH Try.prog .any opsO5 Q S 7 (#[true, true, true, true, true, true, false, false, false, false, false, false, false] : Array Bool) a w :=
  wpAnyH_ready (rs := [6, 10]) (by kernel_rfl) (by simp) (AllReadyH.cons hO5_6 (fun K' hK => h6 K' ((show (#[true, true, true, true, true, true, false, false, false, false, false, false, false] : Array Bool).setIfInBounds 6 true = (#[true, true, true, true, true, true, true, false, false, false, false, false, false] : Array Bool) by kernel_rfl) ▸ hK)) (AllReadyH.cons hO5_10 (fun K' hK => h10 K' ((show (#[true, true, true, true, true, true, false, false, false, false, false, false, false] : Array Bool).setIfInBounds 10 true = (#[true, true, true, true, true, true, false, false, false, false, true, false, false] : Array Bool) by kernel_rfl) ▸ hK)) AllReadyH.nil))
end Go.Proofs.Ytbbagpnjjjohpaa.hexes

