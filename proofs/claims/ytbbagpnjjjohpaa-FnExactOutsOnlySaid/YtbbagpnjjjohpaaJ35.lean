/-
  Fixpoint's state; a list of cells read from memory.
-/
import Derived.Test.YtbbagpnjjjohpaaJ34
import Derived.Test.YtbbagpnjjjohpaaJ27

namespace Go.Proofs.Ytbbagpnjjjohpaa.hexes
open Go.RowKit

theorem Wce.empty (w : World) (lo hi : Nat) (A : Option Addr) : Wce w lo hi A 0 0 [] := ⟨rfl, rfl, .inl ⟨rfl, rfl⟩⟩
theorem Wce.lt {w : World} {lo hi n c : Nat} {A : Option Addr} {zs : List Ce} (h : Wce w lo hi A n c zs) (hc : 0 < c) : ∃ g o, A = some ⟨g, o, none⟩ ∧ g < hi := by
  rcases h.2.2 with ⟨_, h0⟩ | ⟨g, k, pre, hA, _, hlt, _⟩
  · omega
  · exact ⟨g, _, hA, hlt⟩
/-- How a function ends whose answer is a list of cells of its own. -/
def CesOut (w : World) (q : List Ce) (e : Ending) (w' : World) : Prop := ∃ A3 c3 m3, q.length = m3 ∧ e = .returned (.slice A3 m3 c3) ∧ Wce w' w.heap.size w'.heap.size A3 m3 c3 q ∧ Below w.heap.size w w'
/-- What Fixpoint keeps. -/
structure FixSt (w wr : World) (gs : List Nd) (wk cp : Int) (A : Option Addr) (n c : Nat) (A3 : Option Addr) (m3 c3 : Nat) (best : List Ce) (A4 : Option Addr) (m4 c4 : Nat) (xs : List Ce) : Prop where
  b : Wce wr w.heap.size wr.heap.size A3 m3 c3 best
  l : Wce wr w.heap.size wr.heap.size A4 m4 c4 xs
  g : Blk wr w.heap.size 26 #[.slice A n c, .int .i64 wk, .int .i64 cp]
  bel : Below w.heap.size w wr
  n0 : Nds w A gs
section
variable {w wr w' : World} {gs : List Nd} {wk cp : Int} {A : Option Addr} {n c : Nat} {A3 : Option Addr} {m3 c3 : Nat} {best : List Ce} {A4 : Option Addr} {m4 c4 : Nat} {xs : List Ce}
theorem FixSt.fresh (h : FixSt w wr gs wk cp A n c A3 m3 c3 best A4 m4 c4 xs) (hb : Below wr.heap.size wr w') : FixSt w w' gs wk cp A n c A3 m3 c3 best A4 m4 c4 xs :=
  ⟨(h.b.below hb).bounds (Nat.le_refl _) hb.size, (h.l.below hb).bounds (Nat.le_refl _) hb.size, h.g.below hb, below_chain h.bel hb, h.n0⟩
theorem FixSt.nds (h : FixSt w wr gs wk cp A n c A3 m3 c3 best A4 m4 c4 xs) : Nds wr A gs := h.n0.below h.bel
end
/-- What a round's call reads. -/
structure FixHeld (V : World) (g : Nat) (A : Option Addr) (n c : Nat) (wk cp : Int) (b o : Nat) (p0 p1 p2 p3 : Int) (w : World) : Prop where
  g0 : w.cell? ⟨g, 0, none⟩ = some (.slice A n c)
  g1 : w.cell? ⟨g, 1, none⟩ = some (.int .i64 wk)
  g2 : w.cell? ⟨g, 2, none⟩ = some (.int .i64 cp)
  c0 : w.cell? ⟨b, o, none⟩ = some (.int .i64 p0)
  c1 : w.cell? ⟨b, o + 1, none⟩ = some (.int .i64 p1)
  c2 : w.cell? ⟨b, o + 2, none⟩ = some (.int .i64 p2)
  c3 : w.cell? ⟨b, o + 3, none⟩ = some (.int .i64 p3)
  bel : Below V.heap.size V w
theorem FixHeld.below {V : World} {g : Nat} {A : Option Addr} {n c : Nat} {wk cp : Int} {b o : Nat} {p0 p1 p2 p3 : Int} {w w' : World} (h : FixHeld V g A n c wk cp b o p0 p1 p2 p3 w) (hb : Below w.heap.size w w') : FixHeld V g A n c wk cp b o p0 p1 p2 p3 w' :=
  ⟨below_keep hb h.g0, below_keep hb h.g1, below_keep hb h.g2, below_keep hb h.c0, below_keep hb h.c1, below_keep hb h.c2, below_keep hb h.c3, below_chain h.bel hb⟩
theorem FixSt.held {w wr : World} {gs : List Nd} {wk cp : Int} {A : Option Addr} {n c : Nat} {A3 : Option Addr} {m3 c3 : Nat} {best : List Ce} {A4 : Option Addr} {m4 c4 : Nat} {xs : List Ce} {p0 p1 p2 p3 : Int} (h : FixSt w wr gs wk cp A n c A3 m3 c3 best A4 m4 c4 ((p0, p1, p2, p3) :: xs)) : ∃ b o, A4 = some ⟨b, o, none⟩ ∧ FixHeld wr w.heap.size A n c wk cp b o p0 p1 p2 p3 wr := by
  obtain ⟨b, o, q0, q1, q2, q3, hA, hq, h0, h1, h2, h3⟩ := h.l.ce.at (k := 0) (by simp)
  simp only [List.getElem_cons_zero, Prod.mk.injEq] at hq
  obtain ⟨rfl, rfl, rfl, rfl⟩ := hq
  simp only [Nat.zero_mul, Nat.add_zero] at h0 h1 h2 h3
  exact ⟨b, o, hA, by rw [h.g.cell]; rfl, by rw [h.g.cell]; rfl, by rw [h.g.cell]; rfl, h0, h1, h2, h3, Below.refl _ _⟩
end Go.Proofs.Ytbbagpnjjjohpaa.hexes

