/-
  OutsOnly's state.
-/
import Derived.Test.YtbbagpnjjjohpaaJ35

namespace Go.Proofs.Ytbbagpnjjjohpaa.hexes
open Go.RowKit

theorem Wce.beside {w w' : World} {lo hi n c g t : Nat} {A : Option Addr} {zs : List Ce} {cs : Array Value} (h : Wce w lo hi A n c zs) (k : Blk w g t cs) (gr : w.grownBy w' (some g)) (ht : t ≠ 38) : Wce w' lo hi A n c zs :=
  ⟨h.1, h.2.1, h.2.2.imp id fun ⟨g2, k2, pre, h1, h2, h3, h4⟩ => ⟨g2, k2, pre, h1, h2, h3, h4.kept gr (.inr (own_type h4 k ht))⟩⟩
/-- What OutsOnly keeps. -/
structure OutSt (w wr : World) (gs : List Nd) (wk cp : Int) (A : Option Addr) (n c : Nat) (A4 : Option Addr) (m4 c4 : Nat) (xs : List Ce) : Prop where
  l : Wce wr w.heap.size wr.heap.size A4 m4 c4 xs
  g : Blk wr w.heap.size 26 #[.slice A n c, .int .i64 wk, .int .i64 cp]
  bel : Below w.heap.size w wr
  n0 : Nds w A gs
section
variable {w wr w' : World} {gs : List Nd} {wk cp : Int} {A : Option Addr} {n c : Nat} {A4 : Option Addr} {m4 c4 : Nat} {xs : List Ce}
theorem OutSt.fresh (h : OutSt w wr gs wk cp A n c A4 m4 c4 xs) (hb : Below wr.heap.size wr w') : OutSt w w' gs wk cp A n c A4 m4 c4 xs :=
  ⟨(h.l.below hb).bounds (Nat.le_refl _) hb.size, h.g.below hb, below_chain h.bel hb, h.n0⟩
theorem OutSt.nds (h : OutSt w wr gs wk cp A n c A4 m4 c4 xs) : Nds wr A gs := h.n0.below h.bel
theorem OutSt.put {g : Nat} {cs : Array Value} (h : OutSt w wr gs wk cp A n c A4 m4 c4 xs) (k : Blk wr g 46 cs) (gr : wr.grownBy w' (some g)) (hg : w.heap.size < g) : OutSt w w' gs wk cp A n c A4 m4 c4 xs :=
  ⟨(h.l.beside k gr (by decide)).bounds (Nat.le_refl _) gr.size, h.g.grown gr (by simp; omega), h.bel.grown gr h.bel.size (fun q hq => by have e : g = q := Option.some.inj hq; omega), h.n0⟩
end
/-- What a round reads. -/
structure OutHeld (g : Nat) (A : Option Addr) (n c : Nat) (wk cp : Int) (b o : Nat) (p0 p1 p2 p3 : Int) (w : World) : Prop where
  g0 : w.cell? ⟨g, 0, none⟩ = some (.slice A n c)
  g1 : w.cell? ⟨g, 1, none⟩ = some (.int .i64 wk)
  g2 : w.cell? ⟨g, 2, none⟩ = some (.int .i64 cp)
  c0 : w.cell? ⟨b, o, none⟩ = some (.int .i64 p0)
  c1 : w.cell? ⟨b, o + 1, none⟩ = some (.int .i64 p1)
  c2 : w.cell? ⟨b, o + 2, none⟩ = some (.int .i64 p2)
  c3 : w.cell? ⟨b, o + 3, none⟩ = some (.int .i64 p3)
theorem OutHeld.below {g : Nat} {A : Option Addr} {n c : Nat} {wk cp : Int} {b o : Nat} {p0 p1 p2 p3 : Int} {w w' : World} (h : OutHeld g A n c wk cp b o p0 p1 p2 p3 w) (hb : Below w.heap.size w w') : OutHeld g A n c wk cp b o p0 p1 p2 p3 w' :=
  ⟨below_keep hb h.g0, below_keep hb h.g1, below_keep hb h.g2, below_keep hb h.c0, below_keep hb h.c1, below_keep hb h.c2, below_keep hb h.c3⟩
theorem OutHeld.put {g : Nat} {A : Option Addr} {n c : Nat} {wk cp : Int} {b o q : Nat} {p0 p1 p2 p3 : Int} {w w' : World} (h : OutHeld g A n c wk cp b o p0 p1 p2 p3 w) (gr : w.grownBy w' (some q)) (h1 : g < q) (h2 : b < q) : OutHeld g A n c wk cp b o p0 p1 p2 p3 w' :=
  ⟨gr.cell h.g0 (by simp; omega), gr.cell h.g1 (by simp; omega), gr.cell h.g2 (by simp; omega), gr.cell h.c0 (by simp; omega), gr.cell h.c1 (by simp; omega), gr.cell h.c2 (by simp; omega), gr.cell h.c3 (by simp; omega)⟩
end Go.Proofs.Ytbbagpnjjjohpaa.hexes

