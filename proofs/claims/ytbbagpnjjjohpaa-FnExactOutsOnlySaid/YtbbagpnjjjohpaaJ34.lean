/-
  How Improve ends; what its emitting loop keeps.
-/
import Derived.Test.YtbbagpnjjjohpaaJ25
import Derived.Test.YtbbagpnjjjohpaaJ32
import Derived.Test.YtbbagpnjjjohpaaJ33
import Derived.Test.YtbbagpnjjjohpaaJ19
import Derived.Test.YtbbagpnjjjohpaaJ7
import Derived.Deep.CutBlock
import Derived.Test.YtbbagpnjjjohpaaJ18

namespace Go.Proofs.Ytbbagpnjjjohpaa.hexes
open Go.RowKit

/-- Two lists share no block. -/
def ApartC (A B : Option Addr) : Prop := ∀ g o o', A = some ⟨g, o, none⟩ → B ≠ some ⟨g, o', none⟩
/-- How Improve ends. -/
def ImpEnd (w : World) (q : List Ce × List Ce) (e : Ending) (w' : World) : Prop :=
  ∃ (A3 : Option Addr) (c3 m3 : Nat) (A4 : Option Addr) (c4 m4 : Nat), q.1.length = m3 ∧ q.2.length = m4 ∧ e = .returned (.tuple #[.slice A3 m3 c3, .slice A4 m4 c4]) ∧ Wce w' w.heap.size w'.heap.size A3 m3 c3 q.1 ∧ Wce w' w.heap.size w'.heap.size A4 m4 c4 q.2 ∧ ApartC A3 A4 ∧ Below w.heap.size w w'

/-- What the emitting loop reads. -/
structure ImpHeld (nb m cn bz oz j : Nat) (z : Int) (xb : Nat) (x1 : Int) (w : World) : Prop where
  c3 : w.cell? ⟨nb, 3, none⟩ = some (.slice (some ⟨bz, oz, none⟩) m cn)
  e : w.cell? ⟨bz, oz + j, none⟩ = some (.int .i64 z)
  t1 : w.cell? ⟨xb, 1, none⟩ = some (.int .i64 x1)
  tr : True
theorem ImpHeld.below {nb m cn bz oz j : Nat} {z : Int} {xb : Nat} {x1 : Int} {w w' : World} (h : ImpHeld nb m cn bz oz j z xb x1 w) (hb : Below w.heap.size w w') : ImpHeld nb m cn bz oz j z xb x1 w' :=
  ⟨below_keep hb h.c3, below_keep hb h.e, below_keep hb h.t1, trivial⟩
/-- What the emitting loop keeps from round to round. -/
structure ImpSt (w wr : World) (loS hiS bZ nb xb : Nat) (As : Option Addr) (ms cs : Nat) (us : List Ce) (An : Option Addr) (m cn : Nat) (zs : List Int) (k a b x0 x1 x2 x3 : Int) (AO : Option Addr) (j cO : Nat) (out : List Ce) : Prop where
  o : Wce wr w.heap.size wr.heap.size AO j cO out
  s : Row wr loS hiS 38 4 As ms cs (ceCells us)
  z : wr.ownsRow bZ 3 1 (.slice An m cn) m (isCells zs)
  n : Blk wr nb 46 #[.int .i64 k, .int .i64 a, .int .i64 b, .slice An m cn]
  x : Blk wr xb 38 #[.int .i64 x0, .int .i64 x1, .int .i64 x2, .int .i64 x3]
  ap : ∀ g o, AO = some ⟨g, o, none⟩ → (g < loS ∨ hiS ≤ g) ∧ g ≠ xb
  ws : w.heap.size ≤ loS
  hs : hiS ≤ wr.heap.size
  xs : xb < wr.heap.size
  bel : Below w.heap.size w wr
section
variable {w wr w' : World} {loS hiS bZ nb xb ms cs m cn j cO : Nat} {As An AO : Option Addr} {us out : List Ce} {zs : List Int} {k a b x0 x1 x2 x3 : Int}
theorem ImpSt.fresh (h : ImpSt w wr loS hiS bZ nb xb As ms cs us An m cn zs k a b x0 x1 x2 x3 AO j cO out) (hb : Below wr.heap.size wr w') : ImpSt w w' loS hiS bZ nb xb As ms cs us An m cn zs k a b x0 x1 x2 x3 AO j cO out :=
  ⟨(h.o.below hb).bounds (Nat.le_refl _) hb.size, h.s.below hb, own_below h.z hb, h.n.below hb, h.x.below hb, h.ap, h.ws, Nat.le_trans h.hs hb.size, Nat.lt_of_lt_of_le h.xs hb.size, below_chain h.bel hb⟩
theorem ImpSt.at (h : ImpSt w wr loS hiS bZ nb xb As ms cs us An m cn zs k a b x0 x1 x2 x3 AO j cO out) : zs.length = m ∧ Ints wr An zs := by
  obtain ⟨A', c', he, hl, hs⟩ := Ints.of_own h.z
  simp only [Value.slice.injEq, true_and] at he
  obtain ⟨rfl, rfl⟩ := he
  exact ⟨hl, hs⟩
theorem ImpSt.held (h : ImpSt w wr loS hiS bZ nb xb As ms cs us An m cn zs k a b x0 x1 x2 x3 AO j cO out) {bz oz i : Nat} {z : Int} (hi : i < zs.length) (hA : An = some ⟨bz, oz, none⟩) (hz : zs[i] = z) : ImpHeld nb m cn bz oz i z xb x1 wr := by
  obtain ⟨bz', oz', p, hA', hp, hc⟩ := h.at.2.at hi
  rw [hA] at hA'
  simp only [Option.some.injEq, Addr.mk.injEq, and_true] at hA'
  obtain ⟨rfl, rfl⟩ := hA'
  rw [hz] at hp
  subst hp
  exact ⟨by rw [h.n.cell, hA]; rfl, hc, by rw [h.x.cell]; rfl, trivial⟩
theorem ImpSt.done (h : ImpSt w wr loS hiS bZ nb xb As ms cs us An m cn zs k a b x0 x1 x2 x3 AO j cO out) {q : List Ce × List Ce} (hq : q = (us, out)) : ImpEnd w q (.returned (.tuple #[.slice As ms cs, .slice AO j cO])) wr := by
  subst hq
  have h1 := h.s.own.1
  rw [ceCells_length] at h1
  refine ⟨As, cs, ms, AO, cO, j, by show us.length = ms; omega, h.o.1, rfl, (Wce.of_row h.s).bounds h.ws h.hs, h.o, fun g o o' hA hB => ?_, h.bel⟩
  have h3 := (h.ap g o' hB).1
  have h4 : (Value.slice As ms cs).ownBlock = some g := by rw [hA]; rfl
  have h5 := own_ge h.s.own g h4
  have h6 := h.s.lt g h4
  omega
end
end Go.Proofs.Ytbbagpnjjjohpaa.hexes

