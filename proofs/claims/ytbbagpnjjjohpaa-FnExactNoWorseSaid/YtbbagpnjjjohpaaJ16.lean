/-
  Nodes written over: what the law's marks reach of a graph's memory, and what they leave.
-/
import Derived.Test.YtbbagpnjjjohpaaJ15

namespace Go.Proofs.Ytbbagpnjjjohpaa.hexes
open Go.RowKit

/-- Blocks from lo on and below hi were written, any number of them. -/
inductive WroteR (lo hi : Nat) : World → World → Prop
  | refl (w : World) : WroteR lo hi w w
  | step {w w1 w2 : World} (h : WroteR lo hi w w1) (hw : Wrote w1 w2 lo hi) : WroteR lo hi w w2

theorem Wrote.widen {w w' : World} {lo hi lo' hi' : Nat} (h : Wrote w w' lo hi) (h1 : lo' ≤ lo) (h2 : hi ≤ hi') : Wrote w w' lo' hi' := by
  obtain ⟨row, hg, hr⟩ := h
  exact ⟨row, hg, fun g e => ⟨Nat.le_trans h1 (hr g e).1, Nat.lt_of_lt_of_le (hr g e).2 h2⟩⟩

theorem WroteR.size {w w' : World} {lo hi : Nat} (h : WroteR lo hi w w') : w.heap.size ≤ w'.heap.size := by
  induction h with
  | refl => exact Nat.le_refl _
  | step _ hw ih => exact Nat.le_trans ih hw.size

/-- What is left of a graph's memory while it is written over: the rows, whatever they hold; the nodes' slices as they were. -/
structure GrHeld (w : World) (lo : Nat) (A : Option Addr) (n c : Nat) (gs : List Nd) (vs us : List Nv) (f : Nat → Nat) : Prop where
  ul : us.length = n
  nodes : Row w lo (f 0) 46 4 A n c (nvCells us)
  outs : ∀ i (h1 : i < us.length) (h2 : i < vs.length), us[i].2.2.2 = vs[i].2.2.2
  inner : ∀ i (h1 : i < vs.length) (h2 : i < gs.length), ∃ zs, Row w (f i) (f (i + 1)) 3 1 vs[i].2.2.2.1 gs[i].2.2.2.length vs[i].2.2.2.2.2 (isCells zs)

theorem GrRows.held {w : World} {lo hi n c : Nat} {A : Option Addr} {gs : List Nd} {vs : List Nv} {f : Nat → Nat} (h : GrRows w lo hi A n c gs vs f) : GrHeld w lo A n c gs vs vs f :=
  ⟨h.vl, h.nodes, fun _ _ _ => rfl, fun i h1 h2 => ⟨_, h.inner i h1 h2⟩⟩

end Go.Proofs.Ytbbagpnjjjohpaa.hexes

