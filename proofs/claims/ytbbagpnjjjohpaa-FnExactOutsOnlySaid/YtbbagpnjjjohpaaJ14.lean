/-
  Nodes written over: what the law's marks reach of a graph's memory, and what they leave.
-/
import Derived.Test.YtbbagpnjjjohpaaJ13

namespace Go.Proofs.Ytbbagpnjjjohpaa.hexes
open Go.RowKit

/-- Blocks from lo on and below hi were written, any number of them. -/
inductive WroteR (lo hi : Nat) : World → World → Prop
  | refl (w : World) : WroteR lo hi w w
  | step {w w1 w2 : World} (h : WroteR lo hi w w1) (hw : Wrote w1 w2 lo hi) : WroteR lo hi w w2

theorem Wrote.widen {w w' : World} {lo hi lo' hi' : Nat} (h : Wrote w w' lo hi) (h1 : lo' ≤ lo) (h2 : hi ≤ hi') : Wrote w w' lo' hi' := by
  obtain ⟨row, hg, hr⟩ := h
  exact ⟨row, hg, fun g e => ⟨Nat.le_trans h1 (hr g e).1, Nat.lt_of_lt_of_le (hr g e).2 h2⟩⟩

theorem WroteR.size {w w' : World} {lo hi : Nat} (h : WroteR lo hi w w') : w.heap.size ≤ w'.heap.size := by
  induction h with
  | refl => exact Nat.le_refl _
  | step _ hw ih => exact Nat.le_trans ih hw.size

theorem Row.wroteR {w w' : World} {lo hi lo' hi' e size n c : Nat} {A : Option Addr} {xs : List Value} (h : Row w lo hi e size A n c xs) (hw : WroteR lo' hi' w w') (hd : hi ≤ lo' ∨ hi' ≤ lo) : Row w' lo hi e size A n c xs := by
  induction hw with
  | refl => exact h
  | step _ hw ih => exact ih.wrote hw hd

theorem below_wroteR {a w w' : World} {lo hi : Nat} (h : Below a.heap.size a w) (hw : WroteR lo hi w w') (hlo : a.heap.size ≤ lo) : Below a.heap.size a w' := by
  induction hw with
  | refl => exact h
  | step _ hw ih => exact below_wrote ih hw hlo

theorem GrRows.wroteR {w w' : World} {lo hi lo' hi' n c : Nat} {A : Option Addr} {gs : List Nd} {vs : List Nv} {f : Nat → Nat} (h : GrRows w lo hi A n c gs vs f) (hw : WroteR lo' hi' w w') (hd : hi ≤ lo' ∨ hi' ≤ lo) : GrRows w' lo hi A n c gs vs f := by
  have m := mono_le h.mono
  have t := h.top
  have b := h.base
  have v := h.vl
  have m0 := m 0 n (Nat.zero_le _) (Nat.le_refl _)
  refine ⟨h.gl, h.vl, h.nodes.wroteR hw (by omega), h.fits, fun i h1 h2 => (h.inner i h1 h2).wroteR hw ?_, h.mono, h.top, h.base⟩
  have m1 := m 0 i (Nat.zero_le _) (by omega)
  have m2 := m (i + 1) n (by omega) (Nat.le_refl _)
  omega

/-- What is left of a graph's memory while it is written over: the rows, whatever they hold; the nodes' slices as they were. -/
structure GrHeld (w : World) (lo : Nat) (A : Option Addr) (n c : Nat) (gs : List Nd) (vs us : List Nv) (f : Nat → Nat) : Prop where
  ul : us.length = n
  nodes : Row w lo (f 0) 46 4 A n c (nvCells us)
  outs : ∀ i (h1 : i < us.length) (h2 : i < vs.length), us[i].2.2.2 = vs[i].2.2.2
  inner : ∀ i (h1 : i < vs.length) (h2 : i < gs.length), ∃ zs, Row w (f i) (f (i + 1)) 3 1 vs[i].2.2.2.1 gs[i].2.2.2.length vs[i].2.2.2.2.2 (isCells zs)

theorem own_stored3_nv {w : World} {base e g n cap : Nat} {vs : List Nv} (h : w.ownsRow base e 4 (.slice (some ⟨g, 0, none⟩) n cap) n (nvCells vs)) (k : Nat) (hk : k < vs.length) (p q r : Int) :
    (((w.setCell ⟨g, k * 4, none⟩ (.int .i64 p)).setCell ⟨g, k * 4 + 1, none⟩ (.int .i64 q)).setCell ⟨g, k * 4 + 2, none⟩ (.int .i64 r)).ownsRow base e 4 (.slice (some ⟨g, 0, none⟩) n cap) n (nvCells (vs.set k (p, q, r, vs[k].2.2.2))) ∧
    w.grownBy (((w.setCell ⟨g, k * 4, none⟩ (.int .i64 p)).setCell ⟨g, k * 4 + 1, none⟩ (.int .i64 q)).setCell ⟨g, k * 4 + 2, none⟩ (.int .i64 r)) (some g) := by
  have s0 := h.stored (k * 4) (.int .i64 p)
  have s1 := s0.1.stored (k * 4 + 1) (.int .i64 q)
  have s2 := s1.1.stored (k * 4 + 2) (.int .i64 r)
  have hl := s2.1
  have e : (((nvCells vs).set (k * 4) (.int .i64 p)).set (k * 4 + 1) (.int .i64 q)).set (k * 4 + 2) (.int .i64 r) = nvCells (vs.set k (p, q, r, vs[k].2.2.2)) := by
    have q := nvCells_set vs k p q r vs[k].2.2.2.1 vs[k].2.2.2.2.1 vs[k].2.2.2.2.2
    rw [← q]
    obtain ⟨_, _, _, e3⟩ := nvCells_at vs k hk
    obtain ⟨hb, he⟩ := List.getElem?_eq_some_iff.1 e3
    apply List.ext_getElem?
    intro i
    by_cases hi : k * 4 + 3 = i
    · subst hi
      rw [List.getElem?_set_self (by simpa using hb), List.getElem?_set_ne (by omega), List.getElem?_set_ne (by omega), List.getElem?_set_ne (by omega), e3]
    · rw [List.getElem?_set_ne hi]
  rw [e] at hl
  exact ⟨hl, grown_trans (grown_trans s0.2 s1.2) s2.2⟩

theorem GrRows.held {w : World} {lo hi n c : Nat} {A : Option Addr} {gs : List Nd} {vs : List Nv} {f : Nat → Nat} (h : GrRows w lo hi A n c gs vs f) : GrHeld w lo A n c gs vs vs f :=
  ⟨h.vl, h.nodes, fun _ _ _ => rfl, fun i h1 h2 => ⟨_, h.inner i h1 h2⟩⟩

end Go.Proofs.Ytbbagpnjjjohpaa.hexes

