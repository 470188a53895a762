/-
  The laws' own functions on graphs.
-/
import Derived.Test.YtbbagpnjjjohpaaJ14
import Derived.Deep.RegionHeld3

namespace Go.Proofs.Ytbbagpnjjjohpaa.hexes
open Go.RowKit

theorem GrRows.set {w : World} {lo hi n c : Nat} {A : Option Addr} {gs : List Nd} {vs : List Nv} {f : Nat → Nat} (h : GrRows w lo hi A n c gs vs f) {p : Addr} (u : Value) (hp : p.block < lo) : GrRows (w.setCell p u) lo hi A n c gs vs f := by
  refine ⟨h.gl, h.vl, ⟨own_set h.nodes.own u hp, h.nodes.lt⟩, h.fits, fun i h1 h2 => ?_, h.mono, h.top, h.base⟩
  have hf := mono_le h.mono 0 i (Nat.zero_le _) (by have := h.vl; omega)
  exact ⟨own_set (h.inner i h1 h2).own u (Nat.lt_of_lt_of_le hp (Nat.le_trans h.base hf)), (h.inner i h1 h2).lt⟩

theorem GrRows.widen {w : World} {lo lo' hi hi' n c : Nat} {A : Option Addr} {gs : List Nd} {vs : List Nv} {f : Nat → Nat} (h : GrRows w lo hi A n c gs vs f) (hl : lo' ≤ lo) (hh : hi ≤ hi') : GrRows w lo' hi' A n c gs vs f :=
  ⟨h.gl, h.vl, ⟨own_base h.nodes.own hl, h.nodes.lt⟩, h.fits, h.inner, h.mono, Nat.le_trans h.top hh, Nat.le_trans hl h.base⟩

end Go.Proofs.Ytbbagpnjjjohpaa.hexes

