/-
  Links: the contracts of the laws' own functions on them.
-/
import Derived.Test.YthkkleicekhelaaRcKit
import Derived.Test.YthkkleicekhelaaDrawBlk
import Derived.Test.YthkkleicekhelaaOwnSet
namespace Go.Proofs.Ythkkleicekhelaa.hexes
open Go.RowKit

theorem rcs_set {w : World} {A : Option Addr} {zs : List Rc} (h : Rcs w A zs) {p : Addr} (u : Value) (hp : ∀ b off, A = some ⟨b, off, none⟩ → b ≠ p.block) : Rcs (w.setCell p u) A zs := fun hl => by
  obtain ⟨b, off, hA, hlt, hz⟩ := h hl
  have hb := Below.heap_setCell w p u b (hp b off hA)
  refine ⟨b, off, hA, by simpa [World.setCell] using hlt, fun j hj => ?_⟩
  have key : ∀ i, (w.setCell p u).cell? ⟨b, i, none⟩ = w.cell? ⟨b, i, none⟩ := fun i => World.cell?_of_block hb
  simpa only [key] using hz j hj
theorem rcs_alloc {w : World} {A : Option Addr} {zs : List Rc} (h : Rcs w A zs) (o : Obj) : Rcs (w.alloc o) A zs := h.below ((Below.refl _ _).alloc (Nat.le_refl _) _)
/-- The block that is written lies where the list does not. -/
theorem rcs_put {w : World} {A : Option Addr} {zs : List Rc} {B : Nat} (h : Rcs w A zs) (hB : ∀ b off, 0 < zs.length → A = some ⟨b, off, none⟩ → b < B) {p : Addr} (u : Value) (hp : B ≤ p.block) : Rcs (w.setCell p u) A zs := fun hl => by
  exact rcs_set h u (fun b off hA => by have := hB b off hl hA; omega) hl
theorem rcs_lt {w : World} {A : Option Addr} {zs : List Rc} (h : Rcs w A zs) : ∀ b off, 0 < zs.length → A = some ⟨b, off, none⟩ → b < w.heap.size := fun b off hl hA => by
  obtain ⟨b', off', hA', hlt, _⟩ := h hl
  rw [hA] at hA'
  simp only [Option.some.injEq, Addr.mk.injEq, and_true] at hA'
  omega

end Go.Proofs.Ythkkleicekhelaa.hexes
