/-
  Cells in memory: more of the kit: capacities, parts of a list, an append at one step of a region that draws its order.
  Two blocks parted by what they hold.
  More of the kit for steps: appends of records at one operation; rows parted by their element types; an empty literal as a row.
-/
import Derived.Test.YtbbagpnjjjohpaaJ29
import Derived.Laws.AppendOwnNone
import Derived.Deep.AppendLies
import Derived.Lib.SliceRun
import Derived.Test.YtbbagpnjjjohpaaJ3
import Derived.Test.YtbbagpnjjjohpaaJ27

namespace Go.Proofs.Ytbbagpnjjjohpaa.hexes
open Go.RowKit

theorem own_capS {w : World} {B e size n c : Nat} {A : Option Addr} {xs : List Value} (h : w.ownsRow B e size (.slice A n c) n xs) : n ≤ c := by
  rcases h.2 with ⟨h0, rfl⟩ | ⟨g, cap, cur, hv, _, _, hnc, _⟩
  · exact Nat.zero_le _
  · simp only [Value.slice.injEq, true_and] at hv
    obtain ⟨_, rfl⟩ := hv
    exact hnc

theorem Ces.take {w : World} {A : Option Addr} {zs : List Ce} (h : Ces w A zs) (k : Nat) : Ces w A (zs.take k) := fun hl => by
  rw [List.length_take] at hl
  obtain ⟨b, off, hA, hb, hz⟩ := h (by omega)
  refine ⟨b, off, hA, hb, fun j hj => ?_⟩
  rw [List.length_take] at hj
  have := hz j (by omega)
  simpa using this

theorem Ces.drop {w : World} {A : Option Addr} {zs : List Ce} (h : Ces w A zs) {k : Nat} {A' : Option Addr} (hA' : ∀ b off, k < zs.length → A = some ⟨b, off, none⟩ → A' = some ⟨b, off + k * 4, none⟩) : Ces w A' (zs.drop k) := fun hl => by
  rw [List.length_drop] at hl
  obtain ⟨b, off, hA, hb, hz⟩ := h (by omega)
  refine ⟨b, off + k * 4, hA' b off (by omega) hA, hb, fun j hj => ?_⟩
  rw [List.length_drop] at hj
  have := hz (k + j) (by omega)
  rw [List.getElem_drop, show off + k * 4 + j * 4 = off + (k + j) * 4 by omega]
  exact this

/-- A cell in a block of its own. -/
structure XB (b : Nat) (x0 x1 x2 x3 : Int) (w : World) : Prop where
  c0 : w.cell? ⟨b, 0, none⟩ = some (.int .i64 x0)
  c1 : w.cell? ⟨b, 1, none⟩ = some (.int .i64 x1)
  c2 : w.cell? ⟨b, 2, none⟩ = some (.int .i64 x2)
  c3 : w.cell? ⟨b, 3, none⟩ = some (.int .i64 x3)
theorem XB.below {b : Nat} {x0 x1 x2 x3 : Int} {w w' : World} (h : XB b x0 x1 x2 x3 w) (hb : Below w.heap.size w w') : XB b x0 x1 x2 x3 w' := ⟨below_keep hb h.c0, below_keep hb h.c1, below_keep hb h.c2, below_keep hb h.c3⟩
theorem XB.drew {b : Nat} {x0 x1 x2 x3 : Int} {w : World} (h : XB b x0 x1 x2 x3 w) : XB b x0 x1 x2 x3 w.drew := ⟨h.c0, h.c1, h.c2, h.c3⟩
theorem XB.grown {b : Nat} {x0 x1 x2 x3 : Int} {w w' : World} {row : Option Nat} (h : XB b x0 x1 x2 x3 w) (gr : w.grownBy w' row) (hr : row ≠ some b) : XB b x0 x1 x2 x3 w' :=
  ⟨World.grownBy.cell gr h.c0 (Ne.symm hr), World.grownBy.cell gr h.c1 (Ne.symm hr), World.grownBy.cell gr h.c2 (Ne.symm hr), World.grownBy.cell gr h.c3 (Ne.symm hr)⟩
theorem XB.new (w : World) (x0 x1 x2 x3 : Int) : XB w.heap.size x0 x1 x2 x3 (w.alloc (.cells #[.int .i64 x0, .int .i64 x1, .int .i64 x2, .int .i64 x3] 38)) := ⟨by simp, by simp, by simp, by simp⟩
end Go.Proofs.Ytbbagpnjjjohpaa.hexes

namespace Go.Proofs.Ytbbagpnjjjohpaa.hexes
open Go.RowKit

/-- A row's block is not one of another type. -/
theorem own_type {w : World} {B e size n g : Nat} {t : TypeId} {v : Value} {xs : List Value} {cs : Array Value} (h : w.ownsRow B e size v n xs) (k : Blk w g t cs) (ht : t ≠ e) : v.ownBlock ≠ some g := by
  rcases h.2 with ⟨rfl, _⟩ | ⟨g', cap, cur, rfl, _, hg, _⟩
  · simp [Value.ownBlock]
  · simp only [Value.ownBlock, ne_eq, Option.some.injEq]
    rintro rfl
    unfold Blk at k
    rw [k] at hg
    simp only [Option.some.injEq, Obj.cells.injEq] at hg
    exact ht hg.2.1

end Go.Proofs.Ytbbagpnjjjohpaa.hexes

namespace Go.Proofs.Ytbbagpnjjjohpaa.hexes
open Go.RowKit

/-- Two rows of different element types share no block. -/
theorem own_types {w : World} {B B' e e' size size' n n' : Nat} {v v' : Value} {xs xs' : List Value} (h : w.ownsRow B e size v n xs) (h' : w.ownsRow B' e' size' v' n' xs') (ht : e ≠ e') : v.ownBlock = none ∨ v.ownBlock ≠ v'.ownBlock := by
  rcases h.2 with ⟨rfl, _⟩ | ⟨g, cap, cur, rfl, _, hg, _⟩
  · exact .inl rfl
  · refine .inr fun hh => ?_
    rcases h'.2 with ⟨rfl, _⟩ | ⟨g', cap', cur', rfl, _, hg', _⟩
    · simp [Value.ownBlock] at hh
    · simp only [Value.ownBlock, Option.some.injEq] at hh
      subst hh
      rw [hg] at hg'
      simp only [Option.some.injEq, Obj.cells.injEq] at hg'
      exact ht hg'.2.1
end Go.Proofs.Ytbbagpnjjjohpaa.hexes

