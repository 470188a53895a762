/-
  Growth of worlds, rows kept beside a cursor, one new stamp.
-/
import Derived.Test.YthkkleicekhelaaAppendSt
namespace Go.Proofs.Ythkkleicekhelaa.hexes
open Go.RowKit

theorem grown_new {a b c : World} {row row' : Option Nat} (h : a.grownBy b row) (k : b.grownBy c row') (hr : ∀ g, row' = some g → a.heap.size ≤ g) : a.grownBy c row :=
  ⟨k.os.trans h.os, k.tape.trans h.tape, k.output.trans h.output, Nat.le_trans h.size k.size, fun i hi hne => (k.block i (Nat.lt_of_lt_of_le hi h.size) (fun e => by have := hr i e.symm; omega)).trans (h.block i hi hne)⟩

theorem own_kept_c {w w' : World} {B e size n c : Nat} {v : Value} {xs : List Value} (h : w.ownsRow B e size v n xs) (hg : w.grownBy w' (some c)) (hc : c < B) : w'.ownsRow B e size v n xs := by
  refine h.kept hg ?_
  cases hv : v.ownBlock with
  | none => exact .inl rfl
  | some g =>
    refine .inr fun e => ?_
    have := own_ge h g hv
    have := Option.some.inj e
    omega

theorem sts_new (w : World) (x y : Int) : Sts (w.alloc (.cells #[.int .i64 x, .int .i64 y] 28)) (some ⟨w.heap.size, 0, none⟩) [(x, y)] := fun _ =>
  ⟨w.heap.size, 0, rfl, by simp, fun j hj => by
    obtain rfl : j = 0 := by simpa using hj
    exact ⟨alloc_cells rfl rfl, alloc_cells rfl rfl⟩⟩
end Go.Proofs.Ythkkleicekhelaa.hexes
