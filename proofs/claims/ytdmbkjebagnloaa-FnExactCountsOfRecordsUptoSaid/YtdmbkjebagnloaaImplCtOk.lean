/-
  The program's CountsOk: the contracts of impl.countInRange and impl.CountsOk.
-/
import Derived.Test.YtdmbkjebagnloaaSpecCtOk
namespace Go.Proofs.Ytdmbkjebagnloaa.hexes
open Go.RowKit

structure Pair1 (W : World) (w' : World) : Prop where
  bel : Below W.heap.size W w'
theorem Pair1.drew {W : World} {w' : World} (h : Pair1 W w') : Pair1 W w'.drew := ⟨h.bel.drew⟩
theorem Pair1.below {W : World} {w' w2 : World} (h : Pair1 W w') (hb : Below w'.heap.size w' w2) : Pair1 W w2 := ⟨below_chain h.bel hb⟩
structure Pair3 (W : World) (b o : Nat) (r0 r1 : Int) (bc : Nat) (p0 p1 : Int) (w' : World) : Prop where
  c0 : w'.cell? ⟨b, o, none⟩ = some (.int .i64 r0)
  c1 : w'.cell? ⟨b, o + 1, none⟩ = some (.int .i64 r1)
  d0 : w'.cell? ⟨bc, 0, none⟩ = some (.int .i64 p0)
  d1 : w'.cell? ⟨bc, 1, none⟩ = some (.int .i64 p1)
  bel : Below W.heap.size W w'
theorem Pair3.drew {W : World} {b o : Nat} {r0 r1 : Int} {bc : Nat} {p0 p1 : Int} {w' : World} (h : Pair3 W b o r0 r1 bc p0 p1 w') : Pair3 W b o r0 r1 bc p0 p1 w'.drew := ⟨h.c0, h.c1, h.d0, h.d1, h.bel.drew⟩
theorem Pair3.below {W : World} {b o : Nat} {r0 r1 : Int} {bc : Nat} {p0 p1 : Int} {w' w2 : World} (h : Pair3 W b o r0 r1 bc p0 p1 w') (hb : Below w'.heap.size w' w2) : Pair3 W b o r0 r1 bc p0 p1 w2 := ⟨below_keep hb h.c0, below_keep hb h.c1, below_keep hb h.d0, below_keep hb h.d1, below_chain h.bel hb⟩

theorem implOkS_is {x y : Int} {b : Bool} (h : okSt x y = b) (W : World) : Calls Try.prog 44 #[.agg #[.int .i64 x, .int .i64 y]] W fun e w' => e = .returned (.bool b) ∧ Below W.heap.size W w' := by
  subst h; exact implOk_any _ _ W