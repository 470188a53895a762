/-
  The reference's CellOrder: the contract of spec.CellOrder.
-/
import Derived.Test.YtbbagpnjjjohpaaJ30
import Derived.Test.YtbbagpnjjjohpaaJ32

namespace Go.Proofs.Ytbbagpnjjjohpaa.hexes
open Go.RowKit

structure CeTwo (W : World) (b : Nat) (p0 p1 p2 p3 q0 q1 q2 q3 : Int) (w' : World) : Prop where
  c0 : w'.cell? ⟨b, 0, none⟩ = some (.int .i64 p0)
  c1 : w'.cell? ⟨b, 1, none⟩ = some (.int .i64 p1)
  c2 : w'.cell? ⟨b, 2, none⟩ = some (.int .i64 p2)
  c3 : w'.cell? ⟨b, 3, none⟩ = some (.int .i64 p3)
  d0 : w'.cell? ⟨b + 1, 0, none⟩ = some (.int .i64 q0)
  d1 : w'.cell? ⟨b + 1, 1, none⟩ = some (.int .i64 q1)
  d2 : w'.cell? ⟨b + 1, 2, none⟩ = some (.int .i64 q2)
  d3 : w'.cell? ⟨b + 1, 3, none⟩ = some (.int .i64 q3)
  bel : Below W.heap.size W w'
theorem CeTwo.drew {W : World} {b : Nat} {p0 p1 p2 p3 q0 q1 q2 q3 : Int} {w' : World} (h : CeTwo W b p0 p1 p2 p3 q0 q1 q2 q3 w') : CeTwo W b p0 p1 p2 p3 q0 q1 q2 q3 w'.drew := ⟨h.c0, h.c1, h.c2, h.c3, h.d0, h.d1, h.d2, h.d3, h.bel.drew⟩
theorem CeTwo.below {W : World} {b : Nat} {p0 p1 p2 p3 q0 q1 q2 q3 : Int} {w' w2 : World} (h : CeTwo W b p0 p1 p2 p3 q0 q1 q2 q3 w') (hb : Below w'.heap.size w' w2) : CeTwo W b p0 p1 p2 p3 q0 q1 q2 q3 w2 := ⟨below_keep hb h.c0, below_keep hb h.c1, below_keep hb h.c2, below_keep hb h.c3, below_keep hb h.d0, below_keep hb h.d1, below_keep hb h.d2, below_keep hb h.d3, below_chain h.bel hb⟩

end Go.Proofs.Ytbbagpnjjjohpaa.hexes

