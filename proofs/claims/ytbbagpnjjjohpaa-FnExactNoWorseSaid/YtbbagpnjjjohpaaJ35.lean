/-
  The reference's Recall: the contract of spec.Recall.
-/
import Derived.Test.YtbbagpnjjjohpaaJ31
import Derived.Test.YtbbagpnjjjohpaaJ34
import Derived.Test.YtbbagpnjjjohpaaJ32

namespace Go.Proofs.Ytbbagpnjjjohpaa.hexes
open Go.RowKit

structure PX (b o : Nat) (p0 p1 p2 : Int) (xb : Nat) (x0 x1 x2 : Int) (w : World) : Prop where
  c0 : w.cell? ⟨b, o, none⟩ = some (.int .i64 p0)
  c1 : w.cell? ⟨b, o + 1, none⟩ = some (.int .i64 p1)
  c2 : w.cell? ⟨b, o + 2, none⟩ = some (.int .i64 p2)
  d0 : w.cell? ⟨xb, 0, none⟩ = some (.int .i64 x0)
  d1 : w.cell? ⟨xb, 1, none⟩ = some (.int .i64 x1)
  d2 : w.cell? ⟨xb, 2, none⟩ = some (.int .i64 x2)
theorem PX.drew {b o : Nat} {p0 p1 p2 : Int} {xb : Nat} {x0 x1 x2 : Int} {w : World} (h : PX b o p0 p1 p2 xb x0 x1 x2 w) : PX b o p0 p1 p2 xb x0 x1 x2 w.drew := ⟨h.c0, h.c1, h.c2, h.d0, h.d1, h.d2⟩

theorem specLeast_is {n : Nat} {zs : List Ce} (hz : zs.length = n) {A : Option Addr} {c : Nat} {o ep ky m : Int} {b : Bool} (h : leastC zs o ep ky = (m, b)) (hn : n ≤ 4194304) (W : World) (h1 : Ces W A zs) :
    Calls Try.prog 31 #[.slice A n c, .int .i64 o, .int .i64 ep, .int .i64 ky] W fun e w' => e = .returned (.tuple #[.int .i64 m, .bool b]) ∧ Below W.heap.size W w' := by
  have := specLeast_any n zs hz A c o ep ky W h1 hn
  rwa [h] at this

end Go.Proofs.Ytbbagpnjjjohpaa.hexes

