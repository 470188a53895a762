/-
  Two stamps that a statement reads, and that they stand behind a call.
-/
import Derived.Test.YtiehpniogehkmaaStamps
namespace Go.Proofs.Ytiehpniogehkmaa.hexes
open Go.RowKit

structure Two (b1 o1 : Nat) (p q : Int) (b2 o2 : Nat) (r s : Int) (w' : World) : Prop where
  c0 : w'.cell? ⟨b1, o1, none⟩ = some (.int .i64 p)
  c1 : w'.cell? ⟨b1, o1 + 1, none⟩ = some (.int .i64 q)
  c2 : w'.cell? ⟨b2, o2, none⟩ = some (.int .i64 r)
  c3 : w'.cell? ⟨b2, o2 + 1, none⟩ = some (.int .i64 s)
theorem Two.drew {b1 o1 : Nat} {p q : Int} {b2 o2 : Nat} {r s : Int} {w' : World} (h : Two b1 o1 p q b2 o2 r s w') : Two b1 o1 p q b2 o2 r s w'.drew := ⟨h.c0, h.c1, h.c2, h.c3⟩
theorem Two.below {b1 o1 : Nat} {p q : Int} {b2 o2 : Nat} {r s : Int} {w' w2 : World} (h : Two b1 o1 p q b2 o2 r s w') (hb : Below w'.heap.size w' w2) : Two b1 o1 p q b2 o2 r s w2 := ⟨below_keep hb h.c0, below_keep hb h.c1, below_keep hb h.c2, below_keep hb h.c3⟩
end Go.Proofs.Ytiehpniogehkmaa.hexes
