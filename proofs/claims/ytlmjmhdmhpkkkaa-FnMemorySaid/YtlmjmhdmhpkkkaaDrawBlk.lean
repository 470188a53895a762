/-
  A block beside a store elsewhere.
-/
import Derived.Test.YtlmjmhdmhpkkkaaCursor
namespace Go.Proofs.Ytlmjmhdmhpkkkaa.hexes
open Go.RowKit
theorem Blk.other {w : World} {g : Nat} {t : TypeId} {cs : Array Value} (h : Blk w g t cs) {p : Addr} (hne : g ≠ p.block) (u : Value) : Blk (w.setCell p u) g t cs := (Below.heap_setCell w p u g hne).trans h
end Go.Proofs.Ytlmjmhdmhpkkkaa.hexes
