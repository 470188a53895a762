/-
  What the walks of chapter 9's exact laws take: a boxed cell and rows kept through writes.
-/
import Derived.Test.YtbbagpnjjjohpaaJ41
import Derived.Test.YtbbagpnjjjohpaaJ31
import Derived.Test.YtbbagpnjjjohpaaJ42

namespace Go.Proofs.Ytbbagpnjjjohpaa.hexes
open Go.RowKit

theorem XB.wrote {w w' : World} {b : Nat} {x0 x1 x2 x3 : Int} {lo hi : Nat} (h : XB b x0 x1 x2 x3 w) (hw : Wrote w w' lo hi) (hd : b < lo ∨ hi ≤ b) : XB b x0 x1 x2 x3 w' := by
  obtain ⟨row, hg, hr⟩ := hw
  exact h.grown hg (fun e => by have := hr b e; omega)
theorem Row.base {w : World} {lo lo' hi e size n c : Nat} {A : Option Addr} {xs : List Value} (h : Row w lo hi e size A n c xs) (hl : lo' ≤ lo) : Row w lo' hi e size A n c xs := ⟨own_base h.own hl, h.lt⟩
end Go.Proofs.Ytbbagpnjjjohpaa.hexes

