/-
  A row's capacity is not below its length.
  What the walks of chapter 9's exact laws take: a boxed cell and rows kept through writes.
-/
import Derived.Test.YtbbagpnjjjohpaaJ5
import Derived.Test.YtbbagpnjjjohpaaJ41
import Derived.Test.YtbbagpnjjjohpaaJ30

namespace Go.Proofs.Ytbbagpnjjjohpaa.hexes
open Go.RowKit
theorem Row.cap {w : World} {lo hi e size n c : Nat} {A : Option Addr} {xs : List Value} (h : Row w lo hi e size A n c xs) : n ≤ c := by
  rcases h.own.2 with ⟨h0, rfl⟩ | ⟨g, cap, cur, hv, _, _, hnc, _⟩
  · exact Nat.zero_le _
  · simp only [Value.slice.injEq, true_and] at hv
    obtain ⟨_, rfl⟩ := hv
    exact hnc
end Go.Proofs.Ytbbagpnjjjohpaa.hexes

namespace Go.Proofs.Ytbbagpnjjjohpaa.hexes
open Go.RowKit

theorem XB.wrote {w w' : World} {b : Nat} {x0 x1 x2 x3 : Int} {lo hi : Nat} (h : XB b x0 x1 x2 x3 w) (hw : Wrote w w' lo hi) (hd : b < lo ∨ hi ≤ b) : XB b x0 x1 x2 x3 w' := by
  obtain ⟨row, hg, hr⟩ := hw
  exact h.grown hg (fun e => by have := hr b e; omega)
theorem Row.base {w : World} {lo lo' hi e size n c : Nat} {A : Option Addr} {xs : List Value} (h : Row w lo hi e size A n c xs) (hl : lo' ≤ lo) : Row w lo' hi e size A n c xs := ⟨own_base h.own hl, h.lt⟩
end Go.Proofs.Ytbbagpnjjjohpaa.hexes

