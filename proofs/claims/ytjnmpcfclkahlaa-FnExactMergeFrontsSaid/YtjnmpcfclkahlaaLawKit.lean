/-
  What the exact laws on lists of stamps go by: the size check, a list against itself.
-/
import Derived.Test.YtjnmpcfclkahlaaStCame
import Derived.Test.YtjnmpcfclkahlaaStList
namespace Go.Proofs.Ytjnmpcfclkahlaa.hexes
open Go.RowKit

theorem szS_over (A : Option Addr) (n c : Nat) (left : Int) (h0 : 0 ≤ left) (h1 : left ≤ 1048576) (hn : n ≤ maxLen) (h : left < (n : Int)) (w : World) :
    Calls Try.prog 31 #[.slice A n c, .int .i64 left] w fun e w' => e = .returned (.int .i64 (-1)) ∧ w = w' := by
  have := szS_any A n c left h0 h1 hn w
  rwa [if_pos h] at this

theorem szS_in (A : Option Addr) (n c : Nat) (left : Int) (h0 : 0 ≤ left) (h1 : left ≤ 1048576) (hn : n ≤ maxLen) (h : ¬left < (n : Int)) (w : World) :
    Calls Try.prog 31 #[.slice A n c, .int .i64 left] w fun e w' => e = .returned (.int .i64 (left - n)) ∧ w = w' := by
  have := szS_any A n c left h0 h1 hn w
  rwa [if_neg h] at this

theorem eqStS_refl (n : Nat) (zs : List (Int × Int)) (hz : zs.length = n) (A1 A2 : Option Addr) (c1 c2 : Nat) (w : World) (h1 : Sts w A1 zs) (h2 : Sts w A2 zs) (hn : n ≤ 4194304) :
    Calls Try.prog 33 #[.slice A1 n c1, .slice A2 n c2] w fun e w' => e = .returned (.bool true) ∧ Below w.heap.size w w' := by
  have h := eqStS_any n n zs zs hz hz A1 A2 c1 c2 w h1 h2 hn
  simpa using h

theorem toStS_sts (n : Nat) (zs : List (Int × Int)) (hz : zs.length = n) (A : Option Addr) (c : Nat) (w : World) (h1 : Sts w A zs) (hn : n ≤ 1048576) :
    Calls Try.prog 32 #[.slice A n c] w fun e w' => ∃ A1 c1, e = .returned (.slice A1 n c1) ∧ w'.ownsRow w.heap.size 32 2 (.slice A1 n c1) n (stCells zs) ∧ Sts w' A1 zs ∧ Below w.heap.size w w' :=
  (toStS_any n zs hz A c w h1 hn).mono fun _ _ ⟨v, he, ho, hb⟩ => by
    obtain ⟨A1, c1, rfl, _, hs⟩ := Sts.of_own ho
    exact ⟨A1, c1, he, ho, hs, hb⟩

end Go.Proofs.Ytjnmpcfclkahlaa.hexes
