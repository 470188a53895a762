/-
  The program's Brought: the contract of impl.Brought.
-/
import Derived.Test.YthkkleicekhelaaBytes
namespace Go.Proofs.Ythkkleicekhelaa.hexes
open Go.RowKit

def brought (n least most : Int) : Int := if most < least ∨ n < least then least else if most < n then most else n

theorem ret_int {a b : Int} (h : b = a) : Ending.returned (.int .i64 a) = .returned (.int .i64 b) := by rw [h]

theorem brought_any (n least most : Int) (w : World) :
    Calls Try.prog 58 #[.int .i64 n, .int .i64 least, .int .i64 most] w fun e w' => e = .returned (.int .i64 (brought n least most)) ∧ w = w' := by
  by_cases h1 : most < least
  · have E := Lib.hid (show brought n least most = least from if_pos (.inl h1))
    by_cases h2 : n < least
    all_goals
      go_enter Try.func58, Try.ntmps58
      go_wp2
      go_ret
      exact ⟨ret_int E.out, rfl⟩
  · by_cases h2 : n < least
    · have E := Lib.hid (show brought n least most = least from if_pos (.inr h2))
      go_enter Try.func58, Try.ntmps58
      go_wp2
      go_ret
      exact ⟨ret_int E.out, rfl⟩
    · by_cases h3 : most < n
      · have E := Lib.hid (show brought n least most = most by unfold brought; rw [if_neg (by omega), if_pos h3])
        go_enter Try.func58, Try.ntmps58
        go_wp2
        go_ret
        exact ⟨ret_int E.out, rfl⟩
      · have E := Lib.hid (show brought n least most = n by unfold brought; rw [if_neg (by omega), if_neg h3])
        go_enter Try.func58, Try.ntmps58
        go_wp2
        go_ret
        exact ⟨ret_int E.out, rfl⟩

theorem brought_bd (n least most : Int) (h : least ≤ most) : least ≤ brought n least most ∧ brought n least most ≤ most ∧ brought (brought n least most) least most = brought n least most := by
  have key : ∀ m, least ≤ m → m ≤ most → brought m least most = m := fun m h1 h2 => by unfold brought; rw [if_neg (by omega), if_neg (by omega)]
  by_cases h2 : n < least
  · have e : brought n least most = least := if_pos (.inr h2)
    rw [e]
    exact ⟨by omega, h, key _ (by omega) h⟩
  · by_cases h3 : most < n
    · have e : brought n least most = most := by unfold brought; rw [if_neg (by omega), if_pos h3]
      rw [e]
      exact ⟨h, by omega, key _ h (by omega)⟩
    · have e : brought n least most = n := by unfold brought; rw [if_neg (by omega), if_neg h3]
      rw [e]
      exact ⟨by omega, by omega, e⟩
end Go.Proofs.Ythkkleicekhelaa.hexes
