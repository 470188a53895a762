/-
  The model's figure of a number 0 to 15: the contract of spec.l01Figure.
-/
import Derived.Test.YthkkleicekhelaaDoorBytes
namespace Go.Proofs.YthkkleicekhelaaDoor.hexes
open Go.RowKit

theorem ret_byte {x : Nat} {a : Int} (h : ((fig x).toNat : Int) = a) : Ending.returned (.int .u8 a) = .returned (.int .u8 (figI (x : Int))) := by rw [figI, Int.toNat_natCast, h]

theorem figure_any (x : Int) (w : World) (h0 : 0 ≤ x) (h1 : x < 16) :
    Calls Tryd.prog 44 #[.int .i64 x] w fun e w' => e = .returned (.int .u8 (figI x)) ∧ w = w' := by
  obtain ⟨k, rfl⟩ : ∃ k : Nat, x = (k : Int) := ⟨x.toNat, by omega⟩
  have hk : k < 16 := by omega
  have e := fig_val k hk
  by_cases h : (k : Int) < 10
  · rw [if_pos h] at e
    have E : Hid (((fig k).toNat : Int) = 48 + (k : Int)) := e
    clear e
    go_enter Tryd.func44, Tryd.ntmps44
    go_wp2
    go_ret
    exact ⟨ret_byte (x := k) E.out, rfl⟩
  · rw [if_neg h] at e
    have E : Hid (((fig k).toNat : Int) = 97 + (k : Int) - 10) := e
    clear e
    go_enter Tryd.func44, Tryd.ntmps44
    go_wp2
    go_ret
    exact ⟨ret_byte (x := k) E.out, rfl⟩

end Go.Proofs.YthkkleicekhelaaDoor.hexes
