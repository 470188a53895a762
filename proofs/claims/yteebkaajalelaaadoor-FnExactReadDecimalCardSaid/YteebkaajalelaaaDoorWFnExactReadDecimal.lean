/-
  The walk of FnExactReadDecimal.
-/
import Derived.Test.YteebkaajalelaaaDoorSpecReadDecimal
import Derived.Test.YteebkaajalelaaaDoorHeld
namespace Go.Proofs.YteebkaajalelaaaDoor.fnExactReadDecimal
open Go.RowKit Go.Proofs.YteebkaajalelaaaDoor.hexes

theorem walk (s : ByteArray) (_hs : s.size ≤ maxLen) (w : World) (hL : laidMet Tryd.prog Rows.fnExactReadDecimalRow.laid w) :
    Calls Tryd.prog 5 #[.string s] w fun e w' => e = .returned (.bool true) ∧ Below w.heap.size w w' := by
  have hh := held_of_laid hL
  clear hL
  by_cases h1 : 1048576 < s.size
  · have hd : decide (1048576 < (s.size : Int)) = true := by simp; omega
    clear hh
    go_enter Tryd.func5, Tryd.ntmps5
    go_wp2
    go_ret
    exact ⟨rfl, Below.refl _ _⟩
  · have hd : decide (1048576 < (s.size : Int)) = false := by simp; omega
    by_cases h2 : ∃ n, Spells s.data.toList n
    · obtain ⟨n, hn⟩ := h2
      have A := fun W => specRead_yes s n hn W
      have B : ∀ W, Below w.heap.size w W → _ := fun W hb => implRead_yes s n hn W (hh.below hb)
      have HA := Lib.hid A
      have HB := Lib.hid B
      clear A B hh hn
      go_enter Tryd.func5, Tryd.ntmps5
      go_wp2_with (first | (go_at_call 15; refine (HA.out _).mono ?_; rintro e w1 ⟨rfl, hb1⟩) | (go_at_call 12; refine (HB.out _ hb1).mono ?_; rintro e w2 ⟨rfl, hb2⟩))
      go_ret
      exact ⟨rfl, hb1.trans (hb2.mono hb1.size)⟩
    · have h2' : ∀ n, ¬ Spells s.data.toList n := fun n hn => h2 ⟨n, hn⟩
      have A := fun W => specRead_no s (by omega) h2' W
      have B : ∀ W, Below w.heap.size w W → _ := fun W hb => implRead_no s (by omega) h2' W (hh.below hb)
      have HA := Lib.hid A
      have HB := Lib.hid B
      clear A B hh h2 h2'
      go_enter Tryd.func5, Tryd.ntmps5
      go_wp2_with (first | (go_at_call 15; refine (HA.out _).mono ?_; rintro e w1 ⟨rfl, hb1⟩) | (go_at_call 12; refine (HB.out _ hb1).mono ?_; rintro e w2 ⟨rfl, hb2⟩))
      go_ret
      exact ⟨rfl, hb1.trans (hb2.mono hb1.size)⟩
end Go.Proofs.YteebkaajalelaaaDoor.fnExactReadDecimal
