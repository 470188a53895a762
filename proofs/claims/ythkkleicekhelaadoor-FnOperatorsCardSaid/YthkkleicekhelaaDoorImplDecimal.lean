/-
  The program's Decimal: the contract of impl.Decimal, at every int.
-/
import Derived.Test.YthkkleicekhelaaDoorBytes
import Derived.Test.YthkkleicekhelaaDoorShelf
import Derived.Test.YthkkleicekhelaaDoorLaid
import Derived.Lib.AppendIntMem
namespace Go.Proofs.YthkkleicekhelaaDoor.hexes
open Go.RowKit

theorem implDec_any (n : Int) (h0 : -9223372036854775808 ≤ n) (h1 : n ≤ 9223372036854775807) (w : World) (htab : Lib.TabIs Tryd.prog w "internal/strconv.uint64pow10" .u64 Lib.pow10Tab) :
    Calls Tryd.prog 30 #[.int .i64 n] w fun e w' => e = .returned (.string ⟨(Lib.itoa n).toArray⟩) ∧ Below w.heap.size w w' := by
  have B0 := Lib.hid h0
  have B1 := Lib.hid h1
  clear h0 h1
  go_enter Tryd.func30, Tryd.ntmps30
  go_wp2_with (go_at_call 40; refine (Tryd.strconv_Itoa n B0.out B1.out w htab).mono ?_; rintro e w1 ⟨rfl, k, os, rfl⟩)
  go_ret
  exact ⟨rfl, Lib.below_grow _ w (Nat.le_refl _) k os⟩
end Go.Proofs.YthkkleicekhelaaDoor.hexes
