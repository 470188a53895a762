/-
  What the listed tables of the library give the contracts.
  The program's Decimal: the contract of impl.Decimal, at every int.
  StampText on both sides: the contracts of impl.StampText and spec.StampText.
-/
import Derived.Test.YtdmbkjebagnloaaGreatDoorRows
import Derived.Lib.LaidTab
import Derived.Lib.ItoaLen
import Derived.Stop.LaidErr
import Derived.WalkSmall
import Derived.Test.YtdmbkjebagnloaaGreatDoorJ5
import Derived.Test.YtdmbkjebagnloaaGreatDoorShelf
import Derived.Lib.AppendIntMem
import Derived.Test.YtdmbkjebagnloaaGreatDoorStamps
import Derived.Test.YtdmbkjebagnloaaGreatDoorJ25
import Derived.Deep.RegionHeld3

namespace Go.Proofs.YtdmbkjebagnloaaGreatDoor.hexes
open Go.RowKit
theorem pow10_data : (Rows.laid_internal_strconv_uint64pow10 : DataW Unit) = Lib.tabData .u64 Lib.pow10Tab := by kernel_rfl
theorem pow10_head {W : World} {rest : List (String × DataW Unit)} (h : laidMet Tryz.prog (("internal/strconv.uint64pow10", Rows.laid_internal_strconv_uint64pow10) :: rest) W) : Lib.TabIs Tryz.prog W "internal/strconv.uint64pow10" .u64 Lib.pow10Tab := by
  rw [pow10_data] at h
  exact Lib.tabIs_of_head (g := 1) (t := 138) (e := 107) (n := 20) (by kernel_rfl) (by kernel_rfl) (by kernel_rfl) (by kernel_rfl) (by kernel_rfl) (by kernel_rfl) h
theorem pow10_below {W W' : World} (h : Lib.TabIs Tryz.prog W "internal/strconv.uint64pow10" .u64 Lib.pow10Tab) (hb : Below W.heap.size W W') : Lib.TabIs Tryz.prog W' "internal/strconv.uint64pow10" .u64 Lib.pow10Tab := by
  have hc := h.cell (g := 1) (by kernel_rfl) 0 (by rw [Lib.pow10Tab_length]; omega)
  exact var?_below hb (g := 1) (by kernel_rfl) (World.block_lt_of_cell? W _ hc) h
end Go.Proofs.YtdmbkjebagnloaaGreatDoor.hexes

namespace Go.Proofs.YtdmbkjebagnloaaGreatDoor.hexes
open Go.RowKit

theorem implDec_any (n : Int) (h0 : -9223372036854775808 ≤ n) (h1 : n ≤ 9223372036854775807) (w : World) (htab : Lib.TabIs Tryz.prog w "internal/strconv.uint64pow10" .u64 Lib.pow10Tab) :
    Calls Tryz.prog 40 #[.int .i64 n] w fun e w' => e = .returned (.string ⟨(Lib.itoa n).toArray⟩) ∧ Below w.heap.size w w' := by
  have B0 := Lib.hid h0
  have B1 := Lib.hid h1
  clear h0 h1
  go_enter Tryz.func40, Tryz.ntmps40
  go_wp2_with (go_at_call 61; refine (Tryz.strconv_Itoa n B0.out B1.out w htab).mono ?_; rintro e w1 ⟨rfl, k, os, rfl⟩)
  go_ret
  exact ⟨rfl, Lib.below_grow _ w (Nat.le_refl _) k os⟩
end Go.Proofs.YtdmbkjebagnloaaGreatDoor.hexes

namespace Go.Proofs.YtdmbkjebagnloaaGreatDoor.hexes
open Go.RowKit

/-- What StampText answers. -/
def dotText (x y : Int) : ByteArray := (⟨(Lib.itoa x).toArray⟩ ++ ⟨#[46]⟩) ++ ⟨(Lib.itoa y).toArray⟩

def I64 (x : Int) : Prop := -9223372036854775808 ≤ x ∧ x ≤ 9223372036854775807

set_option maxRecDepth 100000 in
theorem specText_any (x y : Int) (hx : I64 x) (hy : I64 y) (w : World) :
    Calls Tryz.prog 43 #[.agg #[.int .i64 x, .int .i64 y]] w fun e w' => e = .returned (.string (dotText x y)) ∧ Below w.heap.size w w' := by
  have lx := Lib.itoa_length_le x hx.1 hx.2
  have ly := Lib.itoa_length_le y hy.1 hy.2
  have DX : ∀ W : World, Calls Tryz.prog 42 #[.int .i64 x] W fun e w' => e = .returned (.string ⟨(Lib.itoa x).toArray⟩) ∧ Below W.heap.size W w' := fun W => specDec_any x hx.1 hx.2 W
  have DY : ∀ W : World, Calls Tryz.prog 42 #[.int .i64 y] W fun e w' => e = .returned (.string ⟨(Lib.itoa y).toArray⟩) ∧ Below W.heap.size W w' := fun W => specDec_any y hy.1 hy.2 W
  have sx : (ByteArray.mk (Lib.itoa x).toArray).size ≤ 21 := by rw [show (ByteArray.mk (Lib.itoa x).toArray).size = (Lib.itoa x).length from List.size_toArray]; exact lx
  have sy : (ByteArray.mk (Lib.itoa y).toArray).size ≤ 21 := by rw [show (ByteArray.mk (Lib.itoa y).toArray).size = (Lib.itoa y).length from List.size_toArray]; exact ly
  unfold dotText
  generalize ByteArray.mk (Lib.itoa x).toArray = tx at *
  generalize ByteArray.mk (Lib.itoa y).toArray = ty at *
  have HX := Lib.hid DX
  have HY := Lib.hid DY
  clear hx hy lx ly DX DY
  have sz : (tx ++ ⟨#[46]⟩).size ≤ 22 := by rw [ByteArray.size_append, show (ByteArray.mk #[46]).size = 1 from rfl]; omega
  have q1 : ¬9223372036854775807 < tx.size + 1 := by omega
  have q2 : ¬9223372036854775807 < tx.size + 1 + ty.size := by omega
  go_enter Tryz.func43, Tryz.ntmps43
  go_wp2_with fail
  go_region_held3 (fun w' => w'.cell? ⟨w.heap.size, 0, none⟩ = some (.int .i64 x) ∧ w'.cell? ⟨w.heap.size, 1, none⟩ = some (.int .i64 y))
    (((try go_split_ands); refine ⟨?_, ?_⟩ <;> (repeat (first | with_reducible assumption | with_reducible refine drew_keep ?_ | with_reducible refine below_keep hbd ?_ | with_reducible exact alloc_cells rfl rfl))))
    (first | (go_at_call 42; (try go_split_ands); with_reducible refine (HX.out _).mono ?_; rintro e w2 ⟨rfl, hbd⟩; have hb1 := hbd) | (go_at_call 42; (try go_split_ands); with_reducible refine (HY.out _).mono ?_; rintro e w2 ⟨rfl, hbd⟩; have hb2 := hbd))
  go_wp2_with fail
  go_ret
  exact ⟨rfl, below_chain (below_chain (((Below.refl _ _).alloc (Nat.le_refl _) _).drew) hb1) hb2⟩

set_option maxRecDepth 100000 in
theorem implText_any (x y : Int) (hx : I64 x) (hy : I64 y) (w : World) (htab : Lib.TabIs Tryz.prog w "internal/strconv.uint64pow10" .u64 Lib.pow10Tab) :
    Calls Tryz.prog 41 #[.agg #[.int .i64 x, .int .i64 y]] w fun e w' => e = .returned (.string (dotText x y)) ∧ Below w.heap.size w w' := by
  have lx := Lib.itoa_length_le x hx.1 hx.2
  have ly := Lib.itoa_length_le y hy.1 hy.2
  have DX : ∀ W : World, Lib.TabIs Tryz.prog W "internal/strconv.uint64pow10" .u64 Lib.pow10Tab → Calls Tryz.prog 40 #[.int .i64 x] W fun e w' => e = .returned (.string ⟨(Lib.itoa x).toArray⟩) ∧ Below W.heap.size W w' := fun W h => implDec_any x hx.1 hx.2 W h
  have DY : ∀ W : World, Lib.TabIs Tryz.prog W "internal/strconv.uint64pow10" .u64 Lib.pow10Tab → Calls Tryz.prog 40 #[.int .i64 y] W fun e w' => e = .returned (.string ⟨(Lib.itoa y).toArray⟩) ∧ Below W.heap.size W w' := fun W h => implDec_any y hy.1 hy.2 W h
  have sx : (ByteArray.mk (Lib.itoa x).toArray).size ≤ 21 := by rw [show (ByteArray.mk (Lib.itoa x).toArray).size = (Lib.itoa x).length from List.size_toArray]; exact lx
  have sy : (ByteArray.mk (Lib.itoa y).toArray).size ≤ 21 := by rw [show (ByteArray.mk (Lib.itoa y).toArray).size = (Lib.itoa y).length from List.size_toArray]; exact ly
  unfold dotText
  generalize ByteArray.mk (Lib.itoa x).toArray = tx at *
  generalize ByteArray.mk (Lib.itoa y).toArray = ty at *
  have HX := Lib.hid DX
  have HY := Lib.hid DY
  have HT := Lib.hid htab
  clear htab
  clear hx hy lx ly DX DY
  have sz : (tx ++ ⟨#[46]⟩).size ≤ 22 := by rw [ByteArray.size_append, show (ByteArray.mk #[46]).size = 1 from rfl]; omega
  have q1 : ¬9223372036854775807 < tx.size + 1 := by omega
  have q2 : ¬9223372036854775807 < tx.size + 1 + ty.size := by omega
  go_enter Tryz.func41, Tryz.ntmps41
  go_wp2_with fail
  go_region_held3 (fun w' => w'.cell? ⟨w.heap.size, 0, none⟩ = some (.int .i64 x) ∧ w'.cell? ⟨w.heap.size, 1, none⟩ = some (.int .i64 y) ∧ Lib.TabIs Tryz.prog w' "internal/strconv.uint64pow10" .u64 Lib.pow10Tab)
    (((try go_split_ands); refine ⟨?_, ?_, ?_⟩ <;> (repeat (first | with_reducible assumption | with_reducible refine drew_keep ?_ | with_reducible refine below_keep hbd ?_ | with_reducible exact alloc_cells rfl rfl | with_reducible refine pow10_below ?_ hbd | with_reducible exact pow10_below HT.out (((Below.refl _ _).alloc (by simp) _).drew)))))
    (first | (go_at_call 40; (try go_split_ands); with_reducible refine (HX.out _ (by with_reducible assumption)).mono ?_; rintro e w2 ⟨rfl, hbd⟩; have hb1 := hbd) | (go_at_call 40; (try go_split_ands); with_reducible refine (HY.out _ (by with_reducible assumption)).mono ?_; rintro e w2 ⟨rfl, hbd⟩; have hb2 := hbd))
  go_wp2_with fail
  go_ret
  exact ⟨rfl, below_chain (below_chain (((Below.refl _ _).alloc (Nat.le_refl _) _).drew) hb1) hb2⟩

end Go.Proofs.YtdmbkjebagnloaaGreatDoor.hexes

