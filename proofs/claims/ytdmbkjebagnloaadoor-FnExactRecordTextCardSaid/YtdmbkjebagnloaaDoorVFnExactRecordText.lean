/-
  The walk of FnExactRecordText, given the contract of impl.RecordText.
-/
import Derived.Test.YtdmbkjebagnloaaDoorRcBase
import Derived.Test.YtdmbkjebagnloaaDoorRcText
namespace Go.Proofs.YtdmbkjebagnloaaDoor.fnExactRecordText
open Go.RowKit Go.Proofs.YtdmbkjebagnloaaDoor.hexes

set_option maxRecDepth 100000 in
theorem walk_of (p0 p1 p2 p3 p4 : Int) (_wp0 : (Lit.int .i64 p0).wf = true) (_wp1 : (Lit.int .i64 p1).wf = true) (_wp2 : (Lit.int .i64 p2).wf = true) (_wp3 : (Lit.int .i64 p3).wf = true) (_wp4 : (Lit.int .i64 p4).wf = true) (w : World)
    (htab : Lib.TabIs Tryd.prog w "internal/strconv.uint64pow10" .u64 Lib.pow10Tab)
    (I0 : ∀ W : World, Lib.TabIs Tryd.prog W "internal/strconv.uint64pow10" .u64 Lib.pow10Tab → Calls Tryd.prog 6 #[.agg #[.int .i64 p0, .int .i64 p1, .int .i64 p2, .int .i64 p3, .int .i64 p4]] W fun e w' => e = .returned (.string (rcText (p0, (p1, p2), p3, p4))) ∧ Below W.heap.size W w') :
    Calls Tryd.prog 3 #[.agg #[.int .i64 p0, .int .i64 p1, .int .i64 p2, .int .i64 p3, .int .i64 p4]] w fun e w' => e = .returned (.bool true) ∧ Below w.heap.size w w' := by
  have I := Lib.hid I0
  have HT := Lib.hid htab
  have SP := Lib.hid (fun W => specRcText_any p0 p1 p2 p3 p4 (bounds_i64 _wp0) (bounds_i64 _wp1) (bounds_i64 _wp2) (bounds_i64 _wp3) (bounds_i64 _wp4) W)
  have TO := Lib.hid (fun W => toRecord_any p0 p1 p2 p3 p4 W)
  obtain ⟨r, hr⟩ : ∃ r, r = rcText (p0, (p1, p2), p3, p4) := ⟨_, rfl⟩
  have HR := Lib.hid hr
  clear hr I0 htab
  have hb := (Below.refl w.heap.size w).alloc (Nat.le_refl _) (.cells #[.int .i64 p0, .int .i64 p1, .int .i64 p2, .int .i64 p3, .int .i64 p4] 25)
  have x0 : (w.alloc (.cells #[.int .i64 p0, .int .i64 p1, .int .i64 p2, .int .i64 p3, .int .i64 p4] 25)).cell? ⟨w.heap.size, 0, none⟩ = some (.int .i64 p0) := by simp
  have x1 : (w.alloc (.cells #[.int .i64 p0, .int .i64 p1, .int .i64 p2, .int .i64 p3, .int .i64 p4] 25)).cell? ⟨w.heap.size, 1, none⟩ = some (.int .i64 p1) := by simp
  have x2 : (w.alloc (.cells #[.int .i64 p0, .int .i64 p1, .int .i64 p2, .int .i64 p3, .int .i64 p4] 25)).cell? ⟨w.heap.size, 2, none⟩ = some (.int .i64 p2) := by simp
  have x3 : (w.alloc (.cells #[.int .i64 p0, .int .i64 p1, .int .i64 p2, .int .i64 p3, .int .i64 p4] 25)).cell? ⟨w.heap.size, 3, none⟩ = some (.int .i64 p3) := by simp
  have x4 : (w.alloc (.cells #[.int .i64 p0, .int .i64 p1, .int .i64 p2, .int .i64 p3, .int .i64 p4] 25)).cell? ⟨w.heap.size, 4, none⟩ = some (.int .i64 p4) := by simp
  go_enter Tryd.func3, Tryd.ntmps3
  go_wp2_with fail
  refine (TO.out _).mono ?_
  rintro e w1 ⟨rfl, b1⟩
  have y0 := below_keep b1 x0
  have y1 := below_keep b1 x1
  have y2 := below_keep b1 x2
  have y3 := below_keep b1 x3
  have y4 := below_keep b1 x4
  have B1 := Lib.hid (below_chain hb b1)
  clear hb b1
  go_wp2_with fail
  refine (SP.out _).mono ?_
  rintro e w2 ⟨rfl, b2⟩
  rw [← HR.out]
  have z0 := below_keep b2 y0
  have z1 := below_keep b2 y1
  have z2 := below_keep b2 y2
  have z3 := below_keep b2 y3
  have z4 := below_keep b2 y4
  have B2 := Lib.hid (below_chain B1.out b2)
  clear b2 B1 y0 y1 y2 y3 y4 x0 x1 x2 x3 x4
  go_wp2_with fail
  refine (TO.out _).mono ?_
  rintro e w3 ⟨rfl, b3⟩
  have B3 := Lib.hid (below_chain B2.out b3)
  clear b3 B2 z0 z1 z2 z3 z4
  go_wp2_with fail
  refine (I.out _ (pow10_below HT.out B3.out)).mono ?_
  rintro e w4 ⟨rfl, b4⟩
  rw [← HR.out]
  have B4 := Lib.hid (below_chain B3.out b4)
  clear b4 B3
  go_wp2
  go_ret
  exact ⟨rfl, B4.out⟩
end Go.Proofs.YtdmbkjebagnloaaDoor.fnExactRecordText
