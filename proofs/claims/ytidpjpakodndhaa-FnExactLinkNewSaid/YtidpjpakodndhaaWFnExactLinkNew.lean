/-
  The walk of FnExactLinkNew.
-/
import Derived.Test.YtidpjpakodndhaaLkBase
import Derived.Test.YtidpjpakodndhaaLkCame
import Derived.Test.YtidpjpakodndhaaLkPlain
namespace Go.Proofs.Ytidpjpakodndhaa.fnExactLinkNew
open Go.RowKit Go.Proofs.Ytidpjpakodndhaa.hexes

theorem row_none (w : World) (g : Nat) : Row w g g 30 5 none 0 0 (rcCells []) := ⟨World.ownsRow_nil w g _ _, fun _ h => by simp [Value.ownBlock] at h⟩

set_option maxRecDepth 1000000 in
set_option maxHeartbeats 8000000 in
theorem walk (k : Int) (_hk : (Lit.int .i64 k).wf = true) (w : World) :
    Calls Try.prog 5 #[.int .i64 k] w fun e w' => e = .returned (.bool true) ∧ Below w.heap.size w w' := by
  obtain ⟨y, hz⟩ : ∃ y : Int, y = 0 := ⟨_, rfl⟩
  obtain ⟨q, hq⟩ : ∃ q : Int, brought k 1 4 = q := ⟨_, rfl⟩
  have E1 := Lib.hid (show ∀ W : World, Calls Try.prog 32 #[.int .i64 k] W fun e w' => e = .returned (.agg #[.int .i64 q, .slice none 0 0, .int .i64 q, .int .i64 y, .int .i64 y, .int .i64 y]) ∧ Below W.heap.size W w' by rw [hz, ← hq]; exact fun W => specNew_any k W)
  have E2 := Lib.hid (show ∀ W : World, Calls Try.prog 27 #[.int .i64 k] W fun e w' => e = .returned (.agg #[.int .i64 q, .slice none 0 0, .int .i64 q, .int .i64 y, .int .i64 y, .int .i64 y]) ∧ Below W.heap.size W w' by rw [hz, ← hq]; exact fun W => implNew_any k W)
  clear hz hq
  go_enter Try.func5, Try.ntmps5
  go_wp2_with fail
  refine (E1.out _).mono ?_
  rintro e w1 ⟨rfl, hb⟩
  have sz1 := hb.size
  have B1 := Lib.hid (hb)
  clear hb
  have X1_1 := Lib.hid (row_none w1 w1.heap.size)
  obtain ⟨V1, hW⟩ : ∃ z, (w1.alloc (.cells #[.int .i64 q, .slice none 0 0, .int .i64 q, .int .i64 y, .int .i64 y, .int .i64 y] 26)) = z := ⟨_, rfl⟩
  have hb : Below w1.heap.size w1 V1 := by rw [← hW]; exact ((Below.refl _ _).alloc (by first | (simp; done) | (simp; omega) | omega) _)
  have az : V1.heap.size = w1.heap.size + 1 := by rw [← hW]; simp
  have Nw0 := Lib.hid (show Blk V1 (w1.heap.size) 26 #[.int .i64 q, .slice none 0 0, .int .i64 q, .int .i64 y, .int .i64 y, .int .i64 y] by rw [← hW]; exact (Blk.new _ _ _))
  have AZV1 := Lib.hid az
  clear az
  have sz2 := hb.size
  have B2 := Lib.hid (below_chain B1.out hb)
  have X1_2 := Lib.hid (X1_1.out.below hb)
  clear hb B1 X1_1
  have w0_2 := Nw0
  clear Nw0
  have ltw0 : w1.heap.size < V1.heap.size := w0_2.out.lt
  go_wp2_with fail
  clear hW
  refine (E2.out _).mono ?_
  rintro e w2 ⟨rfl, hb⟩
  have sz3 := hb.size
  have B3 := Lib.hid (below_chain B2.out hb)
  have X1_3 := Lib.hid (X1_2.out.below hb)
  have w0_3 := Lib.hid (w0_2.out.below hb)
  clear hb B2 X1_2 w0_2
  have X2_3 := Lib.hid (row_none w2 w2.heap.size)
  obtain ⟨V2, hW⟩ : ∃ z, (w2.alloc (.cells #[.int .i64 q, .slice none 0 0, .int .i64 q, .int .i64 y, .int .i64 y, .int .i64 y] 26)) = z := ⟨_, rfl⟩
  have hb : Below w2.heap.size w2 V2 := by rw [← hW]; exact ((Below.refl _ _).alloc (by first | (simp; done) | (simp; omega) | omega) _)
  have az : V2.heap.size = w2.heap.size + 1 := by rw [← hW]; simp
  have Ng0 := Lib.hid (show Blk V2 (w2.heap.size) 26 #[.int .i64 q, .slice none 0 0, .int .i64 q, .int .i64 y, .int .i64 y, .int .i64 y] by rw [← hW]; exact (Blk.new _ _ _))
  have AZV2 := Lib.hid az
  clear az
  have sz4 := hb.size
  have B4 := Lib.hid (below_chain B3.out hb)
  have X1_4 := Lib.hid (X1_3.out.below hb)
  have X2_4 := Lib.hid (X2_3.out.below hb)
  have w0_4 := Lib.hid (w0_3.out.below hb)
  clear hb B3 X1_3 X2_3 w0_3
  have g0_4 := Ng0
  clear Ng0
  have ltg0 : w2.heap.size < V2.heap.size := g0_4.out.lt
  have xg00 : V2.cell? ⟨w2.heap.size, 0, none⟩ = some (.int .i64 q) := by rw [g0_4.out.cell]; rfl
  have xg01 : V2.cell? ⟨w2.heap.size, 1, none⟩ = some (.slice none 0 0) := by rw [g0_4.out.cell]; rfl
  have xg02 : V2.cell? ⟨w2.heap.size, 2, none⟩ = some (.int .i64 q) := by rw [g0_4.out.cell]; rfl
  have xg03 : V2.cell? ⟨w2.heap.size, 3, none⟩ = some (.int .i64 y) := by rw [g0_4.out.cell]; rfl
  have xg04 : V2.cell? ⟨w2.heap.size, 4, none⟩ = some (.int .i64 y) := by rw [g0_4.out.cell]; rfl
  have xg05 : V2.cell? ⟨w2.heap.size, 5, none⟩ = some (.int .i64 y) := by rw [g0_4.out.cell]; rfl
  have xw00 : V2.cell? ⟨w1.heap.size, 0, none⟩ = some (.int .i64 q) := by rw [w0_4.out.cell]; rfl
  have xw01 : V2.cell? ⟨w1.heap.size, 1, none⟩ = some (.slice none 0 0) := by rw [w0_4.out.cell]; rfl
  have xw02 : V2.cell? ⟨w1.heap.size, 2, none⟩ = some (.int .i64 q) := by rw [w0_4.out.cell]; rfl
  have xw03 : V2.cell? ⟨w1.heap.size, 3, none⟩ = some (.int .i64 y) := by rw [w0_4.out.cell]; rfl
  have xw04 : V2.cell? ⟨w1.heap.size, 4, none⟩ = some (.int .i64 y) := by rw [w0_4.out.cell]; rfl
  have xw05 : V2.cell? ⟨w1.heap.size, 5, none⟩ = some (.int .i64 y) := by rw [w0_4.out.cell]; rfl
  go_wp2_with fail
  clear hW xg00 xg01 xg02 xg03 xg04 xg05 xw00 xw01 xw02 xw03 xw04 xw05
  refine (eqLk_row q q y y y X2_4.out X1_4.out (by omega)).mono ?_
  rintro e w3 ⟨rfl, hb⟩
  have sz5 := hb.size
  have B5 := Lib.hid (below_chain B4.out hb)
  have X1_5 := Lib.hid (X1_4.out.below hb)
  have X2_5 := Lib.hid (X2_4.out.below hb)
  have w0_5 := Lib.hid (w0_4.out.below hb)
  have g0_5 := Lib.hid (g0_4.out.below hb)
  clear hb B4 X1_4 X2_4 w0_4 g0_4
  have xg00 : w3.cell? ⟨w2.heap.size, 0, none⟩ = some (.int .i64 q) := by rw [g0_5.out.cell]; rfl
  have xg01 : w3.cell? ⟨w2.heap.size, 1, none⟩ = some (.slice none 0 0) := by rw [g0_5.out.cell]; rfl
  have xg02 : w3.cell? ⟨w2.heap.size, 2, none⟩ = some (.int .i64 q) := by rw [g0_5.out.cell]; rfl
  have xg03 : w3.cell? ⟨w2.heap.size, 3, none⟩ = some (.int .i64 y) := by rw [g0_5.out.cell]; rfl
  have xg04 : w3.cell? ⟨w2.heap.size, 4, none⟩ = some (.int .i64 y) := by rw [g0_5.out.cell]; rfl
  have xg05 : w3.cell? ⟨w2.heap.size, 5, none⟩ = some (.int .i64 y) := by rw [g0_5.out.cell]; rfl
  go_wp2_with fail
  clear xg00 xg01 xg02 xg03 xg04 xg05
  refine (markLk_row 1 q q y y y X2_5.out (by omega) (by omega)).mono ?_
  rintro e w4 ⟨rfl, om, gw⟩
  have sz6 := gw.size
  have B6 := Lib.hid (below_wrote B5.out gw (by omega))
  have X1_6 := Lib.hid (X1_5.out.wrote gw (by omega))
  have X2_6 := Lib.hid om
  have w0_6 := Lib.hid (w0_5.out.wrote gw (by omega))
  have g0_6 := Lib.hid (g0_5.out.wrote gw (by omega))
  clear om gw B5 X1_5 X2_5 w0_5 g0_5
  have xg00 : w4.cell? ⟨w2.heap.size, 0, none⟩ = some (.int .i64 q) := by rw [g0_6.out.cell]; rfl
  have xg01 : w4.cell? ⟨w2.heap.size, 1, none⟩ = some (.slice none 0 0) := by rw [g0_6.out.cell]; rfl
  have xg02 : w4.cell? ⟨w2.heap.size, 2, none⟩ = some (.int .i64 q) := by rw [g0_6.out.cell]; rfl
  have xg03 : w4.cell? ⟨w2.heap.size, 3, none⟩ = some (.int .i64 y) := by rw [g0_6.out.cell]; rfl
  have xg04 : w4.cell? ⟨w2.heap.size, 4, none⟩ = some (.int .i64 y) := by rw [g0_6.out.cell]; rfl
  have xg05 : w4.cell? ⟨w2.heap.size, 5, none⟩ = some (.int .i64 y) := by rw [g0_6.out.cell]; rfl
  go_wp2_with fail
  clear xg00 xg01 xg02 xg03 xg04 xg05
  refine (heldLk_row 1 q q y y y X2_6.out (by omega) (by omega)).mono ?_
  rintro e w5 ⟨rfl, hb⟩
  have sz7 := hb.size
  have B7 := Lib.hid (below_chain B6.out hb)
  have X1_7 := Lib.hid (X1_6.out.below hb)
  have X2_7 := Lib.hid (X2_6.out.below hb)
  have w0_7 := Lib.hid (w0_6.out.below hb)
  have g0_7 := Lib.hid (g0_6.out.below hb)
  clear hb B6 X1_6 X2_6 w0_6 g0_6
  go_wp2_with fail
  refine (E2.out _).mono ?_
  rintro e w6 ⟨rfl, hb⟩
  have sz8 := hb.size
  have B8 := Lib.hid (below_chain B7.out hb)
  have X1_8 := Lib.hid (X1_7.out.below hb)
  have X2_8 := Lib.hid (X2_7.out.below hb)
  have w0_8 := Lib.hid (w0_7.out.below hb)
  have g0_8 := Lib.hid (g0_7.out.below hb)
  clear hb B7 X1_7 X2_7 w0_7 g0_7
  have X3_8 := Lib.hid (row_none w6 w6.heap.size)
  obtain ⟨V6, hW⟩ : ∃ z, (w6.alloc (.cells #[.int .i64 q, .slice none 0 0, .int .i64 q, .int .i64 y, .int .i64 y, .int .i64 y] 26)) = z := ⟨_, rfl⟩
  have hb : Below w6.heap.size w6 V6 := by rw [← hW]; exact ((Below.refl _ _).alloc (by first | (simp; done) | (simp; omega) | omega) _)
  have az : V6.heap.size = w6.heap.size + 1 := by rw [← hW]; simp
  have Nh0 := Lib.hid (show Blk V6 (w6.heap.size) 26 #[.int .i64 q, .slice none 0 0, .int .i64 q, .int .i64 y, .int .i64 y, .int .i64 y] by rw [← hW]; exact (Blk.new _ _ _))
  have AZV6 := Lib.hid az
  clear az
  have sz9 := hb.size
  have B9 := Lib.hid (below_chain B8.out hb)
  have X1_9 := Lib.hid (X1_8.out.below hb)
  have X2_9 := Lib.hid (X2_8.out.below hb)
  have X3_9 := Lib.hid (X3_8.out.below hb)
  have w0_9 := Lib.hid (w0_8.out.below hb)
  have g0_9 := Lib.hid (g0_8.out.below hb)
  clear hb B8 X1_8 X2_8 X3_8 w0_8 g0_8
  have h0_9 := Nh0
  clear Nh0
  have lth0 : w6.heap.size < V6.heap.size := h0_9.out.lt
  have xh00 : V6.cell? ⟨w6.heap.size, 0, none⟩ = some (.int .i64 q) := by rw [h0_9.out.cell]; rfl
  have xh01 : V6.cell? ⟨w6.heap.size, 1, none⟩ = some (.slice none 0 0) := by rw [h0_9.out.cell]; rfl
  have xh02 : V6.cell? ⟨w6.heap.size, 2, none⟩ = some (.int .i64 q) := by rw [h0_9.out.cell]; rfl
  have xh03 : V6.cell? ⟨w6.heap.size, 3, none⟩ = some (.int .i64 y) := by rw [h0_9.out.cell]; rfl
  have xh04 : V6.cell? ⟨w6.heap.size, 4, none⟩ = some (.int .i64 y) := by rw [h0_9.out.cell]; rfl
  have xh05 : V6.cell? ⟨w6.heap.size, 5, none⟩ = some (.int .i64 y) := by rw [h0_9.out.cell]; rfl
  have xw00 : V6.cell? ⟨w1.heap.size, 0, none⟩ = some (.int .i64 q) := by rw [w0_9.out.cell]; rfl
  have xw01 : V6.cell? ⟨w1.heap.size, 1, none⟩ = some (.slice none 0 0) := by rw [w0_9.out.cell]; rfl
  have xw02 : V6.cell? ⟨w1.heap.size, 2, none⟩ = some (.int .i64 q) := by rw [w0_9.out.cell]; rfl
  have xw03 : V6.cell? ⟨w1.heap.size, 3, none⟩ = some (.int .i64 y) := by rw [w0_9.out.cell]; rfl
  have xw04 : V6.cell? ⟨w1.heap.size, 4, none⟩ = some (.int .i64 y) := by rw [w0_9.out.cell]; rfl
  have xw05 : V6.cell? ⟨w1.heap.size, 5, none⟩ = some (.int .i64 y) := by rw [w0_9.out.cell]; rfl
  go_wp2_with fail
  clear hW xh00 xh01 xh02 xh03 xh04 xh05 xw00 xw01 xw02 xw03 xw04 xw05
  refine (eqLk_row q q y y y X3_9.out X1_9.out (by omega)).mono ?_
  rintro e w7 ⟨rfl, hb⟩
  have sz10 := hb.size
  have B10 := Lib.hid (below_chain B9.out hb)
  have X1_10 := Lib.hid (X1_9.out.below hb)
  have X2_10 := Lib.hid (X2_9.out.below hb)
  have X3_10 := Lib.hid (X3_9.out.below hb)
  have w0_10 := Lib.hid (w0_9.out.below hb)
  have g0_10 := Lib.hid (g0_9.out.below hb)
  have h0_10 := Lib.hid (h0_9.out.below hb)
  clear hb B9 X1_9 X2_9 X3_9 w0_9 g0_9 h0_9
  have xg00 : w7.cell? ⟨w2.heap.size, 0, none⟩ = some (.int .i64 q) := by rw [g0_10.out.cell]; rfl
  have xg01 : w7.cell? ⟨w2.heap.size, 1, none⟩ = some (.slice none 0 0) := by rw [g0_10.out.cell]; rfl
  have xg02 : w7.cell? ⟨w2.heap.size, 2, none⟩ = some (.int .i64 q) := by rw [g0_10.out.cell]; rfl
  have xg03 : w7.cell? ⟨w2.heap.size, 3, none⟩ = some (.int .i64 y) := by rw [g0_10.out.cell]; rfl
  have xg04 : w7.cell? ⟨w2.heap.size, 4, none⟩ = some (.int .i64 y) := by rw [g0_10.out.cell]; rfl
  have xg05 : w7.cell? ⟨w2.heap.size, 5, none⟩ = some (.int .i64 y) := by rw [g0_10.out.cell]; rfl
  go_wp2_with fail
  clear xg00 xg01 xg02 xg03 xg04 xg05
  refine (heldLk_row 1 q q y y y X2_10.out (by omega) (by omega)).mono ?_
  rintro e w8 ⟨rfl, hb⟩
  have sz11 := hb.size
  have B11 := Lib.hid (below_chain B10.out hb)
  have X1_11 := Lib.hid (X1_10.out.below hb)
  have X2_11 := Lib.hid (X2_10.out.below hb)
  have X3_11 := Lib.hid (X3_10.out.below hb)
  have w0_11 := Lib.hid (w0_10.out.below hb)
  have g0_11 := Lib.hid (g0_10.out.below hb)
  have h0_11 := Lib.hid (h0_10.out.below hb)
  clear hb B10 X1_10 X2_10 X3_10 w0_10 g0_10 h0_10
  go_wp2
  go_ret
  exact ⟨rfl, B11.out⟩
end Go.Proofs.Ytidpjpakodndhaa.fnExactLinkNew
