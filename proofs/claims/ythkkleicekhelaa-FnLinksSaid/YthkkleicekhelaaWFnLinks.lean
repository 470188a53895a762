/-
  The walk of FnLinks.
-/
import Derived.Test.YthkkleicekhelaaDrawLks
import Derived.Test.YthkkleicekhelaaLawSame2
import Derived.Test.YthkkleicekhelaaLkCame
import Derived.Test.YthkkleicekhelaaImplLk1
import Derived.Test.YthkkleicekhelaaSpecLk1
import Derived.Test.YthkkleicekhelaaImplSend
import Derived.Test.YthkkleicekhelaaImplTake
import Derived.Test.YthkkleicekhelaaLinksTF
import Derived.Deep.RegionHeld3
import Derived.Deep.DeepCutAuto
namespace Go.Proofs.Ythkkleicekhelaa.fnLinks
open Go.RowKit Go.Proofs.Ythkkleicekhelaa.hexes

set_option maxRecDepth 1000000 in
set_option maxHeartbeats 32000000 in
theorem walk (a0 : Option Addr) (len0 cap0 : Nat) (z0 : List Int) (w : World) (w0 : IsRow .u8 w a0 len0 cap0 z0) :
    Calls Try.prog 3 #[.slice a0 len0 cap0] w fun e w' => e = .returned (.bool true) ∧ Below w.heap.size w w' := by
  have hcame := came_of_row w0
  have HG := Lib.hid (fun W => big_any a0 len0 cap0 W)
  by_cases h1 : 1048576 < len0
  · have hd : decide (1048576 < (len0 : Int)) = true := by simp; omega
    clear hcame w0
    go_enter Try.func3, Try.ntmps3
    go_wp2_with (go_at_call 9; refine (HG.out _).mono ?_; rintro e w1 ⟨rfl, rfl⟩)
    go_ret
    exact ⟨rfl, Below.refl _ _⟩
  have hd : decide (1048576 < (len0 : Int)) = false := by simp; omega
  have HC := Lib.hid hcame
  have hlen : len0 ≤ 2097152 := by omega
  clear hcame w0 h1
  obtain ⟨y, hy0⟩ : ∃ y : Int, y = 0 := ⟨_, rfl⟩
  have HY := Lib.hid hy0
  clear hy0
  go_enter Try.func3, Try.ntmps3
  go_wp2_with (go_at_call 9; refine (HG.out _).mono ?_; rintro e w1 ⟨rfl, rfl⟩)
  clear HG hd
  refine (drawSend_any _ a0 len0 cap0 hlen HC.out).mono ?_
  rintro e w2 ⟨pL, aL, bL, sL, gL, AL, nL, cL, zsL, q0, q1, q2, q3, q4, hgot, rfl, hb⟩
  obtain ⟨hlL, hnL, habL, hgbL, ho⟩ := hgot
  obtain ⟨A9, c9, he, rwL⟩ := row_of ho
  simp only [Value.slice.injEq, true_and] at he
  obtain ⟨rfl, rfl⟩ := he
  have HLL := Lib.hid hlL
  clear hlL ho
  have sz1 := hb.size
  have B1 := Lib.hid (hb)
  clear hb
  have XL_1 := Lib.hid rwL
  clear rwL
  obtain ⟨V2, hW⟩ : ∃ z, ((w2.alloc (.cells #[.int .i64 pL, .slice AL nL cL, .int .i64 aL, .int .i64 bL, .int .i64 sL, .int .i64 gL] 26)).alloc (.cells #[.int .i64 q0, .int .i64 q1, .int .i64 q2, .int .i64 q3, .int .i64 q4] 30)) = z := ⟨_, rfl⟩
  have hb : Below w2.heap.size w2 V2 := by rw [← hW]; exact (((Below.refl _ _).alloc (by first | (simp; done) | (simp; omega) | omega) _).alloc (by first | (simp; done) | (simp; omega) | omega) _)
  have az : V2.heap.size = w2.heap.size + 2 := by rw [← hW]; simp
  have NL0 := Lib.hid (show Blk V2 (w2.heap.size) 26 #[.int .i64 pL, .slice AL nL cL, .int .i64 aL, .int .i64 bL, .int .i64 sL, .int .i64 gL] by rw [← hW]; exact ((Below.heap_alloc _ _ _ (by first | (simp; done) | (simp; omega))).trans (Blk.new _ _ _)))
  have NR0 := Lib.hid (show Blk V2 (w2.heap.size + 1) 30 #[.int .i64 q0, .int .i64 q1, .int .i64 q2, .int .i64 q3, .int .i64 q4] by rw [← hW]; exact ((show w2.heap.size + 1 = ((w2.alloc _)).heap.size by simp) ▸ Blk.new _ _ _))
  have AZV2 := Lib.hid az
  clear az
  have sz2 := hb.size
  have B2 := Lib.hid (below_chain B1.out hb)
  have XL_2 := Lib.hid (XL_1.out.below hb)
  clear hb B1 XL_1
  have L0_2 := NL0
  clear NL0
  have ltL0 : w2.heap.size < V2.heap.size := L0_2.out.lt
  have R0_2 := NR0
  clear NR0
  have ltR0 : w2.heap.size + 1 < V2.heap.size := R0_2.out.lt
  obtain ⟨r0, hr0⟩ : ∃ r, sendOk pL aL bL sL gL nL zsL (q0, (q1, q2), q3, q4) = r := ⟨_, rfl⟩
  obtain ⟨us, hus⟩ : ∃ us, sendQ r0 zsL (q0, (q1, q2), q3, q4) = us := ⟨_, rfl⟩
  obtain ⟨m, hm⟩ : ∃ m, us.length = m := ⟨_, rfl⟩
  obtain ⟨ax, hax⟩ : ∃ z, turnI r0 aL (-1) = z := ⟨_, rfl⟩
  obtain ⟨sx, hsx⟩ : ∃ z, turnI r0 sL 1 = z := ⟨_, rfl⟩
  have NL := Lib.hid XL_2.out.nil
  have ES1 := Lib.hid (show ∀ W, Rcs W AL zsL → Calls Try.prog 11 #[.agg #[.int .i64 pL, .slice AL nL cL, .int .i64 aL, .int .i64 bL, .int .i64 sL, .int .i64 gL], .agg #[.int .i64 q0, .int .i64 q1, .int .i64 q2, .int .i64 q3, .int .i64 q4]] W fun e w' => ∃ A' c', e = .returned (.tuple #[.agg #[.int .i64 pL, .slice A' m c', .int .i64 ax, .int .i64 bL, .int .i64 sx, .int .i64 gL], .bool r0]) ∧ w'.ownsRow W.heap.size 30 5 (.slice A' m c') m (rcCells us) ∧ Below W.heap.size W w' from fun W h => by rw [← hax, ← hsx]; exact implSend_any nL zsL HLL.out AL cL NL.out pL aL bL sL gL q0 q1 q2 q3 q4 (by omega) W h (by omega) hr0 hus hm)
  have ES2 := Lib.hid (show ∀ W, Rcs W AL zsL → Calls Try.prog 12 #[.agg #[.int .i64 pL, .slice AL nL cL, .int .i64 aL, .int .i64 bL, .int .i64 sL, .int .i64 gL], .agg #[.int .i64 q0, .int .i64 q1, .int .i64 q2, .int .i64 q3, .int .i64 q4]] W fun e w' => ∃ A' c', e = .returned (.tuple #[.agg #[.int .i64 pL, .slice A' m c', .int .i64 ax, .int .i64 bL, .int .i64 sx, .int .i64 gL], .bool r0]) ∧ w'.ownsRow W.heap.size 30 5 (.slice A' m c') m (rcCells us) ∧ Below W.heap.size W w' from fun W h => by rw [← hax, ← hsx]; exact specSend_any nL zsL HLL.out AL cL NL.out pL aL bL sL gL q0 q1 q2 q3 q4 W h (by omega) hr0 hus hm)
  have hmn : m ≤ nL + 1 := by rw [← hm, ← hus, ← HLL.out]; unfold sendQ; split <;> simp
  have OKL := Lib.hid (show r0 = true → okLk pL ax bL sx gL (m : Int) us = true ∧ ax = aL - 1 ∧ -2000000001 ≤ aL - 1 ∧ aL - 1 ≤ 4 by rintro rfl; exact send_ok hr0 hus (by rw [hm]) (by rw [HLL.out]) hax hsx)
  have NOL := Lib.hid (show r0 = false → us = zsL ∧ ax = aL ∧ sx = sL by rintro rfl; exact send_no hus hax hsx)
  have HM := Lib.hid hm
  clear hr0 hus hm hax hsx
  have xL00 : V2.cell? ⟨w2.heap.size, 0, none⟩ = some (.int .i64 pL) := by rw [L0_2.out.cell]; rfl
  have xL01 : V2.cell? ⟨w2.heap.size, 1, none⟩ = some (.slice AL nL cL) := by rw [L0_2.out.cell]; rfl
  have xL02 : V2.cell? ⟨w2.heap.size, 2, none⟩ = some (.int .i64 aL) := by rw [L0_2.out.cell]; rfl
  have xL03 : V2.cell? ⟨w2.heap.size, 3, none⟩ = some (.int .i64 bL) := by rw [L0_2.out.cell]; rfl
  have xL04 : V2.cell? ⟨w2.heap.size, 4, none⟩ = some (.int .i64 sL) := by rw [L0_2.out.cell]; rfl
  have xL05 : V2.cell? ⟨w2.heap.size, 5, none⟩ = some (.int .i64 gL) := by rw [L0_2.out.cell]; rfl
  have xR00 : V2.cell? ⟨w2.heap.size + 1, 0, none⟩ = some (.int .i64 q0) := by rw [R0_2.out.cell]; rfl
  have xR01 : V2.cell? ⟨w2.heap.size + 1, 1, none⟩ = some (.int .i64 q1) := by rw [R0_2.out.cell]; rfl
  have xR02 : V2.cell? ⟨w2.heap.size + 1, 2, none⟩ = some (.int .i64 q2) := by rw [R0_2.out.cell]; rfl
  have xR03 : V2.cell? ⟨w2.heap.size + 1, 3, none⟩ = some (.int .i64 q3) := by rw [R0_2.out.cell]; rfl
  have xR04 : V2.cell? ⟨w2.heap.size + 1, 4, none⟩ = some (.int .i64 q4) := by rw [R0_2.out.cell]; rfl
  go_wp2_with fail
  clear hW xL00 xL01 xL02 xL03 xL04 xL05 xR00 xR01 xR02 xR03 xR04
  refine (ES1.out _ XL_2.out.rc).mono ?_
  rintro e w3 ⟨A1, c1, rfl, o1, hb⟩
  obtain ⟨A9, c9, he, rw1⟩ := row_of o1
  simp only [Value.slice.injEq, true_and] at he
  obtain ⟨rfl, rfl⟩ := he
  clear o1
  have sz3 := hb.size
  have B3 := Lib.hid (below_chain B2.out hb)
  have XL_3 := Lib.hid (XL_2.out.below hb)
  have L0_3 := Lib.hid (L0_2.out.below hb)
  have R0_3 := Lib.hid (R0_2.out.below hb)
  clear hb B2 XL_2 L0_2 R0_2
  have X1_3 := Lib.hid rw1
  clear rw1
  obtain ⟨V3, hW⟩ : ∃ z, (w3.alloc (.cells #[.int .i64 pL, .slice A1 m c1, .int .i64 ax, .int .i64 bL, .int .i64 sx, .int .i64 gL] 26)) = z := ⟨_, rfl⟩
  have hb : Below w3.heap.size w3 V3 := by rw [← hW]; exact ((Below.refl _ _).alloc (by first | (simp; done) | (simp; omega) | omega) _)
  have az : V3.heap.size = w3.heap.size + 1 := by rw [← hW]; simp
  have NL1 := Lib.hid (show Blk V3 (w3.heap.size) 26 #[.int .i64 pL, .slice A1 m c1, .int .i64 ax, .int .i64 bL, .int .i64 sx, .int .i64 gL] by rw [← hW]; exact (Blk.new _ _ _))
  have AZV3 := Lib.hid az
  clear az
  have sz4 := hb.size
  have B4 := Lib.hid (below_chain B3.out hb)
  have XL_4 := Lib.hid (XL_3.out.below hb)
  have X1_4 := Lib.hid (X1_3.out.below hb)
  have L0_4 := Lib.hid (L0_3.out.below hb)
  have R0_4 := Lib.hid (R0_3.out.below hb)
  clear hb B3 XL_3 X1_3 L0_3 R0_3
  have L1_4 := NL1
  clear NL1
  have ltL1 : w3.heap.size < V3.heap.size := L1_4.out.lt
  have xL00 : V3.cell? ⟨w2.heap.size, 0, none⟩ = some (.int .i64 pL) := by rw [L0_4.out.cell]; rfl
  have xL01 : V3.cell? ⟨w2.heap.size, 1, none⟩ = some (.slice AL nL cL) := by rw [L0_4.out.cell]; rfl
  have xL02 : V3.cell? ⟨w2.heap.size, 2, none⟩ = some (.int .i64 aL) := by rw [L0_4.out.cell]; rfl
  have xL03 : V3.cell? ⟨w2.heap.size, 3, none⟩ = some (.int .i64 bL) := by rw [L0_4.out.cell]; rfl
  have xL04 : V3.cell? ⟨w2.heap.size, 4, none⟩ = some (.int .i64 sL) := by rw [L0_4.out.cell]; rfl
  have xL05 : V3.cell? ⟨w2.heap.size, 5, none⟩ = some (.int .i64 gL) := by rw [L0_4.out.cell]; rfl
  have xR00 : V3.cell? ⟨w2.heap.size + 1, 0, none⟩ = some (.int .i64 q0) := by rw [R0_4.out.cell]; rfl
  have xR01 : V3.cell? ⟨w2.heap.size + 1, 1, none⟩ = some (.int .i64 q1) := by rw [R0_4.out.cell]; rfl
  have xR02 : V3.cell? ⟨w2.heap.size + 1, 2, none⟩ = some (.int .i64 q2) := by rw [R0_4.out.cell]; rfl
  have xR03 : V3.cell? ⟨w2.heap.size + 1, 3, none⟩ = some (.int .i64 q3) := by rw [R0_4.out.cell]; rfl
  have xR04 : V3.cell? ⟨w2.heap.size + 1, 4, none⟩ = some (.int .i64 q4) := by rw [R0_4.out.cell]; rfl
  go_wp2_with fail
  clear hW xL00 xL01 xL02 xL03 xL04 xL05 xR00 xR01 xR02 xR03 xR04
  refine (ES2.out _ XL_4.out.rc).mono ?_
  rintro e w4 ⟨A2, c2, rfl, o2, hb⟩
  obtain ⟨A9, c9, he, rw2⟩ := row_of o2
  simp only [Value.slice.injEq, true_and] at he
  obtain ⟨rfl, rfl⟩ := he
  clear o2
  have sz5 := hb.size
  have B5 := Lib.hid (below_chain B4.out hb)
  have XL_5 := Lib.hid (XL_4.out.below hb)
  have X1_5 := Lib.hid (X1_4.out.below hb)
  have L0_5 := Lib.hid (L0_4.out.below hb)
  have R0_5 := Lib.hid (R0_4.out.below hb)
  have L1_5 := Lib.hid (L1_4.out.below hb)
  clear hb B4 XL_4 X1_4 L0_4 R0_4 L1_4
  have X2_5 := Lib.hid rw2
  clear rw2
  clear ES1 ES2
  obtain ⟨V4, hW⟩ : ∃ z, (w4.alloc (.cells #[.int .i64 pL, .slice A2 m c2, .int .i64 ax, .int .i64 bL, .int .i64 sx, .int .i64 gL] 26)) = z := ⟨_, rfl⟩
  have hb : Below w4.heap.size w4 V4 := by rw [← hW]; exact ((Below.refl _ _).alloc (by first | (simp; done) | (simp; omega) | omega) _)
  have az : V4.heap.size = w4.heap.size + 1 := by rw [← hW]; simp
  have NL2 := Lib.hid (show Blk V4 (w4.heap.size) 26 #[.int .i64 pL, .slice A2 m c2, .int .i64 ax, .int .i64 bL, .int .i64 sx, .int .i64 gL] by rw [← hW]; exact (Blk.new _ _ _))
  have AZV4 := Lib.hid az
  clear az
  have sz6 := hb.size
  have B6 := Lib.hid (below_chain B5.out hb)
  have XL_6 := Lib.hid (XL_5.out.below hb)
  have X1_6 := Lib.hid (X1_5.out.below hb)
  have X2_6 := Lib.hid (X2_5.out.below hb)
  have L0_6 := Lib.hid (L0_5.out.below hb)
  have R0_6 := Lib.hid (R0_5.out.below hb)
  have L1_6 := Lib.hid (L1_5.out.below hb)
  clear hb B5 XL_5 X1_5 X2_5 L0_5 R0_5 L1_5
  have L2_6 := NL2
  clear NL2
  have ltL2 : w4.heap.size < V4.heap.size := L2_6.out.lt
  go_upto_region 6 with fail
  clear hW
  obtain ⟨r1, hr1⟩ : ∃ r, okLk pL aL bL sL gL nL zsL = r := ⟨_, rfl⟩
  have n0 : (r0 != r0) = false := by simp
  have n1 : (r1 != r1) = false := by simp
  have ES := Lib.hid (show ∀ W, Below V4.heap.size V4 W → Calls Try.prog 13 #[.agg #[.int .i64 pL, .slice A1 m c1, .int .i64 ax, .int .i64 bL, .int .i64 sx, .int .i64 gL], .agg #[.int .i64 pL, .slice A2 m c2, .int .i64 ax, .int .i64 bL, .int .i64 sx, .int .i64 gL]] W fun e w' => e = .returned (.bool true) ∧ Below W.heap.size W w' from fun W h => by have k := lawSame_any m m us us HM.out HM.out A1 A2 c1 c2 pL ax bL sx gL pL ax bL sx gL W (X1_6.out.below h).rc (X2_6.out.below h).rc (by omega); rw [sameLk_self] at k; exact k)
  have EI := Lib.hid (show ∀ W, Below V4.heap.size V4 W → Calls Try.prog 14 #[.agg #[.int .i64 pL, .slice AL nL cL, .int .i64 aL, .int .i64 bL, .int .i64 sL, .int .i64 gL]] W fun e w' => e = .returned (.bool r1) ∧ Below W.heap.size W w' from fun W h => by rw [← hr1]; exact implLkOk_any nL zsL HLL.out AL cL pL aL bL sL gL (by omega) W (XL_6.out.below h).rc (by omega))
  have EP := Lib.hid (show ∀ W, Below V4.heap.size V4 W → Calls Try.prog 15 #[.agg #[.int .i64 pL, .slice AL nL cL, .int .i64 aL, .int .i64 bL, .int .i64 sL, .int .i64 gL]] W fun e w' => e = .returned (.bool r1) ∧ Below W.heap.size W w' from fun W h => by rw [← hr1]; exact specLkOk_any nL zsL HLL.out AL cL pL aL bL sL gL W (XL_6.out.below h).rc (by omega))
  clear hr1
  have k0 : V4.cell? ⟨w3.heap.size, 0, none⟩ = some (.int .i64 pL) := by rw [L1_6.out.cell]; rfl
  have k1 : V4.cell? ⟨w3.heap.size, 1, none⟩ = some (.slice A1 m c1) := by rw [L1_6.out.cell]; rfl
  have k2 : V4.cell? ⟨w3.heap.size, 2, none⟩ = some (.int .i64 ax) := by rw [L1_6.out.cell]; rfl
  have k3 : V4.cell? ⟨w3.heap.size, 3, none⟩ = some (.int .i64 bL) := by rw [L1_6.out.cell]; rfl
  have k4 : V4.cell? ⟨w3.heap.size, 4, none⟩ = some (.int .i64 sx) := by rw [L1_6.out.cell]; rfl
  have k5 : V4.cell? ⟨w3.heap.size, 5, none⟩ = some (.int .i64 gL) := by rw [L1_6.out.cell]; rfl
  have k6 : V4.cell? ⟨w4.heap.size, 0, none⟩ = some (.int .i64 pL) := by rw [L2_6.out.cell]; rfl
  have k7 : V4.cell? ⟨w4.heap.size, 1, none⟩ = some (.slice A2 m c2) := by rw [L2_6.out.cell]; rfl
  have k8 : V4.cell? ⟨w4.heap.size, 2, none⟩ = some (.int .i64 ax) := by rw [L2_6.out.cell]; rfl
  have k9 : V4.cell? ⟨w4.heap.size, 3, none⟩ = some (.int .i64 bL) := by rw [L2_6.out.cell]; rfl
  have k10 : V4.cell? ⟨w4.heap.size, 4, none⟩ = some (.int .i64 sx) := by rw [L2_6.out.cell]; rfl
  have k11 : V4.cell? ⟨w4.heap.size, 5, none⟩ = some (.int .i64 gL) := by rw [L2_6.out.cell]; rfl
  have k12 : V4.cell? ⟨w2.heap.size, 0, none⟩ = some (.int .i64 pL) := by rw [L0_6.out.cell]; rfl
  have k13 : V4.cell? ⟨w2.heap.size, 1, none⟩ = some (.slice AL nL cL) := by rw [L0_6.out.cell]; rfl
  have k14 : V4.cell? ⟨w2.heap.size, 2, none⟩ = some (.int .i64 aL) := by rw [L0_6.out.cell]; rfl
  have k15 : V4.cell? ⟨w2.heap.size, 3, none⟩ = some (.int .i64 bL) := by rw [L0_6.out.cell]; rfl
  have k16 : V4.cell? ⟨w2.heap.size, 4, none⟩ = some (.int .i64 sL) := by rw [L0_6.out.cell]; rfl
  have k17 : V4.cell? ⟨w2.heap.size, 5, none⟩ = some (.int .i64 gL) := by rw [L0_6.out.cell]; rfl
  have kb := Below.refl V4.heap.size V4
  go_cut [69] (fun t wx => t = .bool false ∧ Below V4.heap.size V4 wx)
  case first =>
    go_region_held3 (fun w' => w'.cell? ⟨w3.heap.size, 0, none⟩ = some (.int .i64 pL) ∧ w'.cell? ⟨w3.heap.size, 1, none⟩ = some (.slice A1 m c1) ∧ w'.cell? ⟨w3.heap.size, 2, none⟩ = some (.int .i64 ax) ∧ w'.cell? ⟨w3.heap.size, 3, none⟩ = some (.int .i64 bL) ∧ w'.cell? ⟨w3.heap.size, 4, none⟩ = some (.int .i64 sx) ∧ w'.cell? ⟨w3.heap.size, 5, none⟩ = some (.int .i64 gL) ∧ w'.cell? ⟨w4.heap.size, 0, none⟩ = some (.int .i64 pL) ∧ w'.cell? ⟨w4.heap.size, 1, none⟩ = some (.slice A2 m c2) ∧ w'.cell? ⟨w4.heap.size, 2, none⟩ = some (.int .i64 ax) ∧ w'.cell? ⟨w4.heap.size, 3, none⟩ = some (.int .i64 bL) ∧ w'.cell? ⟨w4.heap.size, 4, none⟩ = some (.int .i64 sx) ∧ w'.cell? ⟨w4.heap.size, 5, none⟩ = some (.int .i64 gL) ∧ w'.cell? ⟨w2.heap.size, 0, none⟩ = some (.int .i64 pL) ∧ w'.cell? ⟨w2.heap.size, 1, none⟩ = some (.slice AL nL cL) ∧ w'.cell? ⟨w2.heap.size, 2, none⟩ = some (.int .i64 aL) ∧ w'.cell? ⟨w2.heap.size, 3, none⟩ = some (.int .i64 bL) ∧ w'.cell? ⟨w2.heap.size, 4, none⟩ = some (.int .i64 sL) ∧ w'.cell? ⟨w2.heap.size, 5, none⟩ = some (.int .i64 gL) ∧ Below V4.heap.size V4 w')
      (((try go_split_ands); refine ⟨?_, ?_, ?_, ?_, ?_, ?_, ?_, ?_, ?_, ?_, ?_, ?_, ?_, ?_, ?_, ?_, ?_, ?_, ?_⟩ <;> (repeat (first | with_reducible assumption | with_reducible refine drew_keep ?_ | with_reducible refine below_keep hbd ?_ | with_reducible refine Below.drew ?_ | with_reducible refine below_chain ?_ hbd))))
      (first | (go_at_call 13; (try go_split_ands); (with_reducible refine (ES.out _ (by assumption)).mono ?_); rintro e w5 ⟨rfl, hbd⟩) | (go_at_call 14; (try go_split_ands); (with_reducible refine (EI.out _ (by assumption)).mono ?_); rintro e w5 ⟨rfl, hbd⟩) | (go_at_call 15; (try go_split_ands); (with_reducible refine (EP.out _ (by assumption)).mono ?_); rintro e w5 ⟨rfl, hbd⟩))
    all_goals (
      go_wp2_with fail
      go_meet
      refine ⟨rfl, ?_⟩
      (try go_split_ands)
      assumption)
  case rest =>
  obtain ⟨rfl, hb⟩ := hcut
  clear kb k0 k1 k2 k3 k4 k5 k6 k7 k8 k9 k10 k11 k12 k13 k14 k15 k16 k17
  obtain ⟨y6, hwc⟩ : ∃ z, z = wc := ⟨_, rfl⟩
  subst hwc
  clear n0 n1 ES EI EP
  have sz7 := hb.size
  have B7 := Lib.hid (below_chain B6.out hb)
  have XL_7 := Lib.hid (XL_6.out.below hb)
  have X1_7 := Lib.hid (X1_6.out.below hb)
  have X2_7 := Lib.hid (X2_6.out.below hb)
  have L0_7 := Lib.hid (L0_6.out.below hb)
  have R0_7 := Lib.hid (R0_6.out.below hb)
  have L1_7 := Lib.hid (L1_6.out.below hb)
  have L2_7 := Lib.hid (L2_6.out.below hb)
  clear hb B6 XL_6 X1_6 X2_6 L0_6 R0_6 L1_6 L2_6
  clear L2_7
  clear X2_7
  clear R0_7
  go_wp2_with fail
  refine (drawTake_any _ a0 len0 cap0 hlen (HC.out.below B7.out)).mono ?_
  rintro e w7 ⟨pM, aM, bM, sM, gM, AM, nM, cM, zsM, hgot, rfl, hb⟩
  obtain ⟨hlM, hnM, habM, hgbM, ho⟩ := hgot
  obtain ⟨A9, c9, he, rwM⟩ := row_of ho
  simp only [Value.slice.injEq, true_and] at he
  obtain ⟨rfl, rfl⟩ := he
  have HLM := Lib.hid hlM
  clear hlM ho
  have sz8 := hb.size
  have B8 := Lib.hid (below_chain B7.out hb)
  have XL_8 := Lib.hid (XL_7.out.below hb)
  have X1_8 := Lib.hid (X1_7.out.below hb)
  have L0_8 := Lib.hid (L0_7.out.below hb)
  have L1_8 := Lib.hid (L1_7.out.below hb)
  clear hb B7 XL_7 X1_7 L0_7 L1_7
  have XM_8 := Lib.hid rwM
  clear rwM
  obtain ⟨V7, hW⟩ : ∃ z, (w7.alloc (.cells #[.int .i64 pM, .slice AM nM cM, .int .i64 aM, .int .i64 bM, .int .i64 sM, .int .i64 gM] 26)) = z := ⟨_, rfl⟩
  have hb : Below w7.heap.size w7 V7 := by rw [← hW]; exact ((Below.refl _ _).alloc (by first | (simp; done) | (simp; omega) | omega) _)
  have az : V7.heap.size = w7.heap.size + 1 := by rw [← hW]; simp
  have NM0 := Lib.hid (show Blk V7 (w7.heap.size) 26 #[.int .i64 pM, .slice AM nM cM, .int .i64 aM, .int .i64 bM, .int .i64 sM, .int .i64 gM] by rw [← hW]; exact (Blk.new _ _ _))
  have AZV7 := Lib.hid az
  clear az
  have sz9 := hb.size
  have B9 := Lib.hid (below_chain B8.out hb)
  have XL_9 := Lib.hid (XL_8.out.below hb)
  have X1_9 := Lib.hid (X1_8.out.below hb)
  have XM_9 := Lib.hid (XM_8.out.below hb)
  have L0_9 := Lib.hid (L0_8.out.below hb)
  have L1_9 := Lib.hid (L1_8.out.below hb)
  clear hb B8 XL_8 X1_8 XM_8 L0_8 L1_8
  have M0_9 := NM0
  clear NM0
  have ltM0 : w7.heap.size < V7.heap.size := M0_9.out.lt
  obtain ⟨r2, hr2⟩ : ∃ r, takeOk pM aM bM sM gM nM zsM = r := ⟨_, rfl⟩
  obtain ⟨ts, hts⟩ : ∃ us, takeQ r2 zsM = us := ⟨_, rfl⟩
  obtain ⟨mt, hmt⟩ : ∃ m, ts.length = m := ⟨_, rfl⟩
  obtain ⟨⟨f0, ⟨f1, f2⟩, f3, f4⟩, hf⟩ : ∃ q, takeR r2 zsM = q := ⟨_, rfl⟩
  obtain ⟨bt, hbt⟩ : ∃ z, turnI r2 bM 1 = z := ⟨_, rfl⟩
  obtain ⟨gt, hgt⟩ : ∃ z, turnI r2 gM 1 = z := ⟨_, rfl⟩
  have NM := Lib.hid XM_9.out.nil
  have ET1 := Lib.hid (show ∀ W, Rcs W AM zsM → Calls Try.prog 17 #[.agg #[.int .i64 pM, .slice AM nM cM, .int .i64 aM, .int .i64 bM, .int .i64 sM, .int .i64 gM]] W fun e w' => ∃ A' c', e = .returned (.tuple #[.agg #[.int .i64 pM, .slice A' mt c', .int .i64 aM, .int .i64 bt, .int .i64 sM, .int .i64 gt], .agg #[.int .i64 f0, .int .i64 f1, .int .i64 f2, .int .i64 f3, .int .i64 f4], .bool r2]) ∧ w'.ownsRow W.heap.size 30 5 (.slice A' mt c') mt (rcCells ts) ∧ Below W.heap.size W w' from fun W h => by rw [← hbt, ← hgt]; exact implTake_any nM zsM HLM.out AM cM NM.out pM aM bM sM gM (by omega) W h (by omega) hr2 hts hmt hf)
  have ET2 := Lib.hid (show ∀ W, Rcs W AM zsM → Calls Try.prog 18 #[.agg #[.int .i64 pM, .slice AM nM cM, .int .i64 aM, .int .i64 bM, .int .i64 sM, .int .i64 gM]] W fun e w' => ∃ A' c', e = .returned (.tuple #[.agg #[.int .i64 pM, .slice A' mt c', .int .i64 aM, .int .i64 bt, .int .i64 sM, .int .i64 gt], .agg #[.int .i64 f0, .int .i64 f1, .int .i64 f2, .int .i64 f3, .int .i64 f4], .bool r2]) ∧ w'.ownsRow W.heap.size 30 5 (.slice A' mt c') mt (rcCells ts) ∧ Below W.heap.size W w' from fun W h => by rw [← hbt, ← hgt]; exact specTake_any nM zsM HLM.out AM cM NM.out pM aM bM sM gM W h (by omega) hr2 hts hmt hf)
  have hmtn : mt ≤ nM := by rw [← hmt, ← hts, ← HLM.out]; unfold takeQ; split <;> simp
  have OKM := Lib.hid (show r2 = true → okLk pM aM bt sM gt (mt : Int) ts = true ∧ (mt : Int) = (nM : Int) - 1 by rintro rfl; exact take_ok hr2 hts (by rw [hmt]) (by rw [HLM.out]) hbt hgt)
  have HMT := Lib.hid hmt
  clear hr2 hts hmt hf hbt hgt
  have xM00 : V7.cell? ⟨w7.heap.size, 0, none⟩ = some (.int .i64 pM) := by rw [M0_9.out.cell]; rfl
  have xM01 : V7.cell? ⟨w7.heap.size, 1, none⟩ = some (.slice AM nM cM) := by rw [M0_9.out.cell]; rfl
  have xM02 : V7.cell? ⟨w7.heap.size, 2, none⟩ = some (.int .i64 aM) := by rw [M0_9.out.cell]; rfl
  have xM03 : V7.cell? ⟨w7.heap.size, 3, none⟩ = some (.int .i64 bM) := by rw [M0_9.out.cell]; rfl
  have xM04 : V7.cell? ⟨w7.heap.size, 4, none⟩ = some (.int .i64 sM) := by rw [M0_9.out.cell]; rfl
  have xM05 : V7.cell? ⟨w7.heap.size, 5, none⟩ = some (.int .i64 gM) := by rw [M0_9.out.cell]; rfl
  go_wp2_with fail
  clear hW xM00 xM01 xM02 xM03 xM04 xM05
  refine (ET1.out _ XM_9.out.rc).mono ?_
  rintro e w8 ⟨A3, c3, rfl, o3, hb⟩
  obtain ⟨A9, c9, he, rw3⟩ := row_of o3
  simp only [Value.slice.injEq, true_and] at he
  obtain ⟨rfl, rfl⟩ := he
  clear o3
  have sz10 := hb.size
  have B10 := Lib.hid (below_chain B9.out hb)
  have XL_10 := Lib.hid (XL_9.out.below hb)
  have X1_10 := Lib.hid (X1_9.out.below hb)
  have XM_10 := Lib.hid (XM_9.out.below hb)
  have L0_10 := Lib.hid (L0_9.out.below hb)
  have L1_10 := Lib.hid (L1_9.out.below hb)
  have M0_10 := Lib.hid (M0_9.out.below hb)
  clear hb B9 XL_9 X1_9 XM_9 L0_9 L1_9 M0_9
  have X3_10 := Lib.hid rw3
  clear rw3
  obtain ⟨V8, hW⟩ : ∃ z, ((w8.alloc (.cells #[.int .i64 pM, .slice A3 mt c3, .int .i64 aM, .int .i64 bt, .int .i64 sM, .int .i64 gt] 26)).alloc (.cells #[.int .i64 f0, .int .i64 f1, .int .i64 f2, .int .i64 f3, .int .i64 f4] 30)) = z := ⟨_, rfl⟩
  have hb : Below w8.heap.size w8 V8 := by rw [← hW]; exact (((Below.refl _ _).alloc (by first | (simp; done) | (simp; omega) | omega) _).alloc (by first | (simp; done) | (simp; omega) | omega) _)
  have az : V8.heap.size = w8.heap.size + 2 := by rw [← hW]; simp
  have NY0 := Lib.hid (show Blk V8 (w8.heap.size) 26 #[.int .i64 pM, .slice A3 mt c3, .int .i64 aM, .int .i64 bt, .int .i64 sM, .int .i64 gt] by rw [← hW]; exact ((Below.heap_alloc _ _ _ (by first | (simp; done) | (simp; omega))).trans (Blk.new _ _ _)))
  have NF1 := Lib.hid (show Blk V8 (w8.heap.size + 1) 30 #[.int .i64 f0, .int .i64 f1, .int .i64 f2, .int .i64 f3, .int .i64 f4] by rw [← hW]; exact ((show w8.heap.size + 1 = ((w8.alloc _)).heap.size by simp) ▸ Blk.new _ _ _))
  have AZV8 := Lib.hid az
  clear az
  have sz11 := hb.size
  have B11 := Lib.hid (below_chain B10.out hb)
  have XL_11 := Lib.hid (XL_10.out.below hb)
  have X1_11 := Lib.hid (X1_10.out.below hb)
  have XM_11 := Lib.hid (XM_10.out.below hb)
  have X3_11 := Lib.hid (X3_10.out.below hb)
  have L0_11 := Lib.hid (L0_10.out.below hb)
  have L1_11 := Lib.hid (L1_10.out.below hb)
  have M0_11 := Lib.hid (M0_10.out.below hb)
  clear hb B10 XL_10 X1_10 XM_10 X3_10 L0_10 L1_10 M0_10
  have Y0_11 := NY0
  clear NY0
  have ltY0 : w8.heap.size < V8.heap.size := Y0_11.out.lt
  have F1_11 := NF1
  clear NF1
  have ltF1 : w8.heap.size + 1 < V8.heap.size := F1_11.out.lt
  have xM00 : V8.cell? ⟨w7.heap.size, 0, none⟩ = some (.int .i64 pM) := by rw [M0_11.out.cell]; rfl
  have xM01 : V8.cell? ⟨w7.heap.size, 1, none⟩ = some (.slice AM nM cM) := by rw [M0_11.out.cell]; rfl
  have xM02 : V8.cell? ⟨w7.heap.size, 2, none⟩ = some (.int .i64 aM) := by rw [M0_11.out.cell]; rfl
  have xM03 : V8.cell? ⟨w7.heap.size, 3, none⟩ = some (.int .i64 bM) := by rw [M0_11.out.cell]; rfl
  have xM04 : V8.cell? ⟨w7.heap.size, 4, none⟩ = some (.int .i64 sM) := by rw [M0_11.out.cell]; rfl
  have xM05 : V8.cell? ⟨w7.heap.size, 5, none⟩ = some (.int .i64 gM) := by rw [M0_11.out.cell]; rfl
  go_wp2_with fail
  clear hW xM00 xM01 xM02 xM03 xM04 xM05
  refine (ET2.out _ XM_11.out.rc).mono ?_
  rintro e w9 ⟨A4, c4, rfl, o4, hb⟩
  obtain ⟨A9, c9, he, rw4⟩ := row_of o4
  simp only [Value.slice.injEq, true_and] at he
  obtain ⟨rfl, rfl⟩ := he
  clear o4
  have sz12 := hb.size
  have B12 := Lib.hid (below_chain B11.out hb)
  have XL_12 := Lib.hid (XL_11.out.below hb)
  have X1_12 := Lib.hid (X1_11.out.below hb)
  have XM_12 := Lib.hid (XM_11.out.below hb)
  have X3_12 := Lib.hid (X3_11.out.below hb)
  have L0_12 := Lib.hid (L0_11.out.below hb)
  have L1_12 := Lib.hid (L1_11.out.below hb)
  have M0_12 := Lib.hid (M0_11.out.below hb)
  have Y0_12 := Lib.hid (Y0_11.out.below hb)
  have F1_12 := Lib.hid (F1_11.out.below hb)
  clear hb B11 XL_11 X1_11 XM_11 X3_11 L0_11 L1_11 M0_11 Y0_11 F1_11
  have X4_12 := Lib.hid rw4
  clear rw4
  clear ET1 ET2
  obtain ⟨V9, hW⟩ : ∃ z, ((w9.alloc (.cells #[.int .i64 pM, .slice A4 mt c4, .int .i64 aM, .int .i64 bt, .int .i64 sM, .int .i64 gt] 26)).alloc (.cells #[.int .i64 f0, .int .i64 f1, .int .i64 f2, .int .i64 f3, .int .i64 f4] 30)) = z := ⟨_, rfl⟩
  have hb : Below w9.heap.size w9 V9 := by rw [← hW]; exact (((Below.refl _ _).alloc (by first | (simp; done) | (simp; omega) | omega) _).alloc (by first | (simp; done) | (simp; omega) | omega) _)
  have az : V9.heap.size = w9.heap.size + 2 := by rw [← hW]; simp
  have NW2 := Lib.hid (show Blk V9 (w9.heap.size) 26 #[.int .i64 pM, .slice A4 mt c4, .int .i64 aM, .int .i64 bt, .int .i64 sM, .int .i64 gt] by rw [← hW]; exact ((Below.heap_alloc _ _ _ (by first | (simp; done) | (simp; omega))).trans (Blk.new _ _ _)))
  have NF2 := Lib.hid (show Blk V9 (w9.heap.size + 1) 30 #[.int .i64 f0, .int .i64 f1, .int .i64 f2, .int .i64 f3, .int .i64 f4] by rw [← hW]; exact ((show w9.heap.size + 1 = ((w9.alloc _)).heap.size by simp) ▸ Blk.new _ _ _))
  have AZV9 := Lib.hid az
  clear az
  have sz13 := hb.size
  have B13 := Lib.hid (below_chain B12.out hb)
  have XL_13 := Lib.hid (XL_12.out.below hb)
  have X1_13 := Lib.hid (X1_12.out.below hb)
  have XM_13 := Lib.hid (XM_12.out.below hb)
  have X3_13 := Lib.hid (X3_12.out.below hb)
  have X4_13 := Lib.hid (X4_12.out.below hb)
  have L0_13 := Lib.hid (L0_12.out.below hb)
  have L1_13 := Lib.hid (L1_12.out.below hb)
  have M0_13 := Lib.hid (M0_12.out.below hb)
  have Y0_13 := Lib.hid (Y0_12.out.below hb)
  have F1_13 := Lib.hid (F1_12.out.below hb)
  clear hb B12 XL_12 X1_12 XM_12 X3_12 X4_12 L0_12 L1_12 M0_12 Y0_12 F1_12
  have W2_13 := NW2
  clear NW2
  have ltW2 : w9.heap.size < V9.heap.size := W2_13.out.lt
  have F2_13 := NF2
  clear NF2
  have ltF2 : w9.heap.size + 1 < V9.heap.size := F2_13.out.lt
  go_wp2_with fail
  clear hW
  refine (drawBack_any _ a0 len0 cap0 hlen (HC.out.below B13.out)).mono ?_
  rintro e w10 ⟨pN, aN, bN, sN, gN, AN, nN, cN, zsN, hgot, rfl, hb⟩
  obtain ⟨hlN, hnN, habN, hgbN, ho⟩ := hgot
  obtain ⟨A9, c9, he, rwN⟩ := row_of ho
  simp only [Value.slice.injEq, true_and] at he
  obtain ⟨rfl, rfl⟩ := he
  have HLN := Lib.hid hlN
  clear hlN ho
  have sz14 := hb.size
  have B14 := Lib.hid (below_chain B13.out hb)
  have XL_14 := Lib.hid (XL_13.out.below hb)
  have X1_14 := Lib.hid (X1_13.out.below hb)
  have XM_14 := Lib.hid (XM_13.out.below hb)
  have X3_14 := Lib.hid (X3_13.out.below hb)
  have X4_14 := Lib.hid (X4_13.out.below hb)
  have L0_14 := Lib.hid (L0_13.out.below hb)
  have L1_14 := Lib.hid (L1_13.out.below hb)
  have M0_14 := Lib.hid (M0_13.out.below hb)
  have Y0_14 := Lib.hid (Y0_13.out.below hb)
  have F1_14 := Lib.hid (F1_13.out.below hb)
  have W2_14 := Lib.hid (W2_13.out.below hb)
  have F2_14 := Lib.hid (F2_13.out.below hb)
  clear hb B13 XL_13 X1_13 XM_13 X3_13 X4_13 L0_13 L1_13 M0_13 Y0_13 F1_13 W2_13 F2_13
  have XN_14 := Lib.hid rwN
  clear rwN
  obtain ⟨V10, hW⟩ : ∃ z, (w10.alloc (.cells #[.int .i64 pN, .slice AN nN cN, .int .i64 aN, .int .i64 bN, .int .i64 sN, .int .i64 gN] 26)) = z := ⟨_, rfl⟩
  have hb : Below w10.heap.size w10 V10 := by rw [← hW]; exact ((Below.refl _ _).alloc (by first | (simp; done) | (simp; omega) | omega) _)
  have az : V10.heap.size = w10.heap.size + 1 := by rw [← hW]; simp
  have NN0 := Lib.hid (show Blk V10 (w10.heap.size) 26 #[.int .i64 pN, .slice AN nN cN, .int .i64 aN, .int .i64 bN, .int .i64 sN, .int .i64 gN] by rw [← hW]; exact (Blk.new _ _ _))
  have AZV10 := Lib.hid az
  clear az
  have sz15 := hb.size
  have B15 := Lib.hid (below_chain B14.out hb)
  have XL_15 := Lib.hid (XL_14.out.below hb)
  have X1_15 := Lib.hid (X1_14.out.below hb)
  have XM_15 := Lib.hid (XM_14.out.below hb)
  have X3_15 := Lib.hid (X3_14.out.below hb)
  have X4_15 := Lib.hid (X4_14.out.below hb)
  have XN_15 := Lib.hid (XN_14.out.below hb)
  have L0_15 := Lib.hid (L0_14.out.below hb)
  have L1_15 := Lib.hid (L1_14.out.below hb)
  have M0_15 := Lib.hid (M0_14.out.below hb)
  have Y0_15 := Lib.hid (Y0_14.out.below hb)
  have F1_15 := Lib.hid (F1_14.out.below hb)
  have W2_15 := Lib.hid (W2_14.out.below hb)
  have F2_15 := Lib.hid (F2_14.out.below hb)
  clear hb B14 XL_14 X1_14 XM_14 X3_14 X4_14 XN_14 L0_14 L1_14 M0_14 Y0_14 F1_14 W2_14 F2_14
  have N0_15 := NN0
  clear NN0
  have ltN0 : w10.heap.size < V10.heap.size := N0_15.out.lt
  obtain ⟨r3, hr3⟩ : ∃ r, backOk pN aN bN sN gN nN zsN = r := ⟨_, rfl⟩
  obtain ⟨an, han⟩ : ∃ z, turnI r3 aN 1 = z := ⟨_, rfl⟩
  obtain ⟨bn, hbn⟩ : ∃ z, turnI r3 bN (-1) = z := ⟨_, rfl⟩
  have NN := Lib.hid XN_15.out.nil
  have EB1 := Lib.hid (show ∀ W, Rcs W AN zsN → Calls Try.prog 20 #[.agg #[.int .i64 pN, .slice AN nN cN, .int .i64 aN, .int .i64 bN, .int .i64 sN, .int .i64 gN]] W fun e w' => ∃ A' c', e = .returned (.tuple #[.agg #[.int .i64 pN, .slice A' nN c', .int .i64 an, .int .i64 bn, .int .i64 sN, .int .i64 gN], .bool r3]) ∧ w'.ownsRow W.heap.size 30 5 (.slice A' nN c') nN (rcCells zsN) ∧ Below W.heap.size W w' from fun W h => by rw [← han, ← hbn]; exact implBack_any nN zsN HLN.out AN cN NN.out pN aN bN sN gN (by omega) W h (by omega) hr3)
  have EB2 := Lib.hid (show ∀ W, Rcs W AN zsN → Calls Try.prog 21 #[.agg #[.int .i64 pN, .slice AN nN cN, .int .i64 aN, .int .i64 bN, .int .i64 sN, .int .i64 gN]] W fun e w' => ∃ A' c', e = .returned (.tuple #[.agg #[.int .i64 pN, .slice A' nN c', .int .i64 an, .int .i64 bn, .int .i64 sN, .int .i64 gN], .bool r3]) ∧ w'.ownsRow W.heap.size 30 5 (.slice A' nN c') nN (rcCells zsN) ∧ Below W.heap.size W w' from fun W h => by rw [← han, ← hbn]; exact specBack_any nN zsN HLN.out AN cN NN.out pN aN bN sN gN W h (by omega) hr3)
  have OKN := Lib.hid (show r3 = true → okLk pN an bn sN gN (nN : Int) zsN = true by rintro rfl; exact back_ok (by omega) hr3 han hbn)
  clear hr3 han hbn
  have xN00 : V10.cell? ⟨w10.heap.size, 0, none⟩ = some (.int .i64 pN) := by rw [N0_15.out.cell]; rfl
  have xN01 : V10.cell? ⟨w10.heap.size, 1, none⟩ = some (.slice AN nN cN) := by rw [N0_15.out.cell]; rfl
  have xN02 : V10.cell? ⟨w10.heap.size, 2, none⟩ = some (.int .i64 aN) := by rw [N0_15.out.cell]; rfl
  have xN03 : V10.cell? ⟨w10.heap.size, 3, none⟩ = some (.int .i64 bN) := by rw [N0_15.out.cell]; rfl
  have xN04 : V10.cell? ⟨w10.heap.size, 4, none⟩ = some (.int .i64 sN) := by rw [N0_15.out.cell]; rfl
  have xN05 : V10.cell? ⟨w10.heap.size, 5, none⟩ = some (.int .i64 gN) := by rw [N0_15.out.cell]; rfl
  go_wp2_with fail
  clear hW xN00 xN01 xN02 xN03 xN04 xN05
  refine (EB1.out _ XN_15.out.rc).mono ?_
  rintro e w11 ⟨A5, c5, rfl, o5, hb⟩
  obtain ⟨A9, c9, he, rw5⟩ := row_of o5
  simp only [Value.slice.injEq, true_and] at he
  obtain ⟨rfl, rfl⟩ := he
  clear o5
  have sz16 := hb.size
  have B16 := Lib.hid (below_chain B15.out hb)
  have XL_16 := Lib.hid (XL_15.out.below hb)
  have X1_16 := Lib.hid (X1_15.out.below hb)
  have XM_16 := Lib.hid (XM_15.out.below hb)
  have X3_16 := Lib.hid (X3_15.out.below hb)
  have X4_16 := Lib.hid (X4_15.out.below hb)
  have XN_16 := Lib.hid (XN_15.out.below hb)
  have L0_16 := Lib.hid (L0_15.out.below hb)
  have L1_16 := Lib.hid (L1_15.out.below hb)
  have M0_16 := Lib.hid (M0_15.out.below hb)
  have Y0_16 := Lib.hid (Y0_15.out.below hb)
  have F1_16 := Lib.hid (F1_15.out.below hb)
  have W2_16 := Lib.hid (W2_15.out.below hb)
  have F2_16 := Lib.hid (F2_15.out.below hb)
  have N0_16 := Lib.hid (N0_15.out.below hb)
  clear hb B15 XL_15 X1_15 XM_15 X3_15 X4_15 XN_15 L0_15 L1_15 M0_15 Y0_15 F1_15 W2_15 F2_15 N0_15
  have X5_16 := Lib.hid rw5
  clear rw5
  obtain ⟨V11, hW⟩ : ∃ z, (w11.alloc (.cells #[.int .i64 pN, .slice A5 nN c5, .int .i64 an, .int .i64 bn, .int .i64 sN, .int .i64 gN] 26)) = z := ⟨_, rfl⟩
  have hb : Below w11.heap.size w11 V11 := by rw [← hW]; exact ((Below.refl _ _).alloc (by first | (simp; done) | (simp; omega) | omega) _)
  have az : V11.heap.size = w11.heap.size + 1 := by rw [← hW]; simp
  have NZ0 := Lib.hid (show Blk V11 (w11.heap.size) 26 #[.int .i64 pN, .slice A5 nN c5, .int .i64 an, .int .i64 bn, .int .i64 sN, .int .i64 gN] by rw [← hW]; exact (Blk.new _ _ _))
  have AZV11 := Lib.hid az
  clear az
  have sz17 := hb.size
  have B17 := Lib.hid (below_chain B16.out hb)
  have XL_17 := Lib.hid (XL_16.out.below hb)
  have X1_17 := Lib.hid (X1_16.out.below hb)
  have XM_17 := Lib.hid (XM_16.out.below hb)
  have X3_17 := Lib.hid (X3_16.out.below hb)
  have X4_17 := Lib.hid (X4_16.out.below hb)
  have XN_17 := Lib.hid (XN_16.out.below hb)
  have X5_17 := Lib.hid (X5_16.out.below hb)
  have L0_17 := Lib.hid (L0_16.out.below hb)
  have L1_17 := Lib.hid (L1_16.out.below hb)
  have M0_17 := Lib.hid (M0_16.out.below hb)
  have Y0_17 := Lib.hid (Y0_16.out.below hb)
  have F1_17 := Lib.hid (F1_16.out.below hb)
  have W2_17 := Lib.hid (W2_16.out.below hb)
  have F2_17 := Lib.hid (F2_16.out.below hb)
  have N0_17 := Lib.hid (N0_16.out.below hb)
  clear hb B16 XL_16 X1_16 XM_16 X3_16 X4_16 XN_16 X5_16 L0_16 L1_16 M0_16 Y0_16 F1_16 W2_16 F2_16 N0_16
  have Z0_17 := NZ0
  clear NZ0
  have ltZ0 : w11.heap.size < V11.heap.size := Z0_17.out.lt
  have xN00 : V11.cell? ⟨w10.heap.size, 0, none⟩ = some (.int .i64 pN) := by rw [N0_17.out.cell]; rfl
  have xN01 : V11.cell? ⟨w10.heap.size, 1, none⟩ = some (.slice AN nN cN) := by rw [N0_17.out.cell]; rfl
  have xN02 : V11.cell? ⟨w10.heap.size, 2, none⟩ = some (.int .i64 aN) := by rw [N0_17.out.cell]; rfl
  have xN03 : V11.cell? ⟨w10.heap.size, 3, none⟩ = some (.int .i64 bN) := by rw [N0_17.out.cell]; rfl
  have xN04 : V11.cell? ⟨w10.heap.size, 4, none⟩ = some (.int .i64 sN) := by rw [N0_17.out.cell]; rfl
  have xN05 : V11.cell? ⟨w10.heap.size, 5, none⟩ = some (.int .i64 gN) := by rw [N0_17.out.cell]; rfl
  go_wp2_with fail
  clear hW xN00 xN01 xN02 xN03 xN04 xN05
  refine (EB2.out _ XN_17.out.rc).mono ?_
  rintro e w12 ⟨A6, c6, rfl, o6, hb⟩
  obtain ⟨A9, c9, he, rw6⟩ := row_of o6
  simp only [Value.slice.injEq, true_and] at he
  obtain ⟨rfl, rfl⟩ := he
  clear o6
  have sz18 := hb.size
  have B18 := Lib.hid (below_chain B17.out hb)
  have XL_18 := Lib.hid (XL_17.out.below hb)
  have X1_18 := Lib.hid (X1_17.out.below hb)
  have XM_18 := Lib.hid (XM_17.out.below hb)
  have X3_18 := Lib.hid (X3_17.out.below hb)
  have X4_18 := Lib.hid (X4_17.out.below hb)
  have XN_18 := Lib.hid (XN_17.out.below hb)
  have X5_18 := Lib.hid (X5_17.out.below hb)
  have L0_18 := Lib.hid (L0_17.out.below hb)
  have L1_18 := Lib.hid (L1_17.out.below hb)
  have M0_18 := Lib.hid (M0_17.out.below hb)
  have Y0_18 := Lib.hid (Y0_17.out.below hb)
  have F1_18 := Lib.hid (F1_17.out.below hb)
  have W2_18 := Lib.hid (W2_17.out.below hb)
  have F2_18 := Lib.hid (F2_17.out.below hb)
  have N0_18 := Lib.hid (N0_17.out.below hb)
  have Z0_18 := Lib.hid (Z0_17.out.below hb)
  clear hb B17 XL_17 X1_17 XM_17 X3_17 X4_17 XN_17 X5_17 L0_17 L1_17 M0_17 Y0_17 F1_17 W2_17 F2_17 N0_17 Z0_17
  have X6_18 := Lib.hid rw6
  clear rw6
  clear EB1 EB2
  obtain ⟨V12, hW⟩ : ∃ z, (w12.alloc (.cells #[.int .i64 pN, .slice A6 nN c6, .int .i64 an, .int .i64 bn, .int .i64 sN, .int .i64 gN] 26)) = z := ⟨_, rfl⟩
  have hb : Below w12.heap.size w12 V12 := by rw [← hW]; exact ((Below.refl _ _).alloc (by first | (simp; done) | (simp; omega) | omega) _)
  have az : V12.heap.size = w12.heap.size + 1 := by rw [← hW]; simp
  have NW3 := Lib.hid (show Blk V12 (w12.heap.size) 26 #[.int .i64 pN, .slice A6 nN c6, .int .i64 an, .int .i64 bn, .int .i64 sN, .int .i64 gN] by rw [← hW]; exact (Blk.new _ _ _))
  have AZV12 := Lib.hid az
  clear az
  have sz19 := hb.size
  have B19 := Lib.hid (below_chain B18.out hb)
  have XL_19 := Lib.hid (XL_18.out.below hb)
  have X1_19 := Lib.hid (X1_18.out.below hb)
  have XM_19 := Lib.hid (XM_18.out.below hb)
  have X3_19 := Lib.hid (X3_18.out.below hb)
  have X4_19 := Lib.hid (X4_18.out.below hb)
  have XN_19 := Lib.hid (XN_18.out.below hb)
  have X5_19 := Lib.hid (X5_18.out.below hb)
  have X6_19 := Lib.hid (X6_18.out.below hb)
  have L0_19 := Lib.hid (L0_18.out.below hb)
  have L1_19 := Lib.hid (L1_18.out.below hb)
  have M0_19 := Lib.hid (M0_18.out.below hb)
  have Y0_19 := Lib.hid (Y0_18.out.below hb)
  have F1_19 := Lib.hid (F1_18.out.below hb)
  have W2_19 := Lib.hid (W2_18.out.below hb)
  have F2_19 := Lib.hid (F2_18.out.below hb)
  have N0_19 := Lib.hid (N0_18.out.below hb)
  have Z0_19 := Lib.hid (Z0_18.out.below hb)
  clear hb B18 XL_18 X1_18 XM_18 X3_18 X4_18 XN_18 X5_18 X6_18 L0_18 L1_18 M0_18 Y0_18 F1_18 W2_18 F2_18 N0_18 Z0_18
  have W3_19 := NW3
  clear NW3
  have ltW3 : w12.heap.size < V12.heap.size := W3_19.out.lt
  have n2 : (r2 != r2) = false := by simp
  have n3 : (r3 != r3) = false := by simp
  have xF10 : V12.cell? ⟨w8.heap.size + 1, 0, none⟩ = some (.int .i64 f0) := by rw [F1_19.out.cell]; rfl
  have xF11 : V12.cell? ⟨w8.heap.size + 1, 1, none⟩ = some (.int .i64 f1) := by rw [F1_19.out.cell]; rfl
  have xF12 : V12.cell? ⟨w8.heap.size + 1, 2, none⟩ = some (.int .i64 f2) := by rw [F1_19.out.cell]; rfl
  have xF13 : V12.cell? ⟨w8.heap.size + 1, 3, none⟩ = some (.int .i64 f3) := by rw [F1_19.out.cell]; rfl
  have xF14 : V12.cell? ⟨w8.heap.size + 1, 4, none⟩ = some (.int .i64 f4) := by rw [F1_19.out.cell]; rfl
  have xF20 : V12.cell? ⟨w9.heap.size + 1, 0, none⟩ = some (.int .i64 f0) := by rw [F2_19.out.cell]; rfl
  have xF21 : V12.cell? ⟨w9.heap.size + 1, 1, none⟩ = some (.int .i64 f1) := by rw [F2_19.out.cell]; rfl
  have xF22 : V12.cell? ⟨w9.heap.size + 1, 2, none⟩ = some (.int .i64 f2) := by rw [F2_19.out.cell]; rfl
  have xF23 : V12.cell? ⟨w9.heap.size + 1, 3, none⟩ = some (.int .i64 f3) := by rw [F2_19.out.cell]; rfl
  have xF24 : V12.cell? ⟨w9.heap.size + 1, 4, none⟩ = some (.int .i64 f4) := by rw [F2_19.out.cell]; rfl
  have xY00 : V12.cell? ⟨w8.heap.size, 0, none⟩ = some (.int .i64 pM) := by rw [Y0_19.out.cell]; rfl
  have xY01 : V12.cell? ⟨w8.heap.size, 1, none⟩ = some (.slice A3 mt c3) := by rw [Y0_19.out.cell]; rfl
  have xY02 : V12.cell? ⟨w8.heap.size, 2, none⟩ = some (.int .i64 aM) := by rw [Y0_19.out.cell]; rfl
  have xY03 : V12.cell? ⟨w8.heap.size, 3, none⟩ = some (.int .i64 bt) := by rw [Y0_19.out.cell]; rfl
  have xY04 : V12.cell? ⟨w8.heap.size, 4, none⟩ = some (.int .i64 sM) := by rw [Y0_19.out.cell]; rfl
  have xY05 : V12.cell? ⟨w8.heap.size, 5, none⟩ = some (.int .i64 gt) := by rw [Y0_19.out.cell]; rfl
  have xW20 : V12.cell? ⟨w9.heap.size, 0, none⟩ = some (.int .i64 pM) := by rw [W2_19.out.cell]; rfl
  have xW21 : V12.cell? ⟨w9.heap.size, 1, none⟩ = some (.slice A4 mt c4) := by rw [W2_19.out.cell]; rfl
  have xW22 : V12.cell? ⟨w9.heap.size, 2, none⟩ = some (.int .i64 aM) := by rw [W2_19.out.cell]; rfl
  have xW23 : V12.cell? ⟨w9.heap.size, 3, none⟩ = some (.int .i64 bt) := by rw [W2_19.out.cell]; rfl
  have xW24 : V12.cell? ⟨w9.heap.size, 4, none⟩ = some (.int .i64 sM) := by rw [W2_19.out.cell]; rfl
  have xW25 : V12.cell? ⟨w9.heap.size, 5, none⟩ = some (.int .i64 gt) := by rw [W2_19.out.cell]; rfl
  go_wp2_with fail
  clear hW xF10 xF11 xF12 xF13 xF14 xF20 xF21 xF22 xF23 xF24 xY00 xY01 xY02 xY03 xY04 xY05 xW20 xW21 xW22 xW23 xW24 xW25
  refine ((show Calls Try.prog 13 #[.agg #[.int .i64 pM, .slice A3 mt c3, .int .i64 aM, .int .i64 bt, .int .i64 sM, .int .i64 gt], .agg #[.int .i64 pM, .slice A4 mt c4, .int .i64 aM, .int .i64 bt, .int .i64 sM, .int .i64 gt]] V12 fun e w' => e = .returned (.bool true) ∧ Below V12.heap.size V12 w' by have k := lawSame_any mt mt ts ts HMT.out HMT.out A3 A4 c3 c4 pM aM bt sM gt pM aM bt sM gt _ X3_19.out.rc X4_19.out.rc (by omega); rw [sameLk_self] at k; exact k)).mono ?_
  rintro e w13 ⟨rfl, hb⟩
  have sz20 := hb.size
  have B20 := Lib.hid (below_chain B19.out hb)
  have XL_20 := Lib.hid (XL_19.out.below hb)
  have X1_20 := Lib.hid (X1_19.out.below hb)
  have XM_20 := Lib.hid (XM_19.out.below hb)
  have X3_20 := Lib.hid (X3_19.out.below hb)
  have X4_20 := Lib.hid (X4_19.out.below hb)
  have XN_20 := Lib.hid (XN_19.out.below hb)
  have X5_20 := Lib.hid (X5_19.out.below hb)
  have X6_20 := Lib.hid (X6_19.out.below hb)
  have L0_20 := Lib.hid (L0_19.out.below hb)
  have L1_20 := Lib.hid (L1_19.out.below hb)
  have M0_20 := Lib.hid (M0_19.out.below hb)
  have Y0_20 := Lib.hid (Y0_19.out.below hb)
  have F1_20 := Lib.hid (F1_19.out.below hb)
  have W2_20 := Lib.hid (W2_19.out.below hb)
  have F2_20 := Lib.hid (F2_19.out.below hb)
  have N0_20 := Lib.hid (N0_19.out.below hb)
  have Z0_20 := Lib.hid (Z0_19.out.below hb)
  have W3_20 := Lib.hid (W3_19.out.below hb)
  clear hb B19 XL_19 X1_19 XM_19 X3_19 X4_19 XN_19 X5_19 X6_19 L0_19 L1_19 M0_19 Y0_19 F1_19 W2_19 F2_19 N0_19 Z0_19 W3_19
  clear W2_20
  clear F1_20
  clear F2_20
  clear X4_20
  have xZ00 : w13.cell? ⟨w11.heap.size, 0, none⟩ = some (.int .i64 pN) := by rw [Z0_20.out.cell]; rfl
  have xZ01 : w13.cell? ⟨w11.heap.size, 1, none⟩ = some (.slice A5 nN c5) := by rw [Z0_20.out.cell]; rfl
  have xZ02 : w13.cell? ⟨w11.heap.size, 2, none⟩ = some (.int .i64 an) := by rw [Z0_20.out.cell]; rfl
  have xZ03 : w13.cell? ⟨w11.heap.size, 3, none⟩ = some (.int .i64 bn) := by rw [Z0_20.out.cell]; rfl
  have xZ04 : w13.cell? ⟨w11.heap.size, 4, none⟩ = some (.int .i64 sN) := by rw [Z0_20.out.cell]; rfl
  have xZ05 : w13.cell? ⟨w11.heap.size, 5, none⟩ = some (.int .i64 gN) := by rw [Z0_20.out.cell]; rfl
  have xW30 : w13.cell? ⟨w12.heap.size, 0, none⟩ = some (.int .i64 pN) := by rw [W3_20.out.cell]; rfl
  have xW31 : w13.cell? ⟨w12.heap.size, 1, none⟩ = some (.slice A6 nN c6) := by rw [W3_20.out.cell]; rfl
  have xW32 : w13.cell? ⟨w12.heap.size, 2, none⟩ = some (.int .i64 an) := by rw [W3_20.out.cell]; rfl
  have xW33 : w13.cell? ⟨w12.heap.size, 3, none⟩ = some (.int .i64 bn) := by rw [W3_20.out.cell]; rfl
  have xW34 : w13.cell? ⟨w12.heap.size, 4, none⟩ = some (.int .i64 sN) := by rw [W3_20.out.cell]; rfl
  have xW35 : w13.cell? ⟨w12.heap.size, 5, none⟩ = some (.int .i64 gN) := by rw [W3_20.out.cell]; rfl
  go_wp2_with fail
  clear xZ00 xZ01 xZ02 xZ03 xZ04 xZ05 xW30 xW31 xW32 xW33 xW34 xW35
  refine ((show Calls Try.prog 13 #[.agg #[.int .i64 pN, .slice A5 nN c5, .int .i64 an, .int .i64 bn, .int .i64 sN, .int .i64 gN], .agg #[.int .i64 pN, .slice A6 nN c6, .int .i64 an, .int .i64 bn, .int .i64 sN, .int .i64 gN]] w13 fun e w' => e = .returned (.bool true) ∧ Below w13.heap.size w13 w' by have k := lawSame_any nN nN zsN zsN HLN.out HLN.out A5 A6 c5 c6 pN an bn sN gN pN an bn sN gN _ X5_20.out.rc X6_20.out.rc (by omega); rw [sameLk_self] at k; exact k)).mono ?_
  rintro e w14 ⟨rfl, hb⟩
  have sz21 := hb.size
  have B21 := Lib.hid (below_chain B20.out hb)
  have XL_21 := Lib.hid (XL_20.out.below hb)
  have X1_21 := Lib.hid (X1_20.out.below hb)
  have XM_21 := Lib.hid (XM_20.out.below hb)
  have X3_21 := Lib.hid (X3_20.out.below hb)
  have XN_21 := Lib.hid (XN_20.out.below hb)
  have X5_21 := Lib.hid (X5_20.out.below hb)
  have X6_21 := Lib.hid (X6_20.out.below hb)
  have L0_21 := Lib.hid (L0_20.out.below hb)
  have L1_21 := Lib.hid (L1_20.out.below hb)
  have M0_21 := Lib.hid (M0_20.out.below hb)
  have Y0_21 := Lib.hid (Y0_20.out.below hb)
  have N0_21 := Lib.hid (N0_20.out.below hb)
  have Z0_21 := Lib.hid (Z0_20.out.below hb)
  have W3_21 := Lib.hid (W3_20.out.below hb)
  clear hb B20 XL_20 X1_20 XM_20 X3_20 XN_20 X5_20 X6_20 L0_20 L1_20 M0_20 Y0_20 N0_20 Z0_20 W3_20
  clear W3_21
  clear X6_21
  clear XN_21
  clear n2 n3
  go_upto_region 16 with fail
  go_cut [144] (fun t wx => t = .bool false ∧ Below w14.heap.size w14 wx)
  case first =>
    cases r2 with
    | false =>
      cases r3 with
      | false =>
        go_wp2_with fail
        go_meet
        exact ⟨rfl, Below.refl _ _⟩
      | true =>
        have z0 : w14.cell? ⟨w11.heap.size, 0, none⟩ = some (.int .i64 pN) := by rw [Z0_21.out.cell]; rfl
        have z1 : w14.cell? ⟨w11.heap.size, 1, none⟩ = some (.slice A5 nN c5) := by rw [Z0_21.out.cell]; rfl
        have z2 : w14.cell? ⟨w11.heap.size, 2, none⟩ = some (.int .i64 an) := by rw [Z0_21.out.cell]; rfl
        have z3 : w14.cell? ⟨w11.heap.size, 3, none⟩ = some (.int .i64 bn) := by rw [Z0_21.out.cell]; rfl
        have z4 : w14.cell? ⟨w11.heap.size, 4, none⟩ = some (.int .i64 sN) := by rw [Z0_21.out.cell]; rfl
        have z5 : w14.cell? ⟨w11.heap.size, 5, none⟩ = some (.int .i64 gN) := by rw [Z0_21.out.cell]; rfl
        go_wp2_with fail
        refine (specLkOk_any nN zsN HLN.out A5 c5 pN an bn sN gN _ X5_21.out.rc (by omega)).mono ?_
        rintro e wz ⟨rfl, hbz⟩
        rw [OKN.out (by trivial)]
        clear z0 z1 z2 z3 z4 z5
        go_wp2_with fail
        go_meet
        exact ⟨rfl, hbz⟩
    | true =>
      have hmq := (OKM.out (by trivial)).2
      have dq : ((mt : Int) != (nM : Int) - 1) = false := by simp; omega
      clear hmq
      have y0 : w14.cell? ⟨w8.heap.size, 0, none⟩ = some (.int .i64 pM) := by rw [Y0_21.out.cell]; rfl
      have y1 : w14.cell? ⟨w8.heap.size, 1, none⟩ = some (.slice A3 mt c3) := by rw [Y0_21.out.cell]; rfl
      have y2 : w14.cell? ⟨w8.heap.size, 2, none⟩ = some (.int .i64 aM) := by rw [Y0_21.out.cell]; rfl
      have y3 : w14.cell? ⟨w8.heap.size, 3, none⟩ = some (.int .i64 bt) := by rw [Y0_21.out.cell]; rfl
      have y4 : w14.cell? ⟨w8.heap.size, 4, none⟩ = some (.int .i64 sM) := by rw [Y0_21.out.cell]; rfl
      have y5 : w14.cell? ⟨w8.heap.size, 5, none⟩ = some (.int .i64 gt) := by rw [Y0_21.out.cell]; rfl
      go_wp2_with fail
      refine (specLkOk_any mt ts HMT.out A3 c3 pM aM bt sM gt _ X3_21.out.rc (by omega)).mono ?_
      rintro e wy ⟨rfl, hby⟩
      rw [(OKM.out (by trivial)).1]
      have HBY := Lib.hid hby
      clear y0 y1 y2 y3 y4 y5
      have m1 : wy.cell? ⟨w8.heap.size, 1, none⟩ = some (.slice A3 mt c3) := by rw [(Y0_21.out.below hby).cell]; rfl
      have m2 : wy.cell? ⟨w7.heap.size, 1, none⟩ = some (.slice AM nM cM) := by rw [(M0_21.out.below hby).cell]; rfl
      clear hby
      cases r3 with
      | false =>
        go_wp2_with fail
        go_meet
        exact ⟨rfl, HBY.out⟩
      | true =>
        have z0 : wy.cell? ⟨w11.heap.size, 0, none⟩ = some (.int .i64 pN) := by rw [(Z0_21.out.below HBY.out).cell]; rfl
        have z1 : wy.cell? ⟨w11.heap.size, 1, none⟩ = some (.slice A5 nN c5) := by rw [(Z0_21.out.below HBY.out).cell]; rfl
        have z2 : wy.cell? ⟨w11.heap.size, 2, none⟩ = some (.int .i64 an) := by rw [(Z0_21.out.below HBY.out).cell]; rfl
        have z3 : wy.cell? ⟨w11.heap.size, 3, none⟩ = some (.int .i64 bn) := by rw [(Z0_21.out.below HBY.out).cell]; rfl
        have z4 : wy.cell? ⟨w11.heap.size, 4, none⟩ = some (.int .i64 sN) := by rw [(Z0_21.out.below HBY.out).cell]; rfl
        have z5 : wy.cell? ⟨w11.heap.size, 5, none⟩ = some (.int .i64 gN) := by rw [(Z0_21.out.below HBY.out).cell]; rfl
        go_wp2_with fail
        refine (specLkOk_any nN zsN HLN.out A5 c5 pN an bn sN gN _ (X5_21.out.below HBY.out).rc (by omega)).mono ?_
        rintro e wz ⟨rfl, hbz⟩
        rw [OKN.out (by trivial)]
        clear z0 z1 z2 z3 z4 z5
        go_wp2_with fail
        go_meet
        exact ⟨rfl, below_chain HBY.out hbz⟩
  case rest =>
  obtain ⟨rfl, hb⟩ := hcut
  obtain ⟨y16, hwc⟩ : ∃ z, z = wc := ⟨_, rfl⟩
  subst hwc
  have sz22 := hb.size
  have B22 := Lib.hid (below_chain B21.out hb)
  have XL_22 := Lib.hid (XL_21.out.below hb)
  have X1_22 := Lib.hid (X1_21.out.below hb)
  have XM_22 := Lib.hid (XM_21.out.below hb)
  have X3_22 := Lib.hid (X3_21.out.below hb)
  have X5_22 := Lib.hid (X5_21.out.below hb)
  have L0_22 := Lib.hid (L0_21.out.below hb)
  have L1_22 := Lib.hid (L1_21.out.below hb)
  have M0_22 := Lib.hid (M0_21.out.below hb)
  have Y0_22 := Lib.hid (Y0_21.out.below hb)
  have N0_22 := Lib.hid (N0_21.out.below hb)
  have Z0_22 := Lib.hid (Z0_21.out.below hb)
  clear hb B21 XL_21 X1_21 XM_21 X3_21 X5_21 L0_21 L1_21 M0_21 Y0_21 N0_21 Z0_21
  clear Y0_22
  clear M0_22
  clear N0_22
  clear Z0_22
  clear X3_22
  clear X5_22
  clear XM_22
  go_wp2_with fail
  refine (drawFlight_any _ a0 len0 cap0 hlen (HC.out.below B22.out)).mono ?_
  rintro e w17 ⟨pF, aF, bF, sF, gF, AF, nF, cF, zsF, eF, hgot, rfl, hb⟩
  obtain ⟨hlF, hnF, habF, hgbF, ho⟩ := hgot
  obtain ⟨A9, c9, he, rwF⟩ := row_of ho
  simp only [Value.slice.injEq, true_and] at he
  obtain ⟨rfl, rfl⟩ := he
  have HLF := Lib.hid hlF
  clear hlF ho
  have sz23 := hb.size
  have B23 := Lib.hid (below_chain B22.out hb)
  have XL_23 := Lib.hid (XL_22.out.below hb)
  have X1_23 := Lib.hid (X1_22.out.below hb)
  have L0_23 := Lib.hid (L0_22.out.below hb)
  have L1_23 := Lib.hid (L1_22.out.below hb)
  clear hb B22 XL_22 X1_22 L0_22 L1_22
  have XF_23 := Lib.hid rwF
  clear rwF
  obtain ⟨V17, hW⟩ : ∃ z, (w17.alloc (.cells #[.int .i64 pF, .slice AF nF cF, .int .i64 aF, .int .i64 bF, .int .i64 sF, .int .i64 gF] 26)) = z := ⟨_, rfl⟩
  have hb : Below w17.heap.size w17 V17 := by rw [← hW]; exact ((Below.refl _ _).alloc (by first | (simp; done) | (simp; omega) | omega) _)
  have az : V17.heap.size = w17.heap.size + 1 := by rw [← hW]; simp
  have NAB := Lib.hid (show Blk V17 (w17.heap.size) 26 #[.int .i64 pF, .slice AF nF cF, .int .i64 aF, .int .i64 bF, .int .i64 sF, .int .i64 gF] by rw [← hW]; exact (Blk.new _ _ _))
  have AZV17 := Lib.hid az
  clear az
  have sz24 := hb.size
  have B24 := Lib.hid (below_chain B23.out hb)
  have XL_24 := Lib.hid (XL_23.out.below hb)
  have X1_24 := Lib.hid (X1_23.out.below hb)
  have XF_24 := Lib.hid (XF_23.out.below hb)
  have L0_24 := Lib.hid (L0_23.out.below hb)
  have L1_24 := Lib.hid (L1_23.out.below hb)
  clear hb B23 XL_23 X1_23 XF_23 L0_23 L1_23
  have AB_24 := NAB
  clear NAB
  have ltAB : w17.heap.size < V17.heap.size := AB_24.out.lt
  go_wp2_with fail
  clear hW
  refine (drawSame_any _ a0 len0 cap0 hlen (HC.out.below B24.out)).mono ?_
  rintro e w18 ⟨pG, aG, bG, sG, gG, AG, nG, cG, zsG, pH, aH, bH, sH, gH, AH, nH, cH, zsH, hgot, hgot2, rfl, hb⟩
  obtain ⟨hlG, hnG, habG, hgbG, ho⟩ := hgot
  obtain ⟨A9, c9, he, rwG⟩ := row_of ho
  simp only [Value.slice.injEq, true_and] at he
  obtain ⟨rfl, rfl⟩ := he
  have HLG := Lib.hid hlG
  clear hlG ho
  obtain ⟨hlH, hnH, habH, hgbH, ho⟩ := hgot2
  obtain ⟨A9, c9, he, rwH⟩ := row_of ho
  simp only [Value.slice.injEq, true_and] at he
  obtain ⟨rfl, rfl⟩ := he
  have HLH := Lib.hid hlH
  clear hlH ho
  have sz25 := hb.size
  have B25 := Lib.hid (below_chain B24.out hb)
  have XL_25 := Lib.hid (XL_24.out.below hb)
  have X1_25 := Lib.hid (X1_24.out.below hb)
  have XF_25 := Lib.hid (XF_24.out.below hb)
  have L0_25 := Lib.hid (L0_24.out.below hb)
  have L1_25 := Lib.hid (L1_24.out.below hb)
  have AB_25 := Lib.hid (AB_24.out.below hb)
  clear hb B24 XL_24 X1_24 XF_24 L0_24 L1_24 AB_24
  have XG_25 := Lib.hid rwG
  clear rwG
  have XH_25 := Lib.hid rwH
  clear rwH
  obtain ⟨V18, hW⟩ : ∃ z, ((w18.alloc (.cells #[.int .i64 pG, .slice AG nG cG, .int .i64 aG, .int .i64 bG, .int .i64 sG, .int .i64 gG] 26)).alloc (.cells #[.int .i64 pH, .slice AH nH cH, .int .i64 aH, .int .i64 bH, .int .i64 sH, .int .i64 gH] 26)) = z := ⟨_, rfl⟩
  have hb : Below w18.heap.size w18 V18 := by rw [← hW]; exact (((Below.refl _ _).alloc (by first | (simp; done) | (simp; omega) | omega) _).alloc (by first | (simp; done) | (simp; omega) | omega) _)
  have az : V18.heap.size = w18.heap.size + 2 := by rw [← hW]; simp
  have NGB := Lib.hid (show Blk V18 (w18.heap.size) 26 #[.int .i64 pG, .slice AG nG cG, .int .i64 aG, .int .i64 bG, .int .i64 sG, .int .i64 gG] by rw [← hW]; exact ((Below.heap_alloc _ _ _ (by first | (simp; done) | (simp; omega))).trans (Blk.new _ _ _)))
  have NHB := Lib.hid (show Blk V18 (w18.heap.size + 1) 26 #[.int .i64 pH, .slice AH nH cH, .int .i64 aH, .int .i64 bH, .int .i64 sH, .int .i64 gH] by rw [← hW]; exact ((show w18.heap.size + 1 = ((w18.alloc _)).heap.size by simp) ▸ Blk.new _ _ _))
  have AZV18 := Lib.hid az
  clear az
  have sz26 := hb.size
  have B26 := Lib.hid (below_chain B25.out hb)
  have XL_26 := Lib.hid (XL_25.out.below hb)
  have X1_26 := Lib.hid (X1_25.out.below hb)
  have XF_26 := Lib.hid (XF_25.out.below hb)
  have XG_26 := Lib.hid (XG_25.out.below hb)
  have XH_26 := Lib.hid (XH_25.out.below hb)
  have L0_26 := Lib.hid (L0_25.out.below hb)
  have L1_26 := Lib.hid (L1_25.out.below hb)
  have AB_26 := Lib.hid (AB_25.out.below hb)
  clear hb B25 XL_25 X1_25 XF_25 XG_25 XH_25 L0_25 L1_25 AB_25
  have GB_26 := NGB
  clear NGB
  have ltGB : w18.heap.size < V18.heap.size := GB_26.out.lt
  have HB_26 := NHB
  clear NHB
  have ltHB : w18.heap.size + 1 < V18.heap.size := HB_26.out.lt
  have EN := Lib.hid (show ∀ W, Calls Try.prog 24 #[.int .i64 2] W fun e w' => e = .returned (.agg #[.int .i64 2, .slice none 0 0, .int .i64 2, .int .i64 y, .int .i64 y, .int .i64 y]) ∧ Below W.heap.size W w' from fun W => by rw [HY.out]; exact implNew_any 2 W)
  have EO := Lib.hid (show ∀ W, Calls Try.prog 11 #[.agg #[.int .i64 2, .slice none 0 0, .int .i64 2, .int .i64 y, .int .i64 y, .int .i64 y], .agg #[.int .i64 0, .int .i64 0, .int .i64 0, .int .i64 0, .int .i64 0]] W fun e w' => ∃ A' c', e = .returned (.tuple #[.agg #[.int .i64 2, .slice A' 1 c', .int .i64 1, .int .i64 y, .int .i64 1, .int .i64 y], .bool true]) ∧ w'.ownsRow W.heap.size 30 5 (.slice A' 1 c') 1 (rcCells [rc0]) ∧ Below W.heap.size W w' from fun W => by rw [HY.out]; exact implSend_any 0 [] rfl none 0 (fun _ => rfl) 2 2 0 0 0 0 0 0 0 0 (by omega) W (fun h => absurd h (by simp)) (by omega) one_ok rfl rfl)
  have EW := Lib.hid (show ∀ A c, (A = none → c = 0) → ∀ W, Rcs W A [rc0] → Calls Try.prog 11 #[.agg #[.int .i64 2, .slice A 1 c, .int .i64 1, .int .i64 y, .int .i64 1, .int .i64 y], .agg #[.int .i64 0, .int .i64 0, .int .i64 0, .int .i64 1, .int .i64 0]] W fun e w' => ∃ A' c', e = .returned (.tuple #[.agg #[.int .i64 2, .slice A' 2 c', .int .i64 y, .int .i64 y, .int .i64 2, .int .i64 y], .bool true]) ∧ w'.ownsRow W.heap.size 30 5 (.slice A' 2 c') 2 (rcCells [rc0, rc1]) ∧ Below W.heap.size W w' from fun A c hA W h => by rw [HY.out]; exact implSend_any 1 [rc0] rfl A c hA 2 1 0 1 0 0 0 0 1 0 (by omega) W h (by omega) two_ok rfl rfl)
  have EF := Lib.hid (show ∀ A c, (A = none → c = 0) → ∀ W, Rcs W A [rc0, rc1] → Calls Try.prog 11 #[.agg #[.int .i64 2, .slice A 2 c, .int .i64 y, .int .i64 y, .int .i64 2, .int .i64 y], .agg #[.int .i64 0, .int .i64 0, .int .i64 0, .int .i64 0, .int .i64 0]] W fun e w' => ∃ A' c', e = .returned (.tuple #[.agg #[.int .i64 2, .slice A' 2 c', .int .i64 y, .int .i64 y, .int .i64 2, .int .i64 y], .bool false]) ∧ w'.ownsRow W.heap.size 30 5 (.slice A' 2 c') 2 (rcCells [rc0, rc1]) ∧ Below W.heap.size W w' from fun A c hA W h => by rw [HY.out]; exact implSend_any 2 [rc0, rc1] rfl A c hA 2 0 0 2 0 0 0 0 0 0 (by omega) W h (by omega) full_no rfl rfl)
  have EL := Lib.hid (show ∀ A c, (A = none → c = 0) → ∀ W, Rcs W A [rc0, rc1] → Calls Try.prog 17 #[.agg #[.int .i64 2, .slice A 2 c, .int .i64 y, .int .i64 y, .int .i64 2, .int .i64 y]] W fun e w' => ∃ A' c', e = .returned (.tuple #[.agg #[.int .i64 2, .slice A' 1 c', .int .i64 y, .int .i64 1, .int .i64 2, .int .i64 1], .agg #[.int .i64 y, .int .i64 y, .int .i64 y, .int .i64 y, .int .i64 y], .bool true]) ∧ w'.ownsRow W.heap.size 30 5 (.slice A' 1 c') 1 (rcCells [rc1]) ∧ Below W.heap.size W w' from fun A c hA W h => by rw [HY.out]; exact implTake_any 2 [rc0, rc1] rfl A c hA 2 0 0 2 0 (by omega) W h (by omega) last_ok rfl rfl rfl)
  go_wp2_with fail
  clear hW
  refine (EN.out _).mono ?_
  rintro e w20 ⟨rfl, hb⟩
  have sz27 := hb.size
  have B27 := Lib.hid (below_chain B26.out hb)
  have XL_27 := Lib.hid (XL_26.out.below hb)
  have X1_27 := Lib.hid (X1_26.out.below hb)
  have XF_27 := Lib.hid (XF_26.out.below hb)
  have XG_27 := Lib.hid (XG_26.out.below hb)
  have XH_27 := Lib.hid (XH_26.out.below hb)
  have L0_27 := Lib.hid (L0_26.out.below hb)
  have L1_27 := Lib.hid (L1_26.out.below hb)
  have AB_27 := Lib.hid (AB_26.out.below hb)
  have GB_27 := Lib.hid (GB_26.out.below hb)
  have HB_27 := Lib.hid (HB_26.out.below hb)
  clear hb B26 XL_26 X1_26 XF_26 XG_26 XH_26 L0_26 L1_26 AB_26 GB_26 HB_26
  obtain ⟨V20, hW⟩ : ∃ z, (w20.alloc (.cells #[.int .i64 2, .slice none 0 0, .int .i64 2, .int .i64 y, .int .i64 y, .int .i64 y] 26)) = z := ⟨_, rfl⟩
  have hb : Below w20.heap.size w20 V20 := by rw [← hW]; exact ((Below.refl _ _).alloc (by first | (simp; done) | (simp; omega) | omega) _)
  have az : V20.heap.size = w20.heap.size + 1 := by rw [← hW]; simp
  have NFR := Lib.hid (show Blk V20 (w20.heap.size) 26 #[.int .i64 2, .slice none 0 0, .int .i64 2, .int .i64 y, .int .i64 y, .int .i64 y] by rw [← hW]; exact (Blk.new _ _ _))
  have AZV20 := Lib.hid az
  clear az
  have sz28 := hb.size
  have B28 := Lib.hid (below_chain B27.out hb)
  have XL_28 := Lib.hid (XL_27.out.below hb)
  have X1_28 := Lib.hid (X1_27.out.below hb)
  have XF_28 := Lib.hid (XF_27.out.below hb)
  have XG_28 := Lib.hid (XG_27.out.below hb)
  have XH_28 := Lib.hid (XH_27.out.below hb)
  have L0_28 := Lib.hid (L0_27.out.below hb)
  have L1_28 := Lib.hid (L1_27.out.below hb)
  have AB_28 := Lib.hid (AB_27.out.below hb)
  have GB_28 := Lib.hid (GB_27.out.below hb)
  have HB_28 := Lib.hid (HB_27.out.below hb)
  clear hb B27 XL_27 X1_27 XF_27 XG_27 XH_27 L0_27 L1_27 AB_27 GB_27 HB_27
  have FR_28 := NFR
  clear NFR
  have ltFR : w20.heap.size < V20.heap.size := FR_28.out.lt
  have xFR0 : V20.cell? ⟨w20.heap.size, 0, none⟩ = some (.int .i64 2) := by rw [FR_28.out.cell]; rfl
  have xFR1 : V20.cell? ⟨w20.heap.size, 1, none⟩ = some (.slice none 0 0) := by rw [FR_28.out.cell]; rfl
  have xFR2 : V20.cell? ⟨w20.heap.size, 2, none⟩ = some (.int .i64 2) := by rw [FR_28.out.cell]; rfl
  have xFR3 : V20.cell? ⟨w20.heap.size, 3, none⟩ = some (.int .i64 y) := by rw [FR_28.out.cell]; rfl
  have xFR4 : V20.cell? ⟨w20.heap.size, 4, none⟩ = some (.int .i64 y) := by rw [FR_28.out.cell]; rfl
  have xFR5 : V20.cell? ⟨w20.heap.size, 5, none⟩ = some (.int .i64 y) := by rw [FR_28.out.cell]; rfl
  go_wp2_with fail
  clear hW xFR0 xFR1 xFR2 xFR3 xFR4 xFR5
  refine (EO.out _).mono ?_
  rintro e w21 ⟨A7, c7, rfl, o7, hb⟩
  obtain ⟨A9, c9, he, rw7⟩ := row_of o7
  simp only [Value.slice.injEq, true_and] at he
  obtain ⟨rfl, rfl⟩ := he
  clear o7
  have sz29 := hb.size
  have B29 := Lib.hid (below_chain B28.out hb)
  have XL_29 := Lib.hid (XL_28.out.below hb)
  have X1_29 := Lib.hid (X1_28.out.below hb)
  have XF_29 := Lib.hid (XF_28.out.below hb)
  have XG_29 := Lib.hid (XG_28.out.below hb)
  have XH_29 := Lib.hid (XH_28.out.below hb)
  have L0_29 := Lib.hid (L0_28.out.below hb)
  have L1_29 := Lib.hid (L1_28.out.below hb)
  have AB_29 := Lib.hid (AB_28.out.below hb)
  have GB_29 := Lib.hid (GB_28.out.below hb)
  have HB_29 := Lib.hid (HB_28.out.below hb)
  have FR_29 := Lib.hid (FR_28.out.below hb)
  clear hb B28 XL_28 X1_28 XF_28 XG_28 XH_28 L0_28 L1_28 AB_28 GB_28 HB_28 FR_28
  have X7_29 := Lib.hid rw7
  clear rw7
  obtain ⟨V21, hW⟩ : ∃ z, (w21.alloc (.cells #[.int .i64 2, .slice A7 1 c7, .int .i64 1, .int .i64 y, .int .i64 1, .int .i64 y] 26)) = z := ⟨_, rfl⟩
  have hb : Below w21.heap.size w21 V21 := by rw [← hW]; exact ((Below.refl _ _).alloc (by first | (simp; done) | (simp; omega) | omega) _)
  have az : V21.heap.size = w21.heap.size + 1 := by rw [← hW]; simp
  have NON := Lib.hid (show Blk V21 (w21.heap.size) 26 #[.int .i64 2, .slice A7 1 c7, .int .i64 1, .int .i64 y, .int .i64 1, .int .i64 y] by rw [← hW]; exact (Blk.new _ _ _))
  have AZV21 := Lib.hid az
  clear az
  have sz30 := hb.size
  have B30 := Lib.hid (below_chain B29.out hb)
  have XL_30 := Lib.hid (XL_29.out.below hb)
  have X1_30 := Lib.hid (X1_29.out.below hb)
  have XF_30 := Lib.hid (XF_29.out.below hb)
  have XG_30 := Lib.hid (XG_29.out.below hb)
  have XH_30 := Lib.hid (XH_29.out.below hb)
  have X7_30 := Lib.hid (X7_29.out.below hb)
  have L0_30 := Lib.hid (L0_29.out.below hb)
  have L1_30 := Lib.hid (L1_29.out.below hb)
  have AB_30 := Lib.hid (AB_29.out.below hb)
  have GB_30 := Lib.hid (GB_29.out.below hb)
  have HB_30 := Lib.hid (HB_29.out.below hb)
  have FR_30 := Lib.hid (FR_29.out.below hb)
  clear hb B29 XL_29 X1_29 XF_29 XG_29 XH_29 X7_29 L0_29 L1_29 AB_29 GB_29 HB_29 FR_29
  have ON_30 := NON
  clear NON
  have ltON : w21.heap.size < V21.heap.size := ON_30.out.lt
  clear FR_30
  have xON0 : V21.cell? ⟨w21.heap.size, 0, none⟩ = some (.int .i64 2) := by rw [ON_30.out.cell]; rfl
  have xON1 : V21.cell? ⟨w21.heap.size, 1, none⟩ = some (.slice A7 1 c7) := by rw [ON_30.out.cell]; rfl
  have xON2 : V21.cell? ⟨w21.heap.size, 2, none⟩ = some (.int .i64 1) := by rw [ON_30.out.cell]; rfl
  have xON3 : V21.cell? ⟨w21.heap.size, 3, none⟩ = some (.int .i64 y) := by rw [ON_30.out.cell]; rfl
  have xON4 : V21.cell? ⟨w21.heap.size, 4, none⟩ = some (.int .i64 1) := by rw [ON_30.out.cell]; rfl
  have xON5 : V21.cell? ⟨w21.heap.size, 5, none⟩ = some (.int .i64 y) := by rw [ON_30.out.cell]; rfl
  go_wp2_with fail
  clear hW xON0 xON1 xON2 xON3 xON4 xON5
  refine (EW.out A7 c7 X7_30.out.nil _ X7_30.out.rc).mono ?_
  rintro e w22 ⟨A8, c8, rfl, o8, hb⟩
  obtain ⟨A9, c9, he, rw8⟩ := row_of o8
  simp only [Value.slice.injEq, true_and] at he
  obtain ⟨rfl, rfl⟩ := he
  clear o8
  have sz31 := hb.size
  have B31 := Lib.hid (below_chain B30.out hb)
  have XL_31 := Lib.hid (XL_30.out.below hb)
  have X1_31 := Lib.hid (X1_30.out.below hb)
  have XF_31 := Lib.hid (XF_30.out.below hb)
  have XG_31 := Lib.hid (XG_30.out.below hb)
  have XH_31 := Lib.hid (XH_30.out.below hb)
  have X7_31 := Lib.hid (X7_30.out.below hb)
  have L0_31 := Lib.hid (L0_30.out.below hb)
  have L1_31 := Lib.hid (L1_30.out.below hb)
  have AB_31 := Lib.hid (AB_30.out.below hb)
  have GB_31 := Lib.hid (GB_30.out.below hb)
  have HB_31 := Lib.hid (HB_30.out.below hb)
  have ON_31 := Lib.hid (ON_30.out.below hb)
  clear hb B30 XL_30 X1_30 XF_30 XG_30 XH_30 X7_30 L0_30 L1_30 AB_30 GB_30 HB_30 ON_30
  have X8_31 := Lib.hid rw8
  clear rw8
  obtain ⟨V22, hW⟩ : ∃ z, (w22.alloc (.cells #[.int .i64 2, .slice A8 2 c8, .int .i64 y, .int .i64 y, .int .i64 2, .int .i64 y] 26)) = z := ⟨_, rfl⟩
  have hb : Below w22.heap.size w22 V22 := by rw [← hW]; exact ((Below.refl _ _).alloc (by first | (simp; done) | (simp; omega) | omega) _)
  have az : V22.heap.size = w22.heap.size + 1 := by rw [← hW]; simp
  have NTW := Lib.hid (show Blk V22 (w22.heap.size) 26 #[.int .i64 2, .slice A8 2 c8, .int .i64 y, .int .i64 y, .int .i64 2, .int .i64 y] by rw [← hW]; exact (Blk.new _ _ _))
  have AZV22 := Lib.hid az
  clear az
  have sz32 := hb.size
  have B32 := Lib.hid (below_chain B31.out hb)
  have XL_32 := Lib.hid (XL_31.out.below hb)
  have X1_32 := Lib.hid (X1_31.out.below hb)
  have XF_32 := Lib.hid (XF_31.out.below hb)
  have XG_32 := Lib.hid (XG_31.out.below hb)
  have XH_32 := Lib.hid (XH_31.out.below hb)
  have X7_32 := Lib.hid (X7_31.out.below hb)
  have X8_32 := Lib.hid (X8_31.out.below hb)
  have L0_32 := Lib.hid (L0_31.out.below hb)
  have L1_32 := Lib.hid (L1_31.out.below hb)
  have AB_32 := Lib.hid (AB_31.out.below hb)
  have GB_32 := Lib.hid (GB_31.out.below hb)
  have HB_32 := Lib.hid (HB_31.out.below hb)
  have ON_32 := Lib.hid (ON_31.out.below hb)
  clear hb B31 XL_31 X1_31 XF_31 XG_31 XH_31 X7_31 X8_31 L0_31 L1_31 AB_31 GB_31 HB_31 ON_31
  have TW_32 := NTW
  clear NTW
  have ltTW : w22.heap.size < V22.heap.size := TW_32.out.lt
  clear ON_32
  clear X7_32
  have xTW0 : V22.cell? ⟨w22.heap.size, 0, none⟩ = some (.int .i64 2) := by rw [TW_32.out.cell]; rfl
  have xTW1 : V22.cell? ⟨w22.heap.size, 1, none⟩ = some (.slice A8 2 c8) := by rw [TW_32.out.cell]; rfl
  have xTW2 : V22.cell? ⟨w22.heap.size, 2, none⟩ = some (.int .i64 y) := by rw [TW_32.out.cell]; rfl
  have xTW3 : V22.cell? ⟨w22.heap.size, 3, none⟩ = some (.int .i64 y) := by rw [TW_32.out.cell]; rfl
  have xTW4 : V22.cell? ⟨w22.heap.size, 4, none⟩ = some (.int .i64 2) := by rw [TW_32.out.cell]; rfl
  have xTW5 : V22.cell? ⟨w22.heap.size, 5, none⟩ = some (.int .i64 y) := by rw [TW_32.out.cell]; rfl
  go_wp2_with fail
  clear hW xTW0 xTW1 xTW2 xTW3 xTW4 xTW5
  refine (EF.out A8 c8 X8_32.out.nil _ X8_32.out.rc).mono ?_
  rintro e w23 ⟨A9, c9, rfl, o9, hb⟩
  obtain ⟨A9, c9, he, rw9⟩ := row_of o9
  simp only [Value.slice.injEq, true_and] at he
  obtain ⟨rfl, rfl⟩ := he
  clear o9
  have sz33 := hb.size
  have B33 := Lib.hid (below_chain B32.out hb)
  have XL_33 := Lib.hid (XL_32.out.below hb)
  have X1_33 := Lib.hid (X1_32.out.below hb)
  have XF_33 := Lib.hid (XF_32.out.below hb)
  have XG_33 := Lib.hid (XG_32.out.below hb)
  have XH_33 := Lib.hid (XH_32.out.below hb)
  have X8_33 := Lib.hid (X8_32.out.below hb)
  have L0_33 := Lib.hid (L0_32.out.below hb)
  have L1_33 := Lib.hid (L1_32.out.below hb)
  have AB_33 := Lib.hid (AB_32.out.below hb)
  have GB_33 := Lib.hid (GB_32.out.below hb)
  have HB_33 := Lib.hid (HB_32.out.below hb)
  have TW_33 := Lib.hid (TW_32.out.below hb)
  clear hb B32 XL_32 X1_32 XF_32 XG_32 XH_32 X8_32 L0_32 L1_32 AB_32 GB_32 HB_32 TW_32
  have X9_33 := Lib.hid rw9
  clear rw9
  obtain ⟨V23, hW⟩ : ∃ z, (w23.alloc (.cells #[.int .i64 2, .slice A9 2 c9, .int .i64 y, .int .i64 y, .int .i64 2, .int .i64 y] 26)) = z := ⟨_, rfl⟩
  have hb : Below w23.heap.size w23 V23 := by rw [← hW]; exact ((Below.refl _ _).alloc (by first | (simp; done) | (simp; omega) | omega) _)
  have az : V23.heap.size = w23.heap.size + 1 := by rw [← hW]; simp
  have NFU := Lib.hid (show Blk V23 (w23.heap.size) 26 #[.int .i64 2, .slice A9 2 c9, .int .i64 y, .int .i64 y, .int .i64 2, .int .i64 y] by rw [← hW]; exact (Blk.new _ _ _))
  have AZV23 := Lib.hid az
  clear az
  have sz34 := hb.size
  have B34 := Lib.hid (below_chain B33.out hb)
  have XL_34 := Lib.hid (XL_33.out.below hb)
  have X1_34 := Lib.hid (X1_33.out.below hb)
  have XF_34 := Lib.hid (XF_33.out.below hb)
  have XG_34 := Lib.hid (XG_33.out.below hb)
  have XH_34 := Lib.hid (XH_33.out.below hb)
  have X8_34 := Lib.hid (X8_33.out.below hb)
  have X9_34 := Lib.hid (X9_33.out.below hb)
  have L0_34 := Lib.hid (L0_33.out.below hb)
  have L1_34 := Lib.hid (L1_33.out.below hb)
  have AB_34 := Lib.hid (AB_33.out.below hb)
  have GB_34 := Lib.hid (GB_33.out.below hb)
  have HB_34 := Lib.hid (HB_33.out.below hb)
  have TW_34 := Lib.hid (TW_33.out.below hb)
  clear hb B33 XL_33 X1_33 XF_33 XG_33 XH_33 X8_33 X9_33 L0_33 L1_33 AB_33 GB_33 HB_33 TW_33
  have FU_34 := NFU
  clear NFU
  have ltFU : w23.heap.size < V23.heap.size := FU_34.out.lt
  have xTW0 : V23.cell? ⟨w22.heap.size, 0, none⟩ = some (.int .i64 2) := by rw [TW_34.out.cell]; rfl
  have xTW1 : V23.cell? ⟨w22.heap.size, 1, none⟩ = some (.slice A8 2 c8) := by rw [TW_34.out.cell]; rfl
  have xTW2 : V23.cell? ⟨w22.heap.size, 2, none⟩ = some (.int .i64 y) := by rw [TW_34.out.cell]; rfl
  have xTW3 : V23.cell? ⟨w22.heap.size, 3, none⟩ = some (.int .i64 y) := by rw [TW_34.out.cell]; rfl
  have xTW4 : V23.cell? ⟨w22.heap.size, 4, none⟩ = some (.int .i64 2) := by rw [TW_34.out.cell]; rfl
  have xTW5 : V23.cell? ⟨w22.heap.size, 5, none⟩ = some (.int .i64 y) := by rw [TW_34.out.cell]; rfl
  go_wp2_with fail
  clear hW xTW0 xTW1 xTW2 xTW3 xTW4 xTW5
  refine (EL.out A8 c8 X8_34.out.nil _ X8_34.out.rc).mono ?_
  rintro e w24 ⟨A10, c10, rfl, o10, hb⟩
  obtain ⟨A9, c9, he, rw10⟩ := row_of o10
  simp only [Value.slice.injEq, true_and] at he
  obtain ⟨rfl, rfl⟩ := he
  clear o10
  have sz35 := hb.size
  have B35 := Lib.hid (below_chain B34.out hb)
  have XL_35 := Lib.hid (XL_34.out.below hb)
  have X1_35 := Lib.hid (X1_34.out.below hb)
  have XF_35 := Lib.hid (XF_34.out.below hb)
  have XG_35 := Lib.hid (XG_34.out.below hb)
  have XH_35 := Lib.hid (XH_34.out.below hb)
  have X8_35 := Lib.hid (X8_34.out.below hb)
  have X9_35 := Lib.hid (X9_34.out.below hb)
  have L0_35 := Lib.hid (L0_34.out.below hb)
  have L1_35 := Lib.hid (L1_34.out.below hb)
  have AB_35 := Lib.hid (AB_34.out.below hb)
  have GB_35 := Lib.hid (GB_34.out.below hb)
  have HB_35 := Lib.hid (HB_34.out.below hb)
  have TW_35 := Lib.hid (TW_34.out.below hb)
  have FU_35 := Lib.hid (FU_34.out.below hb)
  clear hb B34 XL_34 X1_34 XF_34 XG_34 XH_34 X8_34 X9_34 L0_34 L1_34 AB_34 GB_34 HB_34 TW_34 FU_34
  have X10_35 := Lib.hid rw10
  clear rw10
  obtain ⟨V24, hW⟩ : ∃ z, ((w24.alloc (.cells #[.int .i64 2, .slice A10 1 c10, .int .i64 y, .int .i64 1, .int .i64 2, .int .i64 1] 26)).alloc (.cells #[.int .i64 y, .int .i64 y, .int .i64 y, .int .i64 y, .int .i64 y] 30)) = z := ⟨_, rfl⟩
  have hb : Below w24.heap.size w24 V24 := by rw [← hW]; exact (((Below.refl _ _).alloc (by first | (simp; done) | (simp; omega) | omega) _).alloc (by first | (simp; done) | (simp; omega) | omega) _)
  have az : V24.heap.size = w24.heap.size + 2 := by rw [← hW]; simp
  have NLA := Lib.hid (show Blk V24 (w24.heap.size) 26 #[.int .i64 2, .slice A10 1 c10, .int .i64 y, .int .i64 1, .int .i64 2, .int .i64 1] by rw [← hW]; exact ((Below.heap_alloc _ _ _ (by first | (simp; done) | (simp; omega))).trans (Blk.new _ _ _)))
  have NBK := Lib.hid (show Blk V24 (w24.heap.size + 1) 30 #[.int .i64 y, .int .i64 y, .int .i64 y, .int .i64 y, .int .i64 y] by rw [← hW]; exact ((show w24.heap.size + 1 = ((w24.alloc _)).heap.size by simp) ▸ Blk.new _ _ _))
  have AZV24 := Lib.hid az
  clear az
  have sz36 := hb.size
  have B36 := Lib.hid (below_chain B35.out hb)
  have XL_36 := Lib.hid (XL_35.out.below hb)
  have X1_36 := Lib.hid (X1_35.out.below hb)
  have XF_36 := Lib.hid (XF_35.out.below hb)
  have XG_36 := Lib.hid (XG_35.out.below hb)
  have XH_36 := Lib.hid (XH_35.out.below hb)
  have X8_36 := Lib.hid (X8_35.out.below hb)
  have X9_36 := Lib.hid (X9_35.out.below hb)
  have X10_36 := Lib.hid (X10_35.out.below hb)
  have L0_36 := Lib.hid (L0_35.out.below hb)
  have L1_36 := Lib.hid (L1_35.out.below hb)
  have AB_36 := Lib.hid (AB_35.out.below hb)
  have GB_36 := Lib.hid (GB_35.out.below hb)
  have HB_36 := Lib.hid (HB_35.out.below hb)
  have TW_36 := Lib.hid (TW_35.out.below hb)
  have FU_36 := Lib.hid (FU_35.out.below hb)
  clear hb B35 XL_35 X1_35 XF_35 XG_35 XH_35 X8_35 X9_35 X10_35 L0_35 L1_35 AB_35 GB_35 HB_35 TW_35 FU_35
  have LA_36 := NLA
  clear NLA
  have ltLA : w24.heap.size < V24.heap.size := LA_36.out.lt
  have BK_36 := NBK
  clear NBK
  have ltBK : w24.heap.size + 1 < V24.heap.size := BK_36.out.lt
  go_upto_region 25 with fail
  clear hW
  clear EN EO EW EF EL
  obtain ⟨fl, hfl⟩ : ∃ f, (ofEpR zsF eF).length = f := ⟨_, rfl⟩
  obtain ⟨sm, hsm⟩ : ∃ r, sameLk pG aG bG sG gG pH aH bH sH gH zsG zsH = r := ⟨_, rfl⟩
  have EF1 := Lib.hid (show ∀ W, Below V24.heap.size V24 W → Calls Try.prog 25 #[.agg #[.int .i64 pF, .slice AF nF cF, .int .i64 aF, .int .i64 bF, .int .i64 sF, .int .i64 gF], .int .i64 eF] W fun e w' => e = .returned (.int .i64 (fl : Int)) ∧ Below W.heap.size W w' from fun W h => by rw [← hfl]; exact implFlight_any nF zsF HLF.out AF cF pF aF bF sF gF eF W (XF_36.out.below h).rc (by omega))
  have EF2 := Lib.hid (show ∀ W, Below V24.heap.size V24 W → Calls Try.prog 26 #[.agg #[.int .i64 pF, .slice AF nF cF, .int .i64 aF, .int .i64 bF, .int .i64 sF, .int .i64 gF], .int .i64 eF] W fun e w' => e = .returned (.int .i64 (fl : Int)) ∧ Below W.heap.size W w' from fun W h => by rw [← hfl]; exact specFlight_any nF zsF HLF.out AF cF pF aF bF sF gF eF W (XF_36.out.below h).rc (by omega))
  have EM1 := Lib.hid (show ∀ W, Below V24.heap.size V24 W → Calls Try.prog 27 #[.agg #[.int .i64 pG, .slice AG nG cG, .int .i64 aG, .int .i64 bG, .int .i64 sG, .int .i64 gG], .agg #[.int .i64 pH, .slice AH nH cH, .int .i64 aH, .int .i64 bH, .int .i64 sH, .int .i64 gH]] W fun e w' => e = .returned (.bool sm) ∧ Below W.heap.size W w' from fun W h => by rw [← hsm]; exact implSame_any nG nH zsG zsH HLG.out HLH.out AG AH cG cH pG aG bG sG gG pH aH bH sH gH W (XG_36.out.below h).rc (XH_36.out.below h).rc (by omega))
  have EM2 := Lib.hid (show ∀ W, Below V24.heap.size V24 W → Calls Try.prog 13 #[.agg #[.int .i64 pG, .slice AG nG cG, .int .i64 aG, .int .i64 bG, .int .i64 sG, .int .i64 gG], .agg #[.int .i64 pH, .slice AH nH cH, .int .i64 aH, .int .i64 bH, .int .i64 sH, .int .i64 gH]] W fun e w' => e = .returned (.bool sm) ∧ Below W.heap.size W w' from fun W h => by rw [← hsm]; exact lawSame_any nG nH zsG zsH HLG.out HLH.out AG AH cG cH pG aG bG sG gG pH aH bH sH gH W (XG_36.out.below h).rc (XH_36.out.below h).rc (by omega))
  have dsm : (sm == sm) = true := by simp
  clear hfl hsm
  cases r0 with
  | true =>
    obtain ⟨hok, hxa, hx1, hx2⟩ := OKL.out (by trivial)
    have EX := Lib.hid (show ∀ W, Below V24.heap.size V24 W → Calls Try.prog 15 #[.agg #[.int .i64 pL, .slice A1 m c1, .int .i64 ax, .int .i64 bL, .int .i64 sx, .int .i64 gL]] W fun e w' => e = .returned (.bool true) ∧ Below W.heap.size W w' from fun W h => by rw [← hok]; exact specLkOk_any m us HM.out A1 c1 pL ax bL sx gL W (X1_36.out.below h).rc (by omega))
    obtain ⟨am, ham⟩ : ∃ z : Int, aL - 1 = z := ⟨_, rfl⟩
    have mam : IntKind.i64.wrap am = am := IntWalk.i64_in _ (by omega)
    have dam : (ax == am) = true := by simp; omega
    exact tailT w V24 y eF pL aL bL sL gL pF aF bF sF gF pG aG bG sG gG pH aH bH sH gH ax sx am AL AF AG AH A1 A8 nL cL nF cF nG cG nH cH c1 c8 m fl _ _ _ _ _ _ _ sm _ _ _ _ _ _ _ _ _ _ _ _ _ _ _ _ _ _ _ _ _ _ _ _ _ _ _ _ _ _ _ _ _ _ _ _ _ _ _ _ _ _ _ _ _ _ _ _ _ _ _ _ _ _ _ _ _ _ _ _ _ _ _ _ _ _ _ _ _ _ _ _ _ _ _ _ _ _ _ _ _ _ _ _ _ _ _ _ _ _ _ _ _ _ _ _ _ _ _ _ _ _ _ _ _ _ _ _ _ _ _ _ _ _ _ _ _ _ _ _ _ _ _ _ _ _ _ _ _ _ _ _ _ _ _ _ _ _ _ _ _ _ _ _ _ _ _ _ _ _ _ _ _ _ _ _ _ _ _ _ _ _ _ _ _ _ _ _ _ _ _ _ _ _ _ _ _ _ _ _ _ _ _ _ _ _ _ _ _ _ _ _ _ _ _ _ _ _ _ _ _ _ _ _ _ _ _ _ _ _ _ _ _ _ _ _ _ _ _ _ _ _ _ _ _ EX.out EF1.out EF2.out EM1.out EM2.out L1_36.out L0_36.out AB_36.out GB_36.out HB_36.out BK_36.out TW_36.out HY.out ham mam dam B36.out rfl (by assumption)
  | false =>
    obtain ⟨hu, hxa, hxs⟩ := NOL.out (by trivial)
    have EX := Lib.hid (show ∀ W, Below V24.heap.size V24 W → Calls Try.prog 13 #[.agg #[.int .i64 pL, .slice A1 m c1, .int .i64 ax, .int .i64 bL, .int .i64 sx, .int .i64 gL], .agg #[.int .i64 pL, .slice AL nL cL, .int .i64 aL, .int .i64 bL, .int .i64 sL, .int .i64 gL]] W fun e w' => e = .returned (.bool true) ∧ Below W.heap.size W w' from fun W h => by
      subst hu hxa hxs
      have k := lawSame_any m nL us us HM.out HLL.out A1 AL c1 cL pL ax bL sx gL pL ax bL sx gL W (X1_36.out.below h).rc (XL_36.out.below h).rc (by omega)
      rw [sameLk_self] at k
      exact k)
    exact tailF w V24 y eF pL aL bL sL gL pF aF bF sF gF pG aG bG sG gG pH aH bH sH gH ax sx AL AF AG AH A1 A8 nL cL nF cF nG cG nH cH c1 c8 m fl _ _ _ _ _ _ _ sm _ _ _ _ _ _ _ _ _ _ _ _ _ _ _ _ _ _ _ _ _ _ _ _ _ _ _ _ _ _ _ _ _ _ _ _ _ _ _ _ _ _ _ _ _ _ _ _ _ _ _ _ _ _ _ _ _ _ _ _ _ _ _ _ _ _ _ _ _ _ _ _ _ _ _ _ _ _ _ _ _ _ _ _ _ _ _ _ _ _ _ _ _ _ _ _ _ _ _ _ _ _ _ _ _ _ _ _ _ _ _ _ _ _ _ _ _ _ _ _ _ _ _ _ _ _ _ _ _ _ _ _ _ _ _ _ _ _ _ _ _ _ _ _ _ _ _ _ _ _ _ _ _ _ _ _ _ _ _ _ _ _ _ _ _ _ _ _ _ _ _ _ _ _ _ _ _ _ _ _ _ _ _ _ _ _ _ _ _ _ _ _ _ _ _ _ _ _ _ _ _ _ _ _ _ _ _ _ _ _ _ _ _ _ _ _ _ _ _ _ _ _ _ _ _ EX.out EF1.out EF2.out EM1.out EM2.out L1_36.out L0_36.out AB_36.out GB_36.out HB_36.out BK_36.out TW_36.out HY.out B36.out rfl (by assumption)
end Go.Proofs.Ythkkleicekhelaa.fnLinks
