/-
  The walk of FnExactHasLoop.
-/
import Derived.Test.YtjplkoglibagkaaGrLoop
import Derived.Test.YtjplkoglibagkaaLawGr
import Derived.Deep.RegionHeld3
import Derived.Deep.DeepCutAuto
namespace Go.Proofs.Ytjplkoglibagkaa.fnExactHasLoop
open Go.RowKit Go.Proofs.Ytjplkoglibagkaa.hexes

set_option maxRecDepth 1000000 in
set_option maxHeartbeats 8000000 in
theorem walk (A : Option Addr) (n c : Nat) (gs : List Nd) (wk cp : Int) (w : World) (hZ : IsNds w A n gs) :
    Calls Try.prog 7 #[.agg #[.slice A n c, .int .i64 wk, .int .i64 cp]] w fun e w' => e = .returned (.bool true) ∧ Below w.heap.size w w' := by
  have Z := Lib.hid hZ.len
  have HZ := Lib.hid hZ
  have S := Lib.hid hZ.is
  clear hZ
  by_cases hn0 : (1048576 : Int) < ((n + outSum gs : Nat) : Int)
  · have C0 := Lib.hid (szGr_over A n c gs wk cp HZ.out (left := (1048576 : Int)) (by omega) (by omega) hn0)
    clear hn0
    go_enter Try.func7, Try.ntmps7
    go_wp2_with fail
    generalize hW : (w.alloc _) = W
    have BB := Lib.hid (show Below w.heap.size w W by rw [← hW]; exact ((Below.refl _ _).alloc (by first | (simp; done) | (simp; omega) | omega) _))
    have NB0 := Lib.hid (show Blk W (w.heap.size) 47 #[.slice A n c, .int .i64 wk, .int .i64 cp] by rw [← hW]; exact (Blk.new _ _ _))
    clear hW
    refine (C0.out _ (S.out.below BB.out)).mono ?_
    rintro e v0 ⟨rfl, hb0⟩
    have BB0 := Lib.hid (below_chain BB.out hb0)
    have NB0_0 := Lib.hid (NB0.out.below hb0)
    clear hb0
    go_wp2
    go_ret
    exact ⟨rfl, BB0.out⟩
  obtain ⟨lf0, hl0⟩ : ∃ q : Nat, (1048576 : Int) - ((n + outSum gs : Nat) : Int) = (q : Int) := ⟨((1048576 : Int) - ((n + outSum gs : Nat) : Int)).toNat, by omega⟩
  have C0 := Lib.hid (show ∀ W, Nds W A gs → Calls Try.prog 29 #[.agg #[.slice A n c, .int .i64 wk, .int .i64 cp], .int .i64 (1048576 : Int)] W fun e w' => e = .returned (.int .i64 (lf0 : Int)) ∧ Below W.heap.size W w' by rw [← hl0]; exact szGr_in A n c gs wk cp HZ.out (left := (1048576 : Int)) (by omega) (by omega) hn0)
  have hd0 : decide ((lf0 : Int) < 0) = false := by simp
  have os0 : n + outSum gs ≤ 1048576 := by omega
  have le0 : n ≤ 1048576 := by omega
  have ot0 : outSum gs ≤ 1048576 := by omega
  have ou0 : ∀ x ∈ gs, x.2.2.2.length ≤ 1048576 := fun x hx => Nat.le_trans (outSum_mem hx) ot0
  have lb0 : (lf0 : Int) ≤ 1048576 := by omega
  clear hn0 hl0
  obtain ⟨r, hr⟩ : ∃ r, loopG gs wk cp = r := ⟨_, rfl⟩
  have HR := Lib.hid hr
  clear hr
  have hrr : (r != r) = false := by simp
  go_enter Try.func7, Try.ntmps7
  go_wp2_with fail
  generalize hW : (w.alloc _) = W
  have hb : Below w.heap.size w W := by rw [← hW]; exact ((Below.refl _ _).alloc (by first | (simp; done) | (simp; omega) | omega) _)
  have azW : W.heap.size = w.heap.size + 1 := by rw [← hW]; simp
  have NL0 := Lib.hid (show Blk W (w.heap.size) 47 #[.slice A n c, .int .i64 wk, .int .i64 cp] by rw [← hW]; exact (Blk.new _ _ _))
  clear hW
  have AZW := Lib.hid azW
  clear azW
  have sz1 := hb.size
  have B1 := Lib.hid (hb)
  clear hb
  have L0_1 := NL0
  clear NL0
  have ltL0 : w.heap.size < W.heap.size := L0_1.out.lt
  refine (C0.out _ (S.out.below B1.out)).mono ?_
  rintro e v0 ⟨rfl, hb⟩
  have sz2 := hb.size
  have B2 := Lib.hid (below_chain B1.out hb)
  have L0_2 := Lib.hid (L0_1.out.below hb)
  clear hb B1 L0_1
  clear C0
  have xL00 : v0.cell? ⟨w.heap.size, 0, none⟩ = some (.slice A n c) := by rw [L0_2.out.cell]; rfl
  have xL01 : v0.cell? ⟨w.heap.size, 1, none⟩ = some (.int .i64 wk) := by rw [L0_2.out.cell]; rfl
  have xL02 : v0.cell? ⟨w.heap.size, 2, none⟩ = some (.int .i64 cp) := by rw [L0_2.out.cell]; rfl
  go_wp2_with fail
  clear xL00 xL01 xL02
  refine (toGr_row n gs Z.out A c wk cp _ (S.out.below B2.out) le0 ou0).mono ?_
  rintro e w1 ⟨A1, c1, vs1, f1, rfl, r1, hb⟩
  have sz3 := hb.size
  have B3 := Lib.hid (below_chain B2.out hb)
  have L0_3 := Lib.hid (L0_2.out.below hb)
  clear hb B2 L0_2
  have X1_3 := Lib.hid r1
  clear r1
  go_wp2_with fail
  refine (specLoop_is HR.out Z.out ou0 le0 A1 c1 _ X1_3.out.nds).mono ?_
  rintro e w2 ⟨rfl, hb⟩
  have sz4 := hb.size
  have B4 := Lib.hid (below_chain B3.out hb)
  have X1_4 := Lib.hid (X1_3.out.below hb)
  have L0_4 := Lib.hid (L0_3.out.below hb)
  clear hb B3 X1_3 L0_3
  clear X1_4
  have xL00 : w2.cell? ⟨w.heap.size, 0, none⟩ = some (.slice A n c) := by rw [L0_4.out.cell]; rfl
  have xL01 : w2.cell? ⟨w.heap.size, 1, none⟩ = some (.int .i64 wk) := by rw [L0_4.out.cell]; rfl
  have xL02 : w2.cell? ⟨w.heap.size, 2, none⟩ = some (.int .i64 cp) := by rw [L0_4.out.cell]; rfl
  go_wp2_with fail
  clear xL00 xL01 xL02
  refine (toGr_row n gs Z.out A c wk cp _ (S.out.below B4.out) le0 ou0).mono ?_
  rintro e w3 ⟨A3, c3, vs3, f3, rfl, r3, hb⟩
  have sz5 := hb.size
  have B5 := Lib.hid (below_chain B4.out hb)
  have L0_5 := Lib.hid (L0_4.out.below hb)
  clear hb B4 L0_4
  have X3_5 := Lib.hid r3
  clear r3
  go_wp2_with fail
  generalize hW : (w3.alloc _) = V3
  have hb : Below w3.heap.size w3 V3 := by rw [← hW]; exact ((Below.refl _ _).alloc (by first | (simp; done) | (simp; omega) | omega) _)
  have azV3 : V3.heap.size = w3.heap.size + 1 := by rw [← hW]; simp
  have Nx0 := Lib.hid (show Blk V3 (w3.heap.size) 26 #[.slice A3 n c3, .int .i64 wk, .int .i64 cp] by rw [← hW]; exact (Blk.new _ _ _))
  clear hW
  have AZV3 := Lib.hid azV3
  clear azV3
  have sz6 := hb.size
  have B6 := Lib.hid (below_chain B5.out hb)
  have X3_6 := Lib.hid (X3_5.out.below hb)
  have L0_6 := Lib.hid (L0_5.out.below hb)
  clear hb B5 X3_5 L0_5
  have x0_6 := Nx0
  clear Nx0
  have ltx0 : w3.heap.size < V3.heap.size := x0_6.out.lt
  refine (implLoop_is HR.out Z.out ou0 le0 A3 c3 _ X3_6.out.nds).mono ?_
  rintro e w4 ⟨rfl, hb⟩
  have sz7 := hb.size
  have B7 := Lib.hid (below_chain B6.out hb)
  have X3_7 := Lib.hid (X3_6.out.below hb)
  have L0_7 := Lib.hid (L0_6.out.below hb)
  have x0_7 := Lib.hid (x0_6.out.below hb)
  clear hb B6 X3_6 L0_6 x0_6
  go_upto_region 10 with fail
  have k0 : w4.cell? ⟨w3.heap.size, 0, none⟩ = some (.slice A3 n c3) := by rw [x0_7.out.cell]; rfl
  have k1 : w4.cell? ⟨w3.heap.size, 1, none⟩ = some (.int .i64 wk) := by rw [x0_7.out.cell]; rfl
  have k2 : w4.cell? ⟨w3.heap.size, 2, none⟩ = some (.int .i64 cp) := by rw [x0_7.out.cell]; rfl
  have k3 : w4.cell? ⟨w.heap.size, 0, none⟩ = some (.slice A n c) := by rw [L0_7.out.cell]; rfl
  have k4 : w4.cell? ⟨w.heap.size, 1, none⟩ = some (.int .i64 wk) := by rw [L0_7.out.cell]; rfl
  have k5 : w4.cell? ⟨w.heap.size, 2, none⟩ = some (.int .i64 cp) := by rw [L0_7.out.cell]; rfl
  have kb := Below.refl w4.heap.size w4
  have ks := (S.out.below B7.out)
  have kx := X3_7.out
  go_cut [26] (fun t wx => t = .bool false ∧ Below w4.heap.size w4 wx)
  case first =>
    go_region_held3 (fun w' => w'.cell? ⟨w3.heap.size, 0, none⟩ = some (.slice A3 n c3) ∧ w'.cell? ⟨w3.heap.size, 1, none⟩ = some (.int .i64 wk) ∧ w'.cell? ⟨w3.heap.size, 2, none⟩ = some (.int .i64 cp) ∧ w'.cell? ⟨w.heap.size, 0, none⟩ = some (.slice A n c) ∧ w'.cell? ⟨w.heap.size, 1, none⟩ = some (.int .i64 wk) ∧ w'.cell? ⟨w.heap.size, 2, none⟩ = some (.int .i64 cp) ∧ Nds w' A gs ∧ Below w4.heap.size w4 w')
      (((try go_split_ands); refine ⟨?_, ?_, ?_, ?_, ?_, ?_, ?_, ?_⟩ <;> (repeat (first | with_reducible assumption | with_reducible refine drew_keep ?_ | with_reducible refine below_keep hbd ?_ | with_reducible refine nds_drew ?_ | with_reducible refine Nds.below ?_ hbd | with_reducible refine Below.drew ?_ | with_reducible refine below_chain ?_ hbd))))
      (first | (go_at_call 30; (try go_split_ands); (with_reducible refine (toGr_row n gs Z.out A c wk cp _ (by assumption) le0 ou0).mono ?_); rintro e w5 ⟨A5, c5, vs5, f5, rfl, s5, hbd⟩) | (go_at_call 31; (try go_split_ands); (with_reducible refine (eqGr_row wk cp (GrRows.below kx (by assumption)) s5 le0 ou0).mono ?_); rintro e w6 ⟨rfl, hbd⟩))
    all_goals (
      go_wp2_with fail
      go_meet
      refine ⟨rfl, ?_⟩
      (try go_split_ands)
      assumption)
  case rest =>
  obtain ⟨rfl, hb⟩ := hcut
  clear kb ks kx k0 k1 k2 k3 k4 k5
  obtain ⟨u3, hwc⟩ : ∃ z, z = wc := ⟨_, rfl⟩
  subst hwc
  have sz8 := hb.size
  have B8 := Lib.hid (below_chain B7.out hb)
  have X3_8 := Lib.hid (X3_7.out.below hb)
  have L0_8 := Lib.hid (L0_7.out.below hb)
  have x0_8 := Lib.hid (x0_7.out.below hb)
  clear hb B7 X3_7 L0_7 x0_7
  go_wp2
  go_ret
  exact ⟨rfl, B8.out⟩
end Go.Proofs.Ytjplkoglibagkaa.fnExactHasLoop
