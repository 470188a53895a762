/-
  The walk of FnOperators.
-/
import Derived.Test.YthkkleicekhelaaDoorOpFacts
import Derived.Test.YthkkleicekhelaaDoorDrawChg
import Derived.Test.YthkkleicekhelaaDoorNdText
import Derived.Test.YthkkleicekhelaaDoorPlaces
import Derived.Test.YthkkleicekhelaaDoorRowCap
import Derived.Test.YthkkleicekhelaaDoorLaid
import Derived.Deep.RegionHeld3
import Derived.Deep.DeepCutAuto
import Derived.WalkArith
namespace Go.Proofs.YthkkleicekhelaaDoor.fnOperators
open Go.RowKit Go.Proofs.YthkkleicekhelaaDoor.hexes

set_option maxRecDepth 1000000 in
set_option maxHeartbeats 16000000 in
theorem walk (a0 : Option Addr) (len0 cap0 : Nat) (z0 : List Int) (w : World) (w0 : IsRow .u8 w a0 len0 cap0 z0) (hL : laidMet Tryd.prog Rows.fnOperatorsRow.laid w) :
    Calls Tryd.prog 3 #[.slice a0 len0 cap0] w fun e w' => e = .returned (.bool true) ∧ Below w.heap.size w w' := by
  have HT := Lib.hid (pow10_head hL.tail.tail)
  have hcame := came_of_row w0
  have HG := Lib.hid (fun W => big_any a0 len0 cap0 W)
  by_cases h1 : 1048576 < len0
  · have hd : decide (1048576 < (len0 : Int)) = true := by simp; omega
    clear hcame w0 hL
    go_enter Tryd.func3, Tryd.ntmps3
    go_wp2_with (go_at_call 5; refine (HG.out _).mono ?_; rintro e w1 ⟨rfl, rfl⟩)
    go_ret
    exact ⟨rfl, Below.refl _ _⟩
  have hd : decide (1048576 < (len0 : Int)) = false := by simp; omega
  have HC := Lib.hid hcame
  have hlen : len0 ≤ 2097152 := by omega
  clear hcame w0 hL h1
  go_enter Tryd.func3, Tryd.ntmps3
  go_wp2_with (go_at_call 5; refine (HG.out _).mono ?_; rintro e w1 ⟨rfl, rfl⟩)
  refine (drawChg_any _ a0 len0 cap0 hlen HC.out).mono ?_
  rintro e w1 ⟨k, a, bb, A1, n, c1, zs, key, val, jk, ja, jb, jz, hn, hl, jkey, jval, rfl, ho, hb⟩
  obtain ⟨A1', c1', he, hrow⟩ := row_of ho
  simp only [Value.slice.injEq, true_and] at he
  obtain ⟨rfl, rfl⟩ := he
  have X1 := Lib.hid hrow
  have B1 := Lib.hid hb
  have HL := Lib.hid hl
  have hcap := hrow.cap
  clear HG hd ho hrow hb hl
  go_upto_region 4 with fail
  generalize hU : w1.alloc _ = U
  have bU : Below w1.heap.size w1 U := by rw [← hU]; exact (Below.refl _ _).alloc (Nat.le_refl _) _
  obtain ⟨g0, hg0⟩ : ∃ g, w1.heap.size = g := ⟨_, rfl⟩
  have KU := Lib.hid (show Blk U g0 26 #[.int .i64 k, .int .i64 a, .int .i64 bb, .slice A1 n c1] by rw [← hU, ← hg0]; exact Blk.new _ _ _)
  have XU := Lib.hid (X1.out.below bU)
  have BU := Lib.hid (below_chain B1.out bU)
  rw [hg0]
  clear hU bU X1 B1 hg0
  obtain ⟨d, hdd⟩ : ∃ d, IntKind.i64.wrap (a - 1) = d := ⟨_, rfl⟩
  obtain ⟨q, hq⟩ : ∃ q, okNd k a bb d zs = q := ⟨_, rfl⟩
  obtain ⟨t, ht⟩ : ∃ t, ndText k a bb zs = t := ⟨_, rfl⟩
  have EN1 := Lib.hid (show ∀ W, Below U.heap.size U W → Calls Tryd.prog 9 #[.agg #[.int .i64 k, .int .i64 a, .int .i64 bb, .slice A1 n c1]] W fun e w' => e = .returned (.bool q) ∧ Below W.heap.size W w' from fun W h => by rw [← hq]; exact implNdOk_any k a bb d A1 n c1 zs HL.out hcap hdd W (XU.out.below h).is (by omega))
  have EN2 := Lib.hid (show ∀ W, Below U.heap.size U W → Calls Tryd.prog 10 #[.agg #[.int .i64 k, .int .i64 a, .int .i64 bb, .slice A1 n c1]] W fun e w' => e = .returned (.bool q) ∧ Below W.heap.size W w' from fun W h => by rw [← hq]; exact specNdOk_any k a bb d A1 n c1 zs HL.out hdd W (XU.out.below h).is (by omega))
  have ET1 := Lib.hid (show ∀ W, Below U.heap.size U W → Calls Tryd.prog 11 #[.agg #[.int .i64 k, .int .i64 a, .int .i64 bb, .slice A1 n c1]] W fun e w' => e = .returned (.string t) ∧ Below W.heap.size W w' from fun W h => by rw [← ht]; exact implNdText_any k a bb A1 n c1 zs HL.out ja jb jz W (XU.out.below h).is (by omega) (pow10_below HT.out (below_chain BU.out h)))
  have ET2 := Lib.hid (show ∀ W, Below U.heap.size U W → Calls Tryd.prog 12 #[.agg #[.int .i64 k, .int .i64 a, .int .i64 bb, .slice A1 n c1]] W fun e w' => e = .returned (.string t) ∧ Below W.heap.size W w' from fun W h => by rw [← ht]; exact specNdText_any k a bb A1 n c1 zs HL.out ja jb jz W (XU.out.below h).is (by omega))
  have EC1 := Lib.hid (fun (x y : Int) (q : Bool) (rk rv : Int) (ro : Bool) hq hk hv ho W (h : Below U.heap.size U W) => implChg_any k a bb d x y A1 n c1 zs HL.out hcap hdd W (XU.out.below h).is (by omega) (q := q) (rk := rk) (rv := rv) (ro := ro) hq hk hv ho)
  have EC2 := Lib.hid (fun (x y : Int) (q : Bool) (rk rv : Int) (ro : Bool) hq hk hv ho W (h : Below U.heap.size U W) => specChg_any k a bb d x y A1 n c1 zs HL.out hdd W (XU.out.below h).is (by omega) (q := q) (rk := rk) (rv := rv) (ro := ro) hq hk hv ho)
  obtain ⟨rq, hrq⟩ : ∃ r, okC k a bb d key val zs = r := ⟨_, rfl⟩
  obtain ⟨rk, hrk⟩ : ∃ r, chgK rq k a key = r := ⟨_, rfl⟩
  obtain ⟨rv, hrv⟩ : ∃ r, chgV rq k a val = r := ⟨_, rfl⟩
  obtain ⟨ro, hro⟩ : ∃ r, chgO rq k a bb key = r := ⟨_, rfl⟩
  have HRG := Lib.hid (show ro = true → (0 ≤ rk ∧ rk ≤ 99) ∧ 0 ≤ rv ∧ rv ≤ 999 by rw [← hro, ← hrk, ← hrv, ← hrq]; exact chg_range)
  have HNO := Lib.hid (show q = false → ro = false by rw [← hro, ← hrq, ← hq]; exact chgO_no)
  have F1 := Lib.hid (EC1.out key val rq rk rv ro hrq hrk hrv hro)
  have F2 := Lib.hid (EC2.out key val rq rk rv ro hrq hrk hrv hro)
  have HQ := Lib.hid hq
  clear hdd hq ht hrq hrk hrv hro XU HT jk ja jb jz jkey jval hcap
  have x0 : U.cell? ⟨g0, 0, none⟩ = some (.int .i64 k) := by rw [KU.out.cell]; rfl
  have x1 : U.cell? ⟨g0, 1, none⟩ = some (.int .i64 a) := by rw [KU.out.cell]; rfl
  have x2 : U.cell? ⟨g0, 2, none⟩ = some (.int .i64 bb) := by rw [KU.out.cell]; rfl
  have x3 : U.cell? ⟨g0, 3, none⟩ = some (.slice A1 n c1) := by rw [KU.out.cell]; rfl
  go_wp2_with fail
  refine (F1.out U (Below.refl _ _)).mono ?_
  rintro e w2 ⟨rfl, hb2⟩
  have K2 := Lib.hid (KU.out.below hb2)
  have D2 := Lib.hid hb2
  clear hb2 x0 x1 x2 x3
  have x0 : w2.cell? ⟨g0, 0, none⟩ = some (.int .i64 k) := by rw [K2.out.cell]; rfl
  have x1 : w2.cell? ⟨g0, 1, none⟩ = some (.int .i64 a) := by rw [K2.out.cell]; rfl
  have x2 : w2.cell? ⟨g0, 2, none⟩ = some (.int .i64 bb) := by rw [K2.out.cell]; rfl
  have x3 : w2.cell? ⟨g0, 3, none⟩ = some (.slice A1 n c1) := by rw [K2.out.cell]; rfl
  go_wp2_with fail
  refine (F2.out w2 D2.out).mono ?_
  rintro e w3 ⟨rfl, hb3⟩
  have K3 := Lib.hid (K2.out.below hb3)
  have D3 := Lib.hid (below_chain D2.out hb3)
  clear hb3 x0 x1 x2 x3 K2 D2
  have n1 : (rk != rk) = false := by simp
  have n2 : (rv != rv) = false := by simp
  have n3 : (ro != ro) = false := by simp
  have n4 : (q != q) = false := by simp
  go_upto_region 6 with fail
  have k0 : w3.cell? ⟨g0, 0, none⟩ = some (.int .i64 k) := by rw [K3.out.cell]; rfl
  have k1 : w3.cell? ⟨g0, 1, none⟩ = some (.int .i64 a) := by rw [K3.out.cell]; rfl
  have k2 : w3.cell? ⟨g0, 2, none⟩ = some (.int .i64 bb) := by rw [K3.out.cell]; rfl
  have k3 : w3.cell? ⟨g0, 3, none⟩ = some (.slice A1 n c1) := by rw [K3.out.cell]; rfl
  have kd := D3.out
  go_cut [72] (fun t wx => t = .bool false ∧ Below U.heap.size U wx)
  case first =>
    go_region_held3 (fun w' => w'.cell? ⟨g0, 0, none⟩ = some (.int .i64 k) ∧ w'.cell? ⟨g0, 1, none⟩ = some (.int .i64 a) ∧ w'.cell? ⟨g0, 2, none⟩ = some (.int .i64 bb) ∧ w'.cell? ⟨g0, 3, none⟩ = some (.slice A1 n c1) ∧ Below U.heap.size U w')
      (((try go_split_ands); refine ⟨?_, ?_, ?_, ?_, ?_⟩ <;> (repeat (first | with_reducible assumption | with_reducible refine drew_keep ?_ | with_reducible refine below_keep hbd ?_ | with_reducible refine Below.drew ?_ | with_reducible refine below_chain ?_ hbd))))
      (first | (go_at_call 9; (try go_split_ands); (with_reducible refine (EN1.out _ (by assumption)).mono ?_); rintro e w5 ⟨rfl, hbd⟩) | (go_at_call 10; (try go_split_ands); (with_reducible refine (EN2.out _ (by assumption)).mono ?_); rintro e w5 ⟨rfl, hbd⟩) | (go_at_call 11; (try go_split_ands); (with_reducible refine (ET1.out _ (by assumption)).mono ?_); rintro e w5 ⟨rfl, hbd⟩) | (go_at_call 12; (try go_split_ands); (with_reducible refine (ET2.out _ (by assumption)).mono ?_); rintro e w5 ⟨rfl, hbd⟩))
    all_goals (
        go_wp2_with fail
        go_meet
        refine ⟨rfl, ?_⟩
        (try go_split_ands)
        assumption)
  case rest =>
  obtain ⟨rfl, hb⟩ := hcut
  clear k0 k1 k2 k3 kd K3 D3
  obtain ⟨w4, hwc⟩ : ∃ z, z = wc := ⟨_, rfl⟩
  subst hwc
  have D4 := Lib.hid hb
  clear hb
  go_wp2_with fail
  refine (drawKind_any _ a0 len0 cap0 hlen (HC.out.below (below_chain BU.out D4.out))).mono ?_
  rintro e w5 ⟨kd, _, rfl, hb⟩
  have D5 := Lib.hid (below_chain D4.out hb)
  clear hb D4
  obtain ⟨rm, hrm⟩ : ∃ r, remB kd = r := ⟨_, rfl⟩
  obtain ⟨nm, hnm⟩ : ∃ r, nameB kd = r := ⟨_, rfl⟩
  have ER1 := Lib.hid (show ∀ W, Calls Tryd.prog 16 #[.int .i64 kd] W fun e w' => e = .returned (.bool rm) ∧ Below W.heap.size W w' from fun W => by rw [← hrm]; exact implRem_any kd W)
  have ER2 := Lib.hid (show ∀ W, Calls Tryd.prog 17 #[.int .i64 kd] W fun e w' => e = .returned (.bool rm) ∧ Below W.heap.size W w' from fun W => by rw [← hrm]; exact specRem_any kd W)
  have EM1 := Lib.hid (show ∀ W, Calls Tryd.prog 14 #[.int .i64 kd] W fun e w' => e = .returned (.string nm) ∧ Below W.heap.size W w' from fun W => by rw [← hnm]; exact implName_any kd W)
  have EM2 := Lib.hid (show ∀ W, Calls Tryd.prog 15 #[.int .i64 kd] W fun e w' => e = .returned (.string nm) ∧ Below W.heap.size W w' from fun W => by rw [← hnm]; exact specName_any kd W)
  have n5 : (rm != rm) = false := by simp
  clear hrm hnm
  go_wp2_with fail
  refine (EM1.out _).mono ?_
  rintro e w6 ⟨rfl, hb⟩
  have D6 := Lib.hid (below_chain D5.out hb)
  clear hb D5
  go_wp2_with fail
  refine (EM2.out _).mono ?_
  rintro e w7 ⟨rfl, hb⟩
  have D7 := Lib.hid (below_chain D6.out hb)
  clear hb D6
  go_wp2_with fail
  refine (ER1.out _).mono ?_
  rintro e w8 ⟨rfl, hb⟩
  have D8 := Lib.hid (below_chain D7.out hb)
  clear hb D7
  go_wp2_with fail
  refine (ER2.out _).mono ?_
  rintro e w9 ⟨rfl, hb⟩
  have D9 := Lib.hid (below_chain D8.out hb)
  clear hb D8
  go_wp2_with fail
  refine (places_any _ a0 len0 cap0 hlen (HC.out.below (below_chain BU.out D9.out))).mono ?_
  rintro e w10 ⟨v, xs, hxl, hxs, rfl, hown, hb⟩
  obtain ⟨A3, cp, rfl, hf⟩ := own_form hown
  obtain ⟨gp, rfl⟩ := hf (by omega)
  have PC := Lib.hid (show ∀ j : Nat, j < 12 → ∃ x : Nat, x < 10000 ∧ w10.cell? ⟨gp, j, none⟩ = some (.int .i64 (x : Int)) from fun j hj => ⟨xs[j], hxs _ (List.getElem_mem (by omega)), by rw [hown.cellAt j (by omega)]; simp [nums, List.getElem?_eq_getElem (show j < xs.length by omega)]⟩)
  have D10 := Lib.hid (below_chain D9.out hb)
  clear hown hf hxl hxs hb D9 HC n1 n2 n3 n4 n5 EM1 EM2 ER1 ER2 ET1 ET2 F1 F2
  obtain ⟨y0, hy0, c0⟩ := PC.out 0 (by omega)
  obtain ⟨y1, hy1, c1'⟩ := PC.out 1 (by omega)
  obtain ⟨y2, hy2, c2⟩ := PC.out 2 (by omega)
  obtain ⟨x, hx⟩ : ∃ x : Int, (y0 : Int).tmod 1000 = x := ⟨_, rfl⟩
  have xb : 0 ≤ x ∧ x ≤ 999 := by rw [← hx, Int.tmod_eq_emod_of_nonneg (by omega)]; omega
  have m1 : IntKind.i64.wrap x = x := IntWalk.i64_in _ (by omega)
  obtain ⟨dv, hdv⟩ : ∃ z : Int, 1000 - x = z := ⟨_, rfl⟩
  have m2 : IntKind.i64.wrap dv = dv := IntWalk.i64_in _ (by omega)
  have hdv0 : ¬dv = 0 := by omega
  obtain ⟨r1, hr1⟩ : ∃ z : Int, (y1 : Int).tmod dv = z := ⟨_, rfl⟩
  have rb : 0 ≤ r1 ∧ r1 < dv := by
    rw [← hr1, Int.tmod_eq_emod_of_nonneg (by omega)]
    exact ⟨Int.emod_nonneg _ hdv0, Int.emod_lt_of_pos _ (by omega)⟩
  have m3 : IntKind.i64.wrap r1 = r1 := IntWalk.i64_in _ (by omega)
  obtain ⟨y, hy⟩ : ∃ z : Int, x + r1 = z := ⟨_, rfl⟩
  have m4 : IntKind.i64.wrap y = y := IntWalk.i64_in _ (by omega)
  have hxy : x ≤ y ∧ y ≤ 999 := by omega
  obtain ⟨kk, hkk⟩ : ∃ z : Int, (y2 : Int).tmod 100 = z := ⟨_, rfl⟩
  have kb : 0 ≤ kk ∧ kk ≤ 99 := by rw [← hkk, Int.tmod_eq_emod_of_nonneg (by omega)]; omega
  have m5 : IntKind.i64.wrap kk = kk := IntWalk.i64_in _ (by omega)
  have okx := okC_in (k := k) (a := a) (b := bb) (d := d) (zs := zs) kb xb
  have oky := okC_in (k := k) (a := a) (b := bb) (d := d) (zs := zs) kb (show 0 ≤ y ∧ y ≤ 999 by omega)
  rw [HQ.out] at okx oky
  obtain ⟨sk, hsk⟩ : ∃ r, chgK q k a kk = r := ⟨_, rfl⟩
  obtain ⟨sx, hsx⟩ : ∃ r, chgV q k a x = r := ⟨_, rfl⟩
  obtain ⟨sy, hsy⟩ : ∃ r, chgV q k a y = r := ⟨_, rfl⟩
  obtain ⟨so, hso⟩ : ∃ r, chgO q k a bb kk = r := ⟨_, rfl⟩
  have hle : sx ≤ sy := by rw [← hsx, ← hsy]; exact chgV_mono q k a hxy.1
  have G1 := Lib.hid (EC1.out kk x q sk sx so okx hsk hsx hso)
  have G2 := Lib.hid (EC1.out kk y q sk sy so oky hsk hsy hso)
  have dle : decide (sx ≤ sy) = true := decide_eq_true hle
  have dke : (sk == sk) = true := by simp
  have c0' := c0
  clear okx oky hsk hsx hsy hso EC1 EC2 HQ hle xb rb hxy kb
  go_upto_region 14 with fail
  have kd := D10.out
  have KK := Lib.hid (KU.out.below kd)
  have k0 : w10.cell? ⟨g0, 0, none⟩ = some (.int .i64 k) := by rw [KK.out.cell]; rfl
  have k1 : w10.cell? ⟨g0, 1, none⟩ = some (.int .i64 a) := by rw [KK.out.cell]; rfl
  have k2 : w10.cell? ⟨g0, 2, none⟩ = some (.int .i64 bb) := by rw [KK.out.cell]; rfl
  have k3 : w10.cell? ⟨g0, 3, none⟩ = some (.slice A1 n c1) := by rw [KK.out.cell]; rfl
  go_cut [16, 17, 18] (fun t u s wx => t = .int .i64 sk ∧ u = .int .i64 sx ∧ s = .bool so ∧ Below w10.heap.size w10 wx ∧ Below U.heap.size U wx)
  case first =>
    have kw := Below.refl w10.heap.size w10
    go_region_held3 (fun w' => w'.cell? ⟨g0, 0, none⟩ = some (.int .i64 k) ∧ w'.cell? ⟨g0, 1, none⟩ = some (.int .i64 a) ∧ w'.cell? ⟨g0, 2, none⟩ = some (.int .i64 bb) ∧ w'.cell? ⟨g0, 3, none⟩ = some (.slice A1 n c1) ∧ w'.cell? ⟨gp, 2, none⟩ = some (.int .i64 (y2 : Int)) ∧ Below w10.heap.size w10 w' ∧ Below U.heap.size U w')
      (((try go_split_ands); refine ⟨?_, ?_, ?_, ?_, ?_, ?_, ?_⟩ <;> (repeat (first | with_reducible assumption | with_reducible refine drew_keep ?_ | with_reducible refine below_keep hbd ?_ | with_reducible refine Below.drew ?_ | with_reducible refine below_chain ?_ hbd))))
      (first | (go_at_call 7; (try go_split_ands); (with_reducible refine (G1.out _ (by assumption)).mono ?_); rintro e w5 ⟨rfl, hbd⟩))
    all_goals (
        go_wp2_with fail
        go_meet
        refine ⟨rfl, rfl, rfl, ?_, ?_⟩
        all_goals ((try go_split_ands); assumption))
  case rest =>
  obtain ⟨rfl, rfl, rfl, hb, hbu⟩ := hcut
  clear k0 k1 k2 k3 kd KK
  obtain ⟨w11, hwc⟩ : ∃ z, z = wc := ⟨_, rfl⟩
  subst hwc
  have D11 := Lib.hid hbu
  have C2 := Lib.hid (below_keep hb c2)
  clear c0 c1' c2 c0' PC hb hbu D10
  go_upto_region 15 with fail
  have kd := D11.out
  have KK := Lib.hid (KU.out.below kd)
  have c2 := C2.out
  have k0 : w11.cell? ⟨g0, 0, none⟩ = some (.int .i64 k) := by rw [KK.out.cell]; rfl
  have k1 : w11.cell? ⟨g0, 1, none⟩ = some (.int .i64 a) := by rw [KK.out.cell]; rfl
  have k2 : w11.cell? ⟨g0, 2, none⟩ = some (.int .i64 bb) := by rw [KK.out.cell]; rfl
  have k3 : w11.cell? ⟨g0, 3, none⟩ = some (.slice A1 n c1) := by rw [KK.out.cell]; rfl
  go_cut [19, 20, 21] (fun t u s wx => t = .int .i64 sk ∧ u = .int .i64 sy ∧ s = .bool so ∧ Below w11.heap.size w11 wx ∧ Below U.heap.size U wx)
  case first =>
    have kw := Below.refl w11.heap.size w11
    go_region_held3 (fun w' => w'.cell? ⟨g0, 0, none⟩ = some (.int .i64 k) ∧ w'.cell? ⟨g0, 1, none⟩ = some (.int .i64 a) ∧ w'.cell? ⟨g0, 2, none⟩ = some (.int .i64 bb) ∧ w'.cell? ⟨g0, 3, none⟩ = some (.slice A1 n c1) ∧ w'.cell? ⟨gp, 2, none⟩ = some (.int .i64 (y2 : Int)) ∧ Below w11.heap.size w11 w' ∧ Below U.heap.size U w')
      (((try go_split_ands); refine ⟨?_, ?_, ?_, ?_, ?_, ?_, ?_⟩ <;> (repeat (first | with_reducible assumption | with_reducible refine drew_keep ?_ | with_reducible refine below_keep hbd ?_ | with_reducible refine Below.drew ?_ | with_reducible refine below_chain ?_ hbd))))
      (first | (go_at_call 7; (try go_split_ands); (with_reducible refine (G2.out _ (by assumption)).mono ?_); rintro e w5 ⟨rfl, hbd⟩))
    all_goals (
        go_wp2_with fail
        go_meet
        refine ⟨rfl, rfl, rfl, ?_, ?_⟩
        all_goals ((try go_split_ands); assumption))
  case rest =>
  obtain ⟨rfl, rfl, rfl, hb, hbu⟩ := hcut
  clear k0 k1 k2 k3 kd KK
  obtain ⟨w12, hwc⟩ : ∃ z, z = wc := ⟨_, rfl⟩
  subst hwc
  have D12 := Lib.hid hbu
  clear hb hbu c2 C2 D11
  have KK := Lib.hid (KU.out.below D12.out)
  have k0 : w12.cell? ⟨g0, 0, none⟩ = some (.int .i64 k) := by rw [KK.out.cell]; rfl
  have k1 : w12.cell? ⟨g0, 1, none⟩ = some (.int .i64 a) := by rw [KK.out.cell]; rfl
  have k2 : w12.cell? ⟨g0, 2, none⟩ = some (.int .i64 bb) := by rw [KK.out.cell]; rfl
  have k3 : w12.cell? ⟨g0, 3, none⟩ = some (.slice A1 n c1) := by rw [KK.out.cell]; rfl
  have E7 := Lib.hid (show ∀ W, Calls Tryd.prog 14 #[.int .i64 7] W fun e w' => e = .returned (.string ⟨#[98, 97, 99, 107]⟩) ∧ Below W.heap.size W w' from fun W => implName_any 7 W)
  have E5 := Lib.hid (show ∀ W, Calls Tryd.prog 16 #[.int .i64 5] W fun e w' => e = .returned (.bool true) ∧ Below W.heap.size W w' from fun W => implRem_any 5 W)
  cases q with
  | false =>
    obtain rfl := HNO.out rfl
    go_wp2_with fail
    refine (EN2.out w12 D12.out).mono ?_
    rintro e w13 ⟨rfl, hb⟩
    have D13 := Lib.hid (below_chain D12.out hb)
    clear hb k0 k1 k2 k3
    go_wp2_with fail
    refine (E7.out _).mono ?_
    rintro e w14 ⟨rfl, hb⟩
    have D14 := Lib.hid (below_chain D13.out hb)
    clear hb
    go_wp2_with fail
    refine (E5.out _).mono ?_
    rintro e w15 ⟨rfl, hb⟩
    have D15 := Lib.hid (below_chain BU.out (below_chain D14.out hb))
    clear hb
    go_wp2
    go_ret
    exact ⟨rfl, D15.out⟩
  | true =>
    cases ro with
    | false =>
      go_wp2_with fail
      refine (EN2.out w12 D12.out).mono ?_
      rintro e w13 ⟨rfl, hb⟩
      have D13 := Lib.hid (below_chain D12.out hb)
      clear hb k0 k1 k2 k3
      go_wp2_with fail
      refine (E7.out _).mono ?_
      rintro e w14 ⟨rfl, hb⟩
      have D14 := Lib.hid (below_chain D13.out hb)
      clear hb
      go_wp2_with fail
      refine (E5.out _).mono ?_
      rintro e w15 ⟨rfl, hb⟩
      have D15 := Lib.hid (below_chain BU.out (below_chain D14.out hb))
      clear hb
      go_wp2
      go_ret
      exact ⟨rfl, D15.out⟩
    | true =>
      have hr := HRG.out rfl
      have r1 : decide (rk ≥ 0) = true := decide_eq_true hr.1.1
      have r2 : decide (rk ≤ 99) = true := decide_eq_true hr.1.2
      have r3 : decide (rv ≥ 0) = true := decide_eq_true hr.2.1
      have r4 : decide (rv ≤ 999) = true := decide_eq_true hr.2.2
      clear hr
      go_wp2_with fail
      refine (EN2.out w12 D12.out).mono ?_
      rintro e w13 ⟨rfl, hb⟩
      have D13 := Lib.hid (below_chain D12.out hb)
      clear hb k0 k1 k2 k3
      go_wp2_with fail
      refine (E7.out _).mono ?_
      rintro e w14 ⟨rfl, hb⟩
      have D14 := Lib.hid (below_chain D13.out hb)
      clear hb
      go_wp2_with fail
      refine (E5.out _).mono ?_
      rintro e w15 ⟨rfl, hb⟩
      have D15 := Lib.hid (below_chain BU.out (below_chain D14.out hb))
      clear hb
      go_wp2
      go_ret
      exact ⟨rfl, D15.out⟩
end Go.Proofs.YthkkleicekhelaaDoor.fnOperators
