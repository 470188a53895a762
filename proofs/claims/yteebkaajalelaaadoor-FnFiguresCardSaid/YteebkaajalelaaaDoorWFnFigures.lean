/-
  The walk of FnFigures.
-/
import Derived.Test.YteebkaajalelaaaDoorPlaces
import Derived.Test.YteebkaajalelaaaDoorHexBack
import Derived.Test.YteebkaajalelaaaDoorBrought
import Derived.Test.YteebkaajalelaaaDoorImplHex
import Derived.Test.YteebkaajalelaaaDoorImplUnhex
import Derived.Test.YteebkaajalelaaaDoorHeld
import Derived.OpenShut
import Derived.Deep.RegionHeld
import Derived.Deep.DeepCutAuto
namespace Go.Proofs.YteebkaajalelaaaDoor.fnFigures
open Go.RowKit Go.Proofs.YteebkaajalelaaaDoor.hexes

/-- WHAT THE WALK IS TOLD OF A SLICE OF INTEGERS THAT CAME IN. -/
def IsRow (k : IntKind) (w : World) (a : Option Addr) (len cap : Nat) (zs : List Int) : Prop :=
  (a = none ∧ len = 0 ∧ cap = 0 ∧ zs = []) ∨
  ∃ x, a = some x ∧ len ≤ cap ∧ cap ≤ maxLen ∧ zs.length = cap ∧ (∀ i, i < zs.length → w.cell? (x.add i) = some (.int k (zs.getD i 0))) ∧ ∀ n ∈ zs, (Lit.int k n).wf = true

theorem came_of_row {w : World} {a : Option Addr} {len cap : Nat} {zs : List Int} (h : IsRow .u8 w a len cap zs) : Came w a len := fun hl => by
  rcases h with ⟨_, rfl, _⟩ | ⟨x, rfl, hlc, _, hz, hcell, hwf⟩
  · omega
  · obtain ⟨b, off, spot⟩ := x
    have hc0 := hcell 0 (by omega)
    have hspot : spot = none := by simpa [Addr.add] using World.cell?_spot hc0
    subst hspot
    have hadd : ∀ j, (Addr.add ⟨b, off, none⟩ j) = ⟨b, off + j, none⟩ := fun j => by unfold Addr.add; split <;> simp_all
    refine ⟨b, off, rfl, ?_, fun j hj => ?_⟩
    · rw [hadd 0] at hc0
      exact World.block_lt_of_cell? w _ hc0
    · have hcj := hcell j (by omega)
      rw [hadd j] at hcj
      have hj' : j < zs.length := by omega
      have hm : zs.getD j 0 ∈ zs := by rw [List.getD_eq_getElem?_getD, List.getElem?_eq_getElem hj']; exact List.getElem_mem hj'
      have hb := bounds_u8 (hwf _ hm)
      refine ⟨(zs.getD j 0).toNat, by omega, ?_⟩
      rw [hcj]
      congr 2
      omega

theorem conv_two (a b : Int) (ha : 0 ≤ a) (ha' : a < 256) (hb : 0 ≤ b) (hb' : b < 256) (W : World) (g : Nat) (h0 : W.cell? ⟨g, 0, none⟩ = some (.int .u8 a)) (h1 : W.cell? ⟨g, 1, none⟩ = some (.int .u8 b)) :
    (convert 22 9 (.slice (some ⟨g, 0, none⟩) 2 2)).run Tryd.prog W = .ok (.string ⟨#[UInt8.ofNat a.toNat, UInt8.ofNat b.toNat]⟩) W := by
  obtain ⟨x, rfl⟩ : ∃ x : Nat, a = (x : Int) := ⟨a.toNat, by omega⟩
  obtain ⟨y, rfl⟩ : ∃ y : Nat, b = (y : Int) := ⟨b.toNat, by omega⟩
  have ex : (UInt8.ofNat x).toNat = x := by rw [UInt8.toNat_ofNat']; exact Nat.mod_eq_of_lt (by omega)
  have ey : (UInt8.ofNat y).toNat = y := by rw [UInt8.toNat_ofNat']; exact Nat.mod_eq_of_lt (by omega)
  have := run_convert_bytes_back (P := Tryd.prog) W 22 9 5 ⟨g, 0, none⟩ 2 [UInt8.ofNat x, UInt8.ofNat y] Tryd.underlying22 Tryd.underlying5 Tryd.underlying9 (fun j hj => by
    have hadd : (Addr.add ⟨g, 0, none⟩ j) = ⟨g, j, none⟩ := by unfold Addr.add; by_cases hj0 : j = 0 <;> simp [hj0]
    rw [hadd]
    match j, hj with
    | 0, _ => rw [h0]; simp only [List.getElem_cons_zero, ex]
    | 1, _ => rw [h1]; simp only [List.getElem_cons_succ, List.getElem_cons_zero, ey])
  exact this

theorem num_at {w : World} {B g cap : Nat} {xs : List Nat} (h : w.ownsRow B 3 1 (.slice (some ⟨g, 0, none⟩) 12 cap) 12 (nums xs)) (hl : xs.length = 12) (hall : ∀ x ∈ xs, x < 10000) (j : Nat) (hj : j < 12) : ∃ x : Nat, x < 10000 ∧ w.cell? ⟨g, j, none⟩ = some (.int .i64 (x : Int)) := by
  have hj' : j < xs.length := by omega
  refine ⟨xs[j], hall _ (List.getElem_mem hj'), ?_⟩
  rw [h.cellAt j (by omega)]
  simp [nums, hj']

theorem big_any (A : Option Addr) (len cap : Nat) (w : World) :
    Calls Tryd.prog 7 #[.slice A len cap] w fun e w' => e = .returned (.bool (decide (1048576 < (len : Int)))) ∧ w = w' := by
  go_enter Tryd.func7, Tryd.ntmps7
  go_wp2
  go_ret
  exact ⟨rfl, rfl⟩

theorem quiet_left {P : Program} {f : FuncId} {args : Array Value} {w : World} {n : Nat} {v : Value}
    (h : Calls P f args (w.drewN n) fun e w' => e = .returned v ∧ w.drewN n = w') : Calls P f args (w.drewN n) fun e w'' => e = .returned v ∧ ∃ m, w'' = w.drewN m :=
  h.mono fun _ _ ⟨he, hm⟩ => ⟨he, n, hm.symm⟩

theorem dec_spell (n : Nat) (hn : n ≤ 1000000000) (w : World) (hh : Held w) :
    Calls Tryd.prog 9 #[.int .i64 (n : Int)] w fun e w' => e = .returned (.string ⟨(Lib.decDigits n).toArray⟩) ∧ Below w.heap.size w w' := by
  refine (implDec_any (n : Int) (by omega) (by omega) w hh.tab).mono fun e w' k => ⟨?_, k.2⟩
  rw [k.1, Lib.itoa_nonneg]

theorem unhex_back (tx : ByteArray) (h : tx.size ≤ 20000) (w : World) :
    Calls Tryd.prog 11 #[.string ⟨(hexOf tx.data.toList).toArray⟩] w fun e w' => e = .returned (.tuple #[.string tx, .bool true]) ∧ Below w.heap.size w w' := by
  have hl : tx.data.toList.length = tx.size := by simp
  have hs := hex_size tx.data.toList
  refine (implUnhex_short ⟨(hexOf tx.data.toList).toArray⟩ w (by omega) (by omega)).mono fun e w' hh => ⟨?_, hh.2⟩
  rw [hh.1.1 (good_hex _), hs, show 2 * tx.data.toList.length / 2 = tx.data.toList.length by omega, outB_hex]
  rfl

theorem undrew {B : Nat} {w w' : World} (h : Below B w.drew w') : Below B w w' := ⟨h.os, h.tape, h.output, h.size, h.block⟩

set_option maxRecDepth 100000 in
set_option maxHeartbeats 2000000 in
theorem walk (a0 : Option Addr) (len0 cap0 : Nat) (z0 : List Int) (w : World) (w0 : IsRow .u8 w a0 len0 cap0 z0) (hL : laidMet Tryd.prog Rows.fnFiguresRow.laid w) :
    Calls Tryd.prog 3 #[.slice a0 len0 cap0] w fun e w' => e = .returned (.bool true) ∧ Below w.heap.size w w' := by
  have hh := held_of_laid hL
  have hcame := came_of_row w0
  have HG := Lib.hid (fun W => big_any a0 len0 cap0 W)
  clear hL w0
  by_cases h1 : 1048576 < len0
  · have hd : decide (1048576 < (len0 : Int)) = true := by simp; omega
    clear hh hcame
    go_enter Tryd.func3, Tryd.ntmps3
    go_wp2_with (go_at_call 7; refine (HG.out _).mono ?_; rintro e w1 ⟨rfl, rfl⟩)
    go_ret
    exact ⟨rfl, Below.refl _ _⟩
  · have hd : decide (1048576 < (len0 : Int)) = false := by simp; omega
    have HH := Lib.hid hh
    have HC := Lib.hid hcame
    clear hh hcame
    go_enter Tryd.func3, Tryd.ntmps3
    go_wp2_with (go_at_call 7; refine (HG.out _).mono ?_; rintro e w1 ⟨rfl, rfl⟩)
    refine (places_any w a0 len0 cap0 (by omega) HC.out).mono ?_
    rintro e w1 ⟨v, xs, hl, hall, rfl, hown, hb1⟩
    obtain ⟨A, cap, rfl, hA⟩ := own_form hown
    obtain ⟨g, rfl⟩ := hA (by omega)
    have hg := own_lt hown
    obtain ⟨p0, l0, c0⟩ := num_at hown hl hall 0 (by omega)
    obtain ⟨p1, l1, c1⟩ := num_at hown hl hall 1 (by omega)
    obtain ⟨p2, l2, c2⟩ := num_at hown hl hall 2 (by omega)
    obtain ⟨p3, l3, c3⟩ := num_at hown hl hall 3 (by omega)
    obtain ⟨p4, l4, c4⟩ := num_at hown hl hall 4 (by omega)
    obtain ⟨p5, l5, c5⟩ := num_at hown hl hall 5 (by omega)
    obtain ⟨p6, l6, c6⟩ := num_at hown hl hall 6 (by omega)
    obtain ⟨p7, l7, c7⟩ := num_at hown hl hall 7 (by omega)
    have B1 := Lib.hid hb1
    have C0 := Lib.hid c0
    have C1 := Lib.hid c1
    have C2 := Lib.hid c2
    have C3 := Lib.hid c3
    have C4 := Lib.hid c4
    clear hown hl hall hA c0 c1 c2 c3 c4
    have hcv := fun W g => conv_two (IntKind.u8.wrap (p6 : Int)) (IntKind.u8.wrap (p7 : Int)) (by rw [IntKind.wrap_u8]; omega) (by rw [IntKind.wrap_u8]; omega) (by rw [IntKind.wrap_u8]; omega) (by rw [IntKind.wrap_u8]; omega) W g
    have hcv1 : ∀ W : World, (convert 22 9 (.slice (some ⟨W.heap.size, 0, none⟩) 2 2)).run Tryd.prog (W.alloc (.cells #[.int .u8 (IntKind.u8.wrap (p6 : Int)), .int .u8 (IntKind.u8.wrap (p7 : Int))] 5)) = .ok (.string ⟨#[UInt8.ofNat (IntKind.u8.wrap (p6 : Int)).toNat, UInt8.ofNat (IntKind.u8.wrap (p7 : Int)).toNat]⟩) (W.alloc (.cells #[.int .u8 (IntKind.u8.wrap (p6 : Int)), .int .u8 (IntKind.u8.wrap (p7 : Int))] 5)) := fun W => hcv _ W.heap.size (by simp) (by simp)
    generalize UInt8.ofNat (IntKind.u8.wrap (p6 : Int)).toNat = y6 at hcv hcv1
    generalize UInt8.ofNat (IntKind.u8.wrap (p7 : Int)).toNat = y7 at hcv hcv1
    have D := Lib.hid (fun W ht => implDec_any (p5 : Int) (by omega) (by omega) W ht)
    have hit := Lib.itoa_length_le (p5 : Int) (by omega) (by omega)
    clear hb1
    go_upto_region 4 with fail
    go_cut [4] (fun tv wx => tv = .string (⟨(Lib.itoa (p5 : Int)).toArray⟩ ++ ⟨#[y6, y7]⟩) ∧ Below w1.heap.size w1 wx)
    case first =>
      go_region_held (fun w' => w'.cell? ⟨g, 5, none⟩ = some (.int .i64 (p5 : Int)) ∧ w'.cell? ⟨g, 6, none⟩ = some (.int .i64 (p6 : Int)) ∧ w'.cell? ⟨g, 7, none⟩ = some (.int .i64 (p7 : Int)))
        (first | go_keep | (go_split_ands; refine ⟨?_, ?_, ?_⟩ <;> (first | assumption | go_keep | (rw [hbd.cell (by simp; omega)]; first | assumption | go_keep))))
        (first | (go_at_call 9; refine (D.out _ ?_).mono ?_; (exact pow10_below (HH.out.below B1.out).tab (by first | exact Below.refl _ _ | exact (Below.refl _ _).drew | exact ((Below.refl _ _).alloc (Nat.le_refl _) _).drew)); rintro e w2 ⟨rfl, hbd⟩; (try (have hk0 : w2.cell? ⟨w1.heap.size, 0, none⟩ = some (.int .u8 (IntKind.u8.wrap (p6 : Int))) := by rw [hbd.cell (by simp)]; simp)); (try (have hk1 : w2.cell? ⟨w1.heap.size, 1, none⟩ = some (.int .u8 (IntKind.u8.wrap (p7 : Int))) := by rw [hbd.cell (by simp)]; simp))))
      all_goals (go_wp2_with fail; go_meet; first | exact ⟨rfl, (undrew hbd).alloc (undrew hbd).size _⟩ | exact ⟨rfl, hbd.alloc hbd.size _⟩ | exact ⟨rfl, ((Below.refl _ _).alloc (Nat.le_refl _) _).trans ((undrew hbd).mono (by simp))⟩ | exact ⟨rfl, ((Below.refl _ _).alloc (Nat.le_refl _) _).trans (hbd.mono (by simp))⟩)
    case rest =>
    obtain ⟨rfl, hb2⟩ := hcut
    have htx : (⟨(Lib.itoa (p5 : Int)).toArray⟩ ++ ⟨#[y6, y7]⟩ : ByteArray).size ≤ 23 := by
      rw [ByteArray.size_append]
      have e1 : (ByteArray.mk (Lib.itoa (p5 : Int)).toArray).size = (Lib.itoa (p5 : Int)).length := List.size_toArray
      have e2 : (ByteArray.mk #[y6, y7]).size = 2 := rfl
      omega
    generalize (⟨(Lib.itoa (p5 : Int)).toArray⟩ ++ ⟨#[y6, y7]⟩ : ByteArray) = tx at htx ⊢
    have B2 := Lib.hid (B1.out.trans (hb2.mono B1.out.size))
    have D0 := Lib.hid ((hb2.cell (p := ⟨g, 0, none⟩) hg).trans C0.out)
    have D1 := Lib.hid ((hb2.cell (p := ⟨g, 1, none⟩) hg).trans C1.out)
    have D2 := Lib.hid ((hb2.cell (p := ⟨g, 2, none⟩) hg).trans C2.out)
    have D3 := Lib.hid ((hb2.cell (p := ⟨g, 3, none⟩) hg).trans C3.out)
    have D4 := Lib.hid ((hb2.cell (p := ⟨g, 4, none⟩) hg).trans C4.out)
    have hg2 : g < wc.heap.size := Nat.lt_of_lt_of_le hg hb2.size
    clear hb2 hcv hcv1 C0 C1 C2 C3 C4 c5 c6 c7 D hg B1 hit
    go_wp2_with fail
    refine (implHex_small tx wc (by omega)).mono ?_
    rintro e w3 ⟨rfl, hb3⟩
    have B3 := Lib.hid (B2.out.trans (hb3.mono B2.out.size))
    have E0 := Lib.hid ((hb3.cell (p := ⟨g, 0, none⟩) hg2).trans D0.out)
    have E1 := Lib.hid ((hb3.cell (p := ⟨g, 1, none⟩) hg2).trans D1.out)
    have E2 := Lib.hid ((hb3.cell (p := ⟨g, 2, none⟩) hg2).trans D2.out)
    have E3 := Lib.hid ((hb3.cell (p := ⟨g, 3, none⟩) hg2).trans D3.out)
    have E4 := Lib.hid ((hb3.cell (p := ⟨g, 4, none⟩) hg2).trans D4.out)
    have hg3 : g < w3.heap.size := Nat.lt_of_lt_of_le hg2 hb3.size
    have hl : tx.data.toList.length = tx.size := by simp
    have hsz := hex_size tx.data.toList
    have hun := unhex_back tx (by omega) w3
    generalize (⟨(hexOf tx.data.toList).toArray⟩ : ByteArray) = hx at hsz hun ⊢
    have hsz2 : hx.size = 2 * tx.size := by omega
    have HX := Lib.hid hsz2
    have HU := Lib.hid hun
    have hx46 : hx.size ≤ 46 := by omega
    clear hb3 D0 D1 D2 D3 D4 hg2 B2 hl hsz hun hsz2
    go_wp2_with fail
    refine HU.out.mono ?_
    rintro e w4 ⟨rfl, hb4⟩
    have B4 := Lib.hid (B3.out.trans (hb4.mono B3.out.size))
    have F0 := (hb4.cell (p := ⟨g, 0, none⟩) hg3).trans E0.out
    have F1 := (hb4.cell (p := ⟨g, 1, none⟩) hg3).trans E1.out
    have F2 := Lib.hid ((hb4.cell (p := ⟨g, 2, none⟩) hg3).trans E2.out)
    have F3 := Lib.hid ((hb4.cell (p := ⟨g, 3, none⟩) hg3).trans E3.out)
    have F4 := Lib.hid ((hb4.cell (p := ⟨g, 4, none⟩) hg3).trans E4.out)
    have hg4 : g < w4.heap.size := Nat.lt_of_lt_of_le hg3 hb4.size
    clear hb4 E0 E1 E2 E3 E4 hg3 B3
    have m1 : IntKind.i64.wrap ((p0 : Int) * 10000) = (p0 : Int) * 10000 := IntWalk.i64_in _ (by omega)
    have m2 : IntKind.i64.wrap ((p0 : Int) * 10000 + (p1 : Int)) = (p0 : Int) * 10000 + (p1 : Int) := IntWalk.i64_in _ (by omega)
    go_wp2_with fail
    go_quiet (fail)
    clear m1 m2
    obtain ⟨n, hn⟩ : ∃ n : Nat, n = p0 * 10000 + p1 := ⟨_, rfl⟩
    have hn9 : n ≤ 1000000000 := by omega
    have hnI : (p0 : Int) * 10000 + (p1 : Int) = (n : Int) := by omega
    rw [hnI]
    clear hn hnI F0 F1
    have hh5 := (HH.out.below B4.out).below (belowN (Below.refl _ w4) nq)
    have DD := Lib.hid (dec_spell n hn9 (w4.drewN nq) hh5)
    have H5 := Lib.hid hh5
    clear hh5
    go_wp2_with fail
    refine DD.out.mono ?_
    rintro e w5 ⟨rfl, hb5⟩
    have RR := Lib.hid (implRead_yes ⟨(Lib.decDigits n).toArray⟩ n ⟨hn9, by simp⟩ w5 (H5.out.below hb5))
    have B5 := Lib.hid ((belowN B4.out nq).trans (hb5.mono (belowN B4.out nq).size))
    have G2 := Lib.hid ((hb5.cell (p := ⟨g, 2, none⟩) hg4).trans F2.out)
    have G3 := Lib.hid ((hb5.cell (p := ⟨g, 3, none⟩) hg4).trans F3.out)
    have G4 := Lib.hid ((hb5.cell (p := ⟨g, 4, none⟩) hg4).trans F4.out)
    have hg5 : g < w5.heap.size := Nat.lt_of_lt_of_le hg4 hb5.size
    clear hb5 F2 F3 F4 hg4 B4 H5 DD
    go_wp2_with fail
    refine RR.out.mono ?_
    rintro e w6 ⟨rfl, hb6⟩
    have B6 := Lib.hid (B5.out.trans (hb6.mono B5.out.size))
    have H2 := (hb6.cell (p := ⟨g, 2, none⟩) hg5).trans G2.out
    have H3 := (hb6.cell (p := ⟨g, 3, none⟩) hg5).trans G3.out
    have H4 := (hb6.cell (p := ⟨g, 4, none⟩) hg5).trans G4.out
    clear hb6 G2 G3 G4 hg5 B5 RR
    have m1 : IntKind.i64.wrap ((p2 : Int) - 5000) = (p2 : Int) - 5000 := IntWalk.i64_in _ (by omega)
    have m2 : IntKind.i64.wrap (-(p3 : Int)) = -(p3 : Int) := IntWalk.i64_in _ (by omega)
    have bd := brought_bd ((p2 : Int) - 5000) (-(p3 : Int)) (p4 : Int) (by omega)
    have BD := Lib.hid bd
    clear bd
    go_wp2_with fail
    go_quiet ((go_at_call 13; exact quiet_left (brought_any _ _ _ _)))
    clear m1
    have bd := BD.out
    generalize brought ((p2 : Int) - 5000) (-(p3 : Int)) (p4 : Int) = bb at bd ⊢
    obtain ⟨b1, b2, b3⟩ := bd
    have K3 : (w6.drewN nq).cell? ⟨g, 3, none⟩ = some (.int .i64 (p3 : Int)) := H3
    have K4 : (w6.drewN nq).cell? ⟨g, 4, none⟩ = some (.int .i64 (p4 : Int)) := H4
    have B7 := Lib.hid (belowN B6.out nq)
    generalize w6.drewN nq = w7 at K3 K4 B7 ⊢
    have q1 : decide (-(p3 : Int) ≤ bb) = true := by simpa using b1
    have q2 : decide (bb ≤ (p4 : Int)) = true := by simpa using b2
    have q3 : ((hx.size : Int) == 2 * (tx.size : Int)) = true := by have := HX.out; simp; omega
    have m3 : IntKind.i64.wrap (2 * (tx.size : Int)) = 2 * (tx.size : Int) := IntWalk.i64_in _ (by omega)
    clear H2 H3 H4 BD
    go_wp2_with fail
    go_quiet ((go_at_call 13; exact quiet_left (b3 ▸ brought_any _ _ _ _)))
    go_wp2
    go_ret
    exact ⟨rfl, belowN B7.out _⟩
end Go.Proofs.YteebkaajalelaaaDoor.fnFigures
