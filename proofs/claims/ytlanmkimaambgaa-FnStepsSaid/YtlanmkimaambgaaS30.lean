/-
  The reference's StepOp: the contract of spec.StepOp.
  A step of the reference as two rows.
  The reference's Capped: the contract of spec.Capped.
  The program's Capped: the contract of impl.Capped.
-/
import Derived.Test.YtlanmkimaambgaaS27
import Derived.Test.YtlanmkimaambgaaS28
import Derived.Test.YtlanmkimaambgaaS29
import Derived.Test.YtlanmkimaambgaaS26
import Derived.Test.YtlanmkimaambgaaS9
import Derived.Test.YtlanmkimaambgaaS20

namespace Go.Proofs.Ytlanmkimaambgaa.hexes
open Go.RowKit

set_option maxRecDepth 1000000 in
set_option maxHeartbeats 16000000 in
theorem specStep_any (gs : List Nd) (wk cp : Int) (A : Option Addr) (n c : Nat) (hl : gs.length = n) (ho : ∀ x ∈ gs, x.2.2.2.length ≤ 1048576) (hn : n ≤ 1048576) (ces : List Ce) (A2 : Option Addr) (n2 c2 : Nat) (hl2 : ces.length = n2) (hA2 : A2 = none → c2 = 0) (hc2 : n2 ≤ c2) (hn2 : n2 ≤ 2000000) (r0 r1 r2 r3 r4 : Int) (w : World) (h : Nds w A gs) (h2 : Ces w A2 ces) :
    Calls Try.prog 9 #[.agg #[.slice A n c, .int .i64 wk, .int .i64 cp], .slice A2 n2 c2, .agg #[.int .i64 r0, .int .i64 r1, .int .i64 r2, .int .i64 r3, .int .i64 r4]] w (StepEnd w (stepGr gs wk cp ces (r0, (r1, r2), r3, r4))) := by
  cases hg : goX gs (r0, (r1, r2), r3, r4) with
  | false => exact specStepA gs wk cp A n c hl ho hn ces A2 n2 c2 hl2 hA2 hc2 hn2 r0 r1 r2 r3 r4 w h h2 hg
  | true =>
    cases hr : remX gs r0 with
    | false => exact specStepB gs wk cp A n c hl ho hn ces A2 n2 c2 hl2 hA2 hc2 hn2 r0 r1 r2 r3 r4 w h h2 hg hr
    | true => exact specStepC gs wk cp A n c hl ho hn ces A2 n2 c2 hl2 hA2 hc2 hn2 r0 r1 r2 r3 r4 w h h2 hg hr
end Go.Proofs.Ytlanmkimaambgaa.hexes

namespace Go.Proofs.Ytlanmkimaambgaa.hexes
open Go.RowKit

theorem specStep_rows {gs : List Nd} {wk cp : Int} {A : Option Addr} {n c : Nat} {ces : List Ce} {A2 : Option Addr} {n2 c2 : Nat} {r0 r1 r2 r3 r4 : Int} {us : List Ce} {out : List Rc} {ok : Bool} {m3 m4 : Nat} (hq : stepGr gs wk cp ces (r0, (r1, r2), r3, r4) = ((us, out), ok)) (h3 : us.length = m3) (h4 : out.length = m4) (hl : gs.length = n) (ho : ∀ x ∈ gs, x.2.2.2.length ≤ 1048576) (hn : n ≤ 1048576) (hl2 : ces.length = n2) (hA2 : A2 = none → c2 = 0) (hc2 : n2 ≤ c2) (hn2 : n2 ≤ 2000000) (w : World) (h : Nds w A gs) (h2 : Ces w A2 ces) :
    Calls Try.prog 9 #[.agg #[.slice A n c, .int .i64 wk, .int .i64 cp], .slice A2 n2 c2, .agg #[.int .i64 r0, .int .i64 r1, .int .i64 r2, .int .i64 r3, .int .i64 r4]] w fun e w' => ∃ A3 c3 A4 c4, e = .returned (.tuple #[.slice A3 m3 c3, .slice A4 m4 c4, .bool ok]) ∧ Row w' w.heap.size w'.heap.size 75 4 A3 m3 c3 (ceCells us) ∧ Row w' w.heap.size w'.heap.size 31 5 A4 m4 c4 (rcCells out) ∧ Below w.heap.size w w' :=
  (specStep_any gs wk cp A n c hl ho hn ces A2 n2 c2 hl2 hA2 hc2 hn2 r0 r1 r2 r3 r4 w h h2).mono fun _ _ he => he.rows hq h3 h4
end Go.Proofs.Ytlanmkimaambgaa.hexes

namespace Go.Proofs.Ytlanmkimaambgaa.hexes
open Go.RowKit

set_option maxRecDepth 1000000 in
set_option maxHeartbeats 8000000 in
theorem specCap_any (gs : List Nd) (wk cp : Int) (A : Option Addr) (n c : Nat) (hl : gs.length = n) (ho : ∀ x ∈ gs, x.2.2.2.length ≤ 1048576) (hn : n ≤ 1048576) (r0 r1 r2 r3 r4 : Int) (w : World) (h : Nds w A gs) :
    Calls Try.prog 13 #[.agg #[.slice A n c, .int .i64 wk, .int .i64 cp], .agg #[.int .i64 r0, .int .i64 r1, .int .i64 r2, .int .i64 r3, .int .i64 r4]] w fun e w' => e = .returned (.bool (capG gs wk cp (r0, (r1, r2), r3, r4))) ∧ Below w.heap.size w w' := by
  obtain ⟨⟨k, a, b, zs⟩, hx⟩ : ∃ x, nodeAt gs r0 = x := ⟨_, rfl⟩
  obtain ⟨m, hm⟩ : ∃ m, zs.length = m := ⟨_, rfl⟩
  obtain ⟨q, hq⟩ : ∃ q, hasB gs r0 = q := ⟨_, rfl⟩
  obtain ⟨gk, hgk⟩ : ∃ q, okGr gs dec1 wk cp = q := ⟨_, rfl⟩
  obtain ⟨rk, hrk⟩ : ∃ q, okRc (r0, (r1, r2), r3, r4) = q := ⟨_, rfl⟩
  obtain ⟨ny, hny⟩ : ∃ y, nextY r1 r2 = y := ⟨_, rfl⟩
  obtain ⟨hv, hhv⟩ : ∃ y, hasNext r1 r2 = y := ⟨_, rfl⟩
  have SN := Lib.hid (show capG gs wk cp (r0, (r1, r2), r3, r4) = (q && gk && rk && decide (k = 7) && decide (0 < m) && !hv) by
    unfold capG
    simp only [hx, hq, hgk, hrk, hm, hhv])
  have HX := Lib.hid hx
  have HM := Lib.hid hm
  have HQ := Lib.hid hq
  have HGK := Lib.hid hgk
  have HRK := Lib.hid hrk
  have HNY := Lib.hid hny
  have HHV := Lib.hid hhv
  have HL := Lib.hid hl
  have HO := Lib.hid ho
  have S0 := Lib.hid h
  clear hx hm hq hgk hrk hny hhv hl ho h
  obtain ⟨V, hW⟩ : ∃ z, ((w.alloc (.cells #[.slice A n c, .int .i64 wk, .int .i64 cp] 26)).alloc (.cells #[.int .i64 r0, .int .i64 r1, .int .i64 r2, .int .i64 r3, .int .i64 r4] 31)) = z := ⟨_, rfl⟩
  have hb : Below w.heap.size w V := by rw [← hW]; exact (((Below.refl _ _).alloc (by first | (simp; done) | (simp; omega) | omega) _).alloc (by first | (simp; done) | (simp; omega) | omega) _)
  have az : V.heap.size = w.heap.size + 2 := by rw [← hW]; simp
  have NG := Lib.hid (show Blk V (w.heap.size) 26 #[.slice A n c, .int .i64 wk, .int .i64 cp] by rw [← hW]; exact ((Below.heap_alloc _ _ _ (by first | (simp; done) | (simp; omega))).trans (Blk.new _ _ _)))
  have NR := Lib.hid (show Blk V (w.heap.size + 1) 31 #[.int .i64 r0, .int .i64 r1, .int .i64 r2, .int .i64 r3, .int .i64 r4] by rw [← hW]; exact ((show w.heap.size + 1 = ((w.alloc _)).heap.size by simp) ▸ Blk.new _ _ _))
  have AZV := Lib.hid az
  clear az
  have sz1 := hb.size
  have B1 := Lib.hid (hb)
  clear hb
  have G_1 := NG
  clear NG
  have ltG : w.heap.size < V.heap.size := G_1.out.lt
  have R_1 := NR
  clear NR
  have ltR : w.heap.size + 1 < V.heap.size := R_1.out.lt
  go_enter Try.func13, Try.ntmps13
  have xG0 : V.cell? ⟨w.heap.size, 0, none⟩ = some (.slice A n c) := by rw [G_1.out.cell]; rfl
  have xG1 : V.cell? ⟨w.heap.size, 1, none⟩ = some (.int .i64 wk) := by rw [G_1.out.cell]; rfl
  have xG2 : V.cell? ⟨w.heap.size, 2, none⟩ = some (.int .i64 cp) := by rw [G_1.out.cell]; rfl
  have xR0 : V.cell? ⟨w.heap.size + 1, 0, none⟩ = some (.int .i64 r0) := by rw [R_1.out.cell]; rfl
  have xR1 : V.cell? ⟨w.heap.size + 1, 1, none⟩ = some (.int .i64 r1) := by rw [R_1.out.cell]; rfl
  have xR2 : V.cell? ⟨w.heap.size + 1, 2, none⟩ = some (.int .i64 r2) := by rw [R_1.out.cell]; rfl
  have xR3 : V.cell? ⟨w.heap.size + 1, 3, none⟩ = some (.int .i64 r3) := by rw [R_1.out.cell]; rfl
  have xR4 : V.cell? ⟨w.heap.size + 1, 4, none⟩ = some (.int .i64 r4) := by rw [R_1.out.cell]; rfl
  go_wp2_with fail
  clear hW xG0 xG1 xG2 xR0 xR1 xR2 xR3 xR4
  refine (specNodeOf_row HX.out HM.out HQ.out wk cp A n c HL.out HO.out hn _ (S0.out.below B1.out)).mono ?_
  rintro e w4 ⟨An, cn, rfl, rZ, hb⟩
  have sz2 := hb.size
  have B2 := Lib.hid (below_chain B1.out hb)
  have G_2 := Lib.hid (G_1.out.below hb)
  have R_2 := Lib.hid (R_1.out.below hb)
  clear hb B1 G_1 R_1
  have Z_2 := Lib.hid rZ
  clear rZ
  obtain ⟨V4, hW⟩ : ∃ z, (w4.alloc (.cells #[.int .i64 k, .int .i64 a, .int .i64 b, .slice An m cn] 42)) = z := ⟨_, rfl⟩
  have hb : Below w4.heap.size w4 V4 := by rw [← hW]; exact ((Below.refl _ _).alloc (by first | (simp; done) | (simp; omega) | omega) _)
  have az : V4.heap.size = w4.heap.size + 1 := by rw [← hW]; simp
  have NN := Lib.hid (show Blk V4 (w4.heap.size) 42 #[.int .i64 k, .int .i64 a, .int .i64 b, .slice An m cn] by rw [← hW]; exact (Blk.new _ _ _))
  have AZV4 := Lib.hid az
  clear az
  have sz3 := hb.size
  have B3 := Lib.hid (below_chain B2.out hb)
  have Z_3 := Lib.hid (Z_2.out.below hb)
  have G_3 := Lib.hid (G_2.out.below hb)
  have R_3 := Lib.hid (R_2.out.below hb)
  clear hb B2 Z_2 G_2 R_2
  have N_3 := NN
  clear NN
  have ltN : w4.heap.size < V4.heap.size := N_3.out.lt
  have xR0 : V4.cell? ⟨w.heap.size + 1, 0, none⟩ = some (.int .i64 r0) := by rw [R_3.out.cell]; rfl
  have xR1 : V4.cell? ⟨w.heap.size + 1, 1, none⟩ = some (.int .i64 r1) := by rw [R_3.out.cell]; rfl
  have xR2 : V4.cell? ⟨w.heap.size + 1, 2, none⟩ = some (.int .i64 r2) := by rw [R_3.out.cell]; rfl
  have xR3 : V4.cell? ⟨w.heap.size + 1, 3, none⟩ = some (.int .i64 r3) := by rw [R_3.out.cell]; rfl
  have xR4 : V4.cell? ⟨w.heap.size + 1, 4, none⟩ = some (.int .i64 r4) := by rw [R_3.out.cell]; rfl
  go_wp2_with fail
  clear hW xR0 xR1 xR2 xR3 xR4
  refine (specNext_any r1 r2 _).mono ?_
  rintro e w5 ⟨rfl, hb⟩
  rw [HNY.out, HHV.out]
  have sz4 := hb.size
  have B4 := Lib.hid (below_chain B3.out hb)
  have Z_4 := Lib.hid (Z_3.out.below hb)
  have G_4 := Lib.hid (G_3.out.below hb)
  have R_4 := Lib.hid (R_3.out.below hb)
  have N_4 := Lib.hid (N_3.out.below hb)
  clear hb B3 Z_3 G_3 R_3 N_3
  obtain ⟨V5, hW⟩ : ∃ z, (w5.alloc (.cells #[.int .i64 r1, .int .i64 ny] 29)) = z := ⟨_, rfl⟩
  have hb : Below w5.heap.size w5 V5 := by rw [← hW]; exact ((Below.refl _ _).alloc (by first | (simp; done) | (simp; omega) | omega) _)
  have az : V5.heap.size = w5.heap.size + 1 := by rw [← hW]; simp
  have NT := Lib.hid (show Blk V5 (w5.heap.size) 29 #[.int .i64 r1, .int .i64 ny] by rw [← hW]; exact (Blk.new _ _ _))
  have AZV5 := Lib.hid az
  clear az
  have sz5 := hb.size
  have B5 := Lib.hid (below_chain B4.out hb)
  have Z_5 := Lib.hid (Z_4.out.below hb)
  have G_5 := Lib.hid (G_4.out.below hb)
  have R_5 := Lib.hid (R_4.out.below hb)
  have N_5 := Lib.hid (N_4.out.below hb)
  clear hb B4 Z_4 G_4 R_4 N_4
  have T_5 := NT
  clear NT
  have ltT : w5.heap.size < V5.heap.size := T_5.out.lt
  cases q with
  | false =>
    go_wp2
    have HF := Lib.hid (show capG gs wk cp (r0, (r1, r2), r3, r4) = false by rw [SN.out]; first | (simp; done) | (simp [*]; done))
    clear hW
    exact bodyPost_ret (v := .bool false) (by simp [results, Try.results13, go_sem]) rfl ⟨by rw [HF.out], B5.out⟩
  | true =>
    have xG0 : V5.cell? ⟨w.heap.size, 0, none⟩ = some (.slice A n c) := by rw [G_5.out.cell]; rfl
    have xG1 : V5.cell? ⟨w.heap.size, 1, none⟩ = some (.int .i64 wk) := by rw [G_5.out.cell]; rfl
    have xG2 : V5.cell? ⟨w.heap.size, 2, none⟩ = some (.int .i64 cp) := by rw [G_5.out.cell]; rfl
    go_wp2_with fail
    clear hW xG0 xG1 xG2
    refine (specGrOk_any gs wk cp A n c HL.out HO.out hn HGK.out _ (S0.out.below B5.out)).mono ?_
    rintro e w6 ⟨rfl, hb⟩
    have sz6 := hb.size
    have B6 := Lib.hid (below_chain B5.out hb)
    have Z_6 := Lib.hid (Z_5.out.below hb)
    have G_6 := Lib.hid (G_5.out.below hb)
    have R_6 := Lib.hid (R_5.out.below hb)
    have N_6 := Lib.hid (N_5.out.below hb)
    have T_6 := Lib.hid (T_5.out.below hb)
    clear hb B5 Z_5 G_5 R_5 N_5 T_5
    cases gk with
    | false =>
      go_wp2
      have HF := Lib.hid (show capG gs wk cp (r0, (r1, r2), r3, r4) = false by rw [SN.out]; first | (simp; done) | (simp [*]; done))
      exact bodyPost_ret (v := .bool false) (by simp [results, Try.results13, go_sem]) rfl ⟨by rw [HF.out], B6.out⟩
    | true =>
      have xR0 : w6.cell? ⟨w.heap.size + 1, 0, none⟩ = some (.int .i64 r0) := by rw [R_6.out.cell]; rfl
      have xR1 : w6.cell? ⟨w.heap.size + 1, 1, none⟩ = some (.int .i64 r1) := by rw [R_6.out.cell]; rfl
      have xR2 : w6.cell? ⟨w.heap.size + 1, 2, none⟩ = some (.int .i64 r2) := by rw [R_6.out.cell]; rfl
      have xR3 : w6.cell? ⟨w.heap.size + 1, 3, none⟩ = some (.int .i64 r3) := by rw [R_6.out.cell]; rfl
      have xR4 : w6.cell? ⟨w.heap.size + 1, 4, none⟩ = some (.int .i64 r4) := by rw [R_6.out.cell]; rfl
      go_wp2_with fail
      clear xR0 xR1 xR2 xR3 xR4
      refine (specRcOkG_is HRK.out _).mono ?_
      rintro e w7 ⟨rfl, hb⟩
      have sz7 := hb.size
      have B7 := Lib.hid (below_chain B6.out hb)
      have Z_7 := Lib.hid (Z_6.out.below hb)
      have G_7 := Lib.hid (G_6.out.below hb)
      have R_7 := Lib.hid (R_6.out.below hb)
      have N_7 := Lib.hid (N_6.out.below hb)
      have T_7 := Lib.hid (T_6.out.below hb)
      clear hb B6 Z_6 G_6 R_6 N_6 T_6
      cases rk with
      | false =>
        go_wp2
        have HF := Lib.hid (show capG gs wk cp (r0, (r1, r2), r3, r4) = false by rw [SN.out]; first | (simp; done) | (simp [*]; done))
        exact bodyPost_ret (v := .bool false) (by simp [results, Try.results13, go_sem]) rfl ⟨by rw [HF.out], B7.out⟩
      | true =>
        by_cases k7 : k = 7
        rotate_left
        · skip
          have d7 : (k == 7) = false := by simpa using k7
          have xN0 : w7.cell? ⟨w4.heap.size, 0, none⟩ = some (.int .i64 k) := by rw [N_7.out.cell]; rfl
          have xN1 : w7.cell? ⟨w4.heap.size, 1, none⟩ = some (.int .i64 a) := by rw [N_7.out.cell]; rfl
          have xN2 : w7.cell? ⟨w4.heap.size, 2, none⟩ = some (.int .i64 b) := by rw [N_7.out.cell]; rfl
          have xN3 : w7.cell? ⟨w4.heap.size, 3, none⟩ = some (.slice An m cn) := by rw [N_7.out.cell]; rfl
          go_wp2
          have HF := Lib.hid (show capG gs wk cp (r0, (r1, r2), r3, r4) = false by rw [SN.out]; first | (simp; done) | (simp [*]; done))
          clear xN0 xN1 xN2 xN3
          exact bodyPost_ret (v := .bool false) (by simp [results, Try.results13, go_sem]) rfl ⟨by rw [HF.out], B7.out⟩
        subst k7
        by_cases m0 : 0 < m
        rotate_left
        · skip
          obtain rfl : m = 0 := by omega
          have xN0 : w7.cell? ⟨w4.heap.size, 0, none⟩ = some (.int .i64 7) := by rw [N_7.out.cell]; rfl
          have xN1 : w7.cell? ⟨w4.heap.size, 1, none⟩ = some (.int .i64 a) := by rw [N_7.out.cell]; rfl
          have xN2 : w7.cell? ⟨w4.heap.size, 2, none⟩ = some (.int .i64 b) := by rw [N_7.out.cell]; rfl
          have xN3 : w7.cell? ⟨w4.heap.size, 3, none⟩ = some (.slice An 0 cn) := by rw [N_7.out.cell]; rfl
          go_wp2
          have HF := Lib.hid (show capG gs wk cp (r0, (r1, r2), r3, r4) = false by rw [SN.out]; first | (simp; done) | (simp [*]; done))
          clear xN0 xN1 xN2 xN3
          exact bodyPost_ret (v := .bool false) (by simp [results, Try.results13, go_sem]) rfl ⟨by rw [HF.out], B7.out⟩
        have qk : decide ((m : Int) > 0) = true := by simp; omega
        have xN0 : w7.cell? ⟨w4.heap.size, 0, none⟩ = some (.int .i64 7) := by rw [N_7.out.cell]; rfl
        have xN1 : w7.cell? ⟨w4.heap.size, 1, none⟩ = some (.int .i64 a) := by rw [N_7.out.cell]; rfl
        have xN2 : w7.cell? ⟨w4.heap.size, 2, none⟩ = some (.int .i64 b) := by rw [N_7.out.cell]; rfl
        have xN3 : w7.cell? ⟨w4.heap.size, 3, none⟩ = some (.slice An m cn) := by rw [N_7.out.cell]; rfl
        cases hv with
        | false =>
          go_wp2
          have HF := Lib.hid (show capG gs wk cp (r0, (r1, r2), r3, r4) = true by rw [SN.out]; first | (simp; done) | (simp [*]; done))
          clear xN0 xN1 xN2 xN3
          exact bodyPost_ret (v := .bool true) (by simp [results, Try.results13, go_sem]) rfl ⟨by rw [HF.out], B7.out⟩
        | true =>
          go_wp2
          have HF := Lib.hid (show capG gs wk cp (r0, (r1, r2), r3, r4) = false by rw [SN.out]; first | (simp; done) | (simp [*]; done))
          clear xN0 xN1 xN2 xN3
          exact bodyPost_ret (v := .bool false) (by simp [results, Try.results13, go_sem]) rfl ⟨by rw [HF.out], B7.out⟩
end Go.Proofs.Ytlanmkimaambgaa.hexes

namespace Go.Proofs.Ytlanmkimaambgaa.hexes
open Go.RowKit

set_option maxRecDepth 1000000 in
set_option maxHeartbeats 8000000 in
theorem implCap_any (gs : List Nd) (wk cp : Int) (A : Option Addr) (n c : Nat) (hl : gs.length = n) (ho : ∀ x ∈ gs, x.2.2.2.length ≤ 1048576) (hn : n ≤ 1048576) (r0 r1 r2 r3 r4 : Int) (w : World) (h : Nds w A gs) :
    Calls Try.prog 12 #[.agg #[.slice A n c, .int .i64 wk, .int .i64 cp], .agg #[.int .i64 r0, .int .i64 r1, .int .i64 r2, .int .i64 r3, .int .i64 r4]] w fun e w' => e = .returned (.bool (capG gs wk cp (r0, (r1, r2), r3, r4))) ∧ Below w.heap.size w w' := by
  obtain ⟨⟨k, a, b, zs⟩, hx⟩ : ∃ x, nodeAt gs r0 = x := ⟨_, rfl⟩
  obtain ⟨m, hm⟩ : ∃ m, zs.length = m := ⟨_, rfl⟩
  obtain ⟨gk, hgk⟩ : ∃ q, (hasB gs r0 && okGr gs dec1 wk cp && okRc (r0, (r1, r2), r3, r4)) = q := ⟨_, rfl⟩
  obtain ⟨ny, hny⟩ : ∃ y, nextY r1 r2 = y := ⟨_, rfl⟩
  obtain ⟨hv, hhv⟩ : ∃ y, hasNext r1 r2 = y := ⟨_, rfl⟩
  obtain ⟨res, hres⟩ : ∃ q, capG gs wk cp (r0, (r1, r2), r3, r4) = q := ⟨_, rfl⟩
  rw [hres]
  have SN := Lib.hid (show res = (gk && decide (k = 7) && decide (0 < m) && !hv) by
    rw [← hres]
    unfold capG
    simp only [hx, hm, hhv, hgk])
  have HX := Lib.hid hx
  have HM := Lib.hid hm
  have HGK := Lib.hid hgk
  have HNY := Lib.hid hny
  have HHV := Lib.hid hhv
  have HL := Lib.hid hl
  have HO := Lib.hid ho
  have S0 := Lib.hid h
  clear hx hm hgk hny hhv hl ho h hres
  obtain ⟨V, hW⟩ : ∃ z, ((w.alloc (.cells #[.slice A n c, .int .i64 wk, .int .i64 cp] 26)).alloc (.cells #[.int .i64 r0, .int .i64 r1, .int .i64 r2, .int .i64 r3, .int .i64 r4] 31)) = z := ⟨_, rfl⟩
  have hb : Below w.heap.size w V := by rw [← hW]; exact (((Below.refl _ _).alloc (by first | (simp; done) | (simp; omega) | omega) _).alloc (by first | (simp; done) | (simp; omega) | omega) _)
  have az : V.heap.size = w.heap.size + 2 := by rw [← hW]; simp
  have NG := Lib.hid (show Blk V (w.heap.size) 26 #[.slice A n c, .int .i64 wk, .int .i64 cp] by rw [← hW]; exact ((Below.heap_alloc _ _ _ (by first | (simp; done) | (simp; omega))).trans (Blk.new _ _ _)))
  have NR := Lib.hid (show Blk V (w.heap.size + 1) 31 #[.int .i64 r0, .int .i64 r1, .int .i64 r2, .int .i64 r3, .int .i64 r4] by rw [← hW]; exact ((show w.heap.size + 1 = ((w.alloc _)).heap.size by simp) ▸ Blk.new _ _ _))
  have AZV := Lib.hid az
  clear az
  have sz1 := hb.size
  have B1 := Lib.hid (hb)
  clear hb
  have G_1 := NG
  clear NG
  have ltG : w.heap.size < V.heap.size := G_1.out.lt
  have R_1 := NR
  clear NR
  have ltR : w.heap.size + 1 < V.heap.size := R_1.out.lt
  go_enter Try.func12, Try.ntmps12
  have xG0 : V.cell? ⟨w.heap.size, 0, none⟩ = some (.slice A n c) := by rw [G_1.out.cell]; rfl
  have xG1 : V.cell? ⟨w.heap.size, 1, none⟩ = some (.int .i64 wk) := by rw [G_1.out.cell]; rfl
  have xG2 : V.cell? ⟨w.heap.size, 2, none⟩ = some (.int .i64 cp) := by rw [G_1.out.cell]; rfl
  have xR0 : V.cell? ⟨w.heap.size + 1, 0, none⟩ = some (.int .i64 r0) := by rw [R_1.out.cell]; rfl
  have xR1 : V.cell? ⟨w.heap.size + 1, 1, none⟩ = some (.int .i64 r1) := by rw [R_1.out.cell]; rfl
  have xR2 : V.cell? ⟨w.heap.size + 1, 2, none⟩ = some (.int .i64 r2) := by rw [R_1.out.cell]; rfl
  have xR3 : V.cell? ⟨w.heap.size + 1, 3, none⟩ = some (.int .i64 r3) := by rw [R_1.out.cell]; rfl
  have xR4 : V.cell? ⟨w.heap.size + 1, 4, none⟩ = some (.int .i64 r4) := by rw [R_1.out.cell]; rfl
  go_wp2_with fail
  cases gk with
  | false =>
    clear hW xG0 xG1 xG2 xR0 xR1 xR2 xR3 xR4
    refine (nodeFor_no gs wk cp A n c HL.out HO.out hn r0 r1 r2 r3 r4 _ (S0.out.below B1.out) HGK.out).mono ?_
    rintro e w4 ⟨rfl, hb⟩
    have sz2 := hb.size
    have B2 := Lib.hid (below_chain B1.out hb)
    have G_2 := Lib.hid (G_1.out.below hb)
    have R_2 := Lib.hid (R_1.out.below hb)
    clear hb B1 G_1 R_1
    obtain rfl : res = false := by rw [SN.out]; rfl
    go_wp2
    go_ret
    exact ⟨rfl, B2.out.alloc B2.out.size _⟩
  | true =>
    obtain ⟨⟨hb0, hg0⟩, hr0⟩ : (hasB gs r0 = true ∧ okGr gs dec1 wk cp = true) ∧ okRc (r0, (r1, r2), r3, r4) = true := by
      have h := HGK.out
      simpa only [Bool.and_eq_true] using h
    clear hW xG0 xG1 xG2 xR0 xR1 xR2 xR3 xR4
    refine (nodeFor_yes gs wk cp A n c HL.out HO.out hn r0 r1 r2 r3 r4 _ (S0.out.below B1.out) HX.out HM.out hb0 hg0 hr0).mono ?_
    rintro e w4 ⟨An, cn, rfl, rZ, hb⟩
    have sz2 := hb.size
    have B2 := Lib.hid (below_chain B1.out hb)
    have G_2 := Lib.hid (G_1.out.below hb)
    have R_2 := Lib.hid (R_1.out.below hb)
    clear hb B1 G_1 R_1
    have Z_2 := Lib.hid rZ
    clear rZ
    clear hb0 hg0 hr0
    by_cases m0 : 0 < m
    rotate_left
    · skip
      obtain rfl : m = 0 := by omega
      obtain rfl : res = false := by rw [SN.out]; simp
      go_wp2
      go_ret
      exact ⟨rfl, B2.out.alloc B2.out.size _⟩
    have qm : ((m : Int) == 0) = false := by simp; omega
    obtain ⟨V4, hW⟩ : ∃ z, (w4.alloc (.cells #[.int .i64 k, .int .i64 a, .int .i64 b, .slice An m cn] 42)) = z := ⟨_, rfl⟩
    have hb : Below w4.heap.size w4 V4 := by rw [← hW]; exact ((Below.refl _ _).alloc (by first | (simp; done) | (simp; omega) | omega) _)
    have az : V4.heap.size = w4.heap.size + 1 := by rw [← hW]; simp
    have NN := Lib.hid (show Blk V4 (w4.heap.size) 42 #[.int .i64 k, .int .i64 a, .int .i64 b, .slice An m cn] by rw [← hW]; exact (Blk.new _ _ _))
    have AZV4 := Lib.hid az
    clear az
    have sz3 := hb.size
    have B3 := Lib.hid (below_chain B2.out hb)
    have Z_3 := Lib.hid (Z_2.out.below hb)
    have G_3 := Lib.hid (G_2.out.below hb)
    have R_3 := Lib.hid (R_2.out.below hb)
    clear hb B2 Z_2 G_2 R_2
    have N_3 := NN
    clear NN
    have ltN : w4.heap.size < V4.heap.size := N_3.out.lt
    have xN0 : V4.cell? ⟨w4.heap.size, 0, none⟩ = some (.int .i64 k) := by rw [N_3.out.cell]; rfl
    have xN1 : V4.cell? ⟨w4.heap.size, 1, none⟩ = some (.int .i64 a) := by rw [N_3.out.cell]; rfl
    have xN2 : V4.cell? ⟨w4.heap.size, 2, none⟩ = some (.int .i64 b) := by rw [N_3.out.cell]; rfl
    have xN3 : V4.cell? ⟨w4.heap.size, 3, none⟩ = some (.slice An m cn) := by rw [N_3.out.cell]; rfl
    go_wp2_with fail
    by_cases hr : remB k = true
    · skip
      have KH := Lib.hid (show k ≠ 7 by rintro rfl; exact absurd hr (by decide))
      clear hW xN0 xN1 xN2 xN3
      refine (opOf_mem k a b An m cn hr _).mono ?_
      rintro e w5 ⟨rfl, hb⟩
      have sz4 := hb.size
      have B4 := Lib.hid (below_chain B3.out hb)
      have Z_4 := Lib.hid (Z_3.out.below hb)
      have G_4 := Lib.hid (G_3.out.below hb)
      have R_4 := Lib.hid (R_3.out.below hb)
      have N_4 := Lib.hid (N_3.out.below hb)
      clear hb B3 Z_3 G_3 R_3 N_3
      clear hr
      obtain ⟨yy, zz, q1⟩ : ∃ (yy : Int) (zz : Nat), ∀ (xT : TypeId) (v : Value) (w : World), (Instr.typeAssert (.iface 111 v) xT 89 true).run Try.prog w = .ok (.tuple #[.agg #[.int .i64 yy, .int .i64 yy, .int .i64 yy, .slice none zz 0], .bool false]) w := ⟨0, 0, as_not_back (by decide)⟩
      obtain ⟨V5, hW⟩ : ∃ z, (w5.alloc (.cells #[.int .i64 yy, .int .i64 yy, .int .i64 yy, .slice none zz 0] 89)) = z := ⟨_, rfl⟩
      have hb : Below w5.heap.size w5 V5 := by rw [← hW]; exact ((Below.refl _ _).alloc (by first | (simp; done) | (simp; omega) | omega) _)
      have az : V5.heap.size = w5.heap.size + 1 := by rw [← hW]; simp
      have NF := Lib.hid (show Blk V5 (w5.heap.size) 89 #[.int .i64 yy, .int .i64 yy, .int .i64 yy, .slice none zz 0] by rw [← hW]; exact (Blk.new _ _ _))
      have AZV5 := Lib.hid az
      clear az
      have sz5 := hb.size
      have B5 := Lib.hid (below_chain B4.out hb)
      have Z_5 := Lib.hid (Z_4.out.below hb)
      have G_5 := Lib.hid (G_4.out.below hb)
      have R_5 := Lib.hid (R_4.out.below hb)
      have N_5 := Lib.hid (N_4.out.below hb)
      clear hb B4 Z_4 G_4 R_4 N_4
      have F_5 := NF
      clear NF
      have ltF : w5.heap.size < V5.heap.size := F_5.out.lt
      have xR0 : V5.cell? ⟨w.heap.size + 1, 0, none⟩ = some (.int .i64 r0) := by rw [R_5.out.cell]; rfl
      have xR1 : V5.cell? ⟨w.heap.size + 1, 1, none⟩ = some (.int .i64 r1) := by rw [R_5.out.cell]; rfl
      have xR2 : V5.cell? ⟨w.heap.size + 1, 2, none⟩ = some (.int .i64 r2) := by rw [R_5.out.cell]; rfl
      have xR3 : V5.cell? ⟨w.heap.size + 1, 3, none⟩ = some (.int .i64 r3) := by rw [R_5.out.cell]; rfl
      have xR4 : V5.cell? ⟨w.heap.size + 1, 4, none⟩ = some (.int .i64 r4) := by rw [R_5.out.cell]; rfl
      go_wp2_with fail
      clear hW xR0 xR1 xR2 xR3 xR4
      refine (implNext_any r1 r2 _).mono ?_
      rintro e w6 ⟨rfl, hb⟩
      rw [HNY.out, HHV.out]
      have sz6 := hb.size
      have B6 := Lib.hid (below_chain B5.out hb)
      have Z_6 := Lib.hid (Z_5.out.below hb)
      have G_6 := Lib.hid (G_5.out.below hb)
      have R_6 := Lib.hid (R_5.out.below hb)
      have N_6 := Lib.hid (N_5.out.below hb)
      have F_6 := Lib.hid (F_5.out.below hb)
      clear hb B5 Z_5 G_5 R_5 N_5 F_5
      obtain rfl : res = false := by rw [SN.out]; simp [KH.out]
      go_wp2
      go_ret
      exact ⟨rfl, B6.out.alloc B6.out.size _⟩
    replace hr : remB k = false := by simpa using hr
    by_cases hk : k = 7
    · skip
      have KH := Lib.hid hk
      clear hk
      clear hW xN0 xN1 xN2 xN3
      refine (opOf_back k a b An m cn hr KH.out _).mono ?_
      rintro e w5 ⟨rfl, hb⟩
      have sz4 := hb.size
      have B4 := Lib.hid (below_chain B3.out hb)
      have Z_4 := Lib.hid (Z_3.out.below hb)
      have G_4 := Lib.hid (G_3.out.below hb)
      have R_4 := Lib.hid (R_3.out.below hb)
      have N_4 := Lib.hid (N_3.out.below hb)
      clear hb B3 Z_3 G_3 R_3 N_3
      clear hr
      have q1 := as_back
      obtain ⟨V5, hW⟩ : ∃ z, (w5.alloc (.cells #[.int .i64 k, .int .i64 a, .int .i64 b, .slice An m cn] 89)) = z := ⟨_, rfl⟩
      have hb : Below w5.heap.size w5 V5 := by rw [← hW]; exact ((Below.refl _ _).alloc (by first | (simp; done) | (simp; omega) | omega) _)
      have az : V5.heap.size = w5.heap.size + 1 := by rw [← hW]; simp
      have NF := Lib.hid (show Blk V5 (w5.heap.size) 89 #[.int .i64 k, .int .i64 a, .int .i64 b, .slice An m cn] by rw [← hW]; exact (Blk.new _ _ _))
      have AZV5 := Lib.hid az
      clear az
      have sz5 := hb.size
      have B5 := Lib.hid (below_chain B4.out hb)
      have Z_5 := Lib.hid (Z_4.out.below hb)
      have G_5 := Lib.hid (G_4.out.below hb)
      have R_5 := Lib.hid (R_4.out.below hb)
      have N_5 := Lib.hid (N_4.out.below hb)
      clear hb B4 Z_4 G_4 R_4 N_4
      have F_5 := NF
      clear NF
      have ltF : w5.heap.size < V5.heap.size := F_5.out.lt
      have xR0 : V5.cell? ⟨w.heap.size + 1, 0, none⟩ = some (.int .i64 r0) := by rw [R_5.out.cell]; rfl
      have xR1 : V5.cell? ⟨w.heap.size + 1, 1, none⟩ = some (.int .i64 r1) := by rw [R_5.out.cell]; rfl
      have xR2 : V5.cell? ⟨w.heap.size + 1, 2, none⟩ = some (.int .i64 r2) := by rw [R_5.out.cell]; rfl
      have xR3 : V5.cell? ⟨w.heap.size + 1, 3, none⟩ = some (.int .i64 r3) := by rw [R_5.out.cell]; rfl
      have xR4 : V5.cell? ⟨w.heap.size + 1, 4, none⟩ = some (.int .i64 r4) := by rw [R_5.out.cell]; rfl
      go_wp2_with fail
      clear hW xR0 xR1 xR2 xR3 xR4
      refine (implNext_any r1 r2 _).mono ?_
      rintro e w6 ⟨rfl, hb⟩
      rw [HNY.out, HHV.out]
      have sz6 := hb.size
      have B6 := Lib.hid (below_chain B5.out hb)
      have Z_6 := Lib.hid (Z_5.out.below hb)
      have G_6 := Lib.hid (G_5.out.below hb)
      have R_6 := Lib.hid (R_5.out.below hb)
      have N_6 := Lib.hid (N_5.out.below hb)
      have F_6 := Lib.hid (F_5.out.below hb)
      clear hb B5 Z_5 G_5 R_5 N_5 F_5
      cases hv with
      | false =>
        obtain rfl : res = true := by rw [SN.out]; simp [KH.out, m0]
        go_wp2
        go_ret
        exact ⟨rfl, B6.out.alloc B6.out.size _⟩
      | true =>
        obtain rfl : res = false := by rw [SN.out]; simp [KH.out, m0]
        go_wp2
        go_ret
        exact ⟨rfl, B6.out.alloc B6.out.size _⟩
    · skip
      have KH := Lib.hid hk
      clear hk
      clear hW xN0 xN1 xN2 xN3
      refine (opOf_else k a b An m cn hr KH.out _).mono ?_
      rintro e w5 ⟨rfl, hb⟩
      have sz4 := hb.size
      have B4 := Lib.hid (below_chain B3.out hb)
      have Z_4 := Lib.hid (Z_3.out.below hb)
      have G_4 := Lib.hid (G_3.out.below hb)
      have R_4 := Lib.hid (R_3.out.below hb)
      have N_4 := Lib.hid (N_3.out.below hb)
      clear hb B3 Z_3 G_3 R_3 N_3
      clear hr
      obtain ⟨yy, zz, q1⟩ : ∃ (yy : Int) (zz : Nat), ∀ (xT : TypeId) (v : Value) (w : World), (Instr.typeAssert (.iface 121 v) xT 89 true).run Try.prog w = .ok (.tuple #[.agg #[.int .i64 yy, .int .i64 yy, .int .i64 yy, .slice none zz 0], .bool false]) w := ⟨0, 0, as_not_back (by decide)⟩
      obtain ⟨V5, hW⟩ : ∃ z, (w5.alloc (.cells #[.int .i64 yy, .int .i64 yy, .int .i64 yy, .slice none zz 0] 89)) = z := ⟨_, rfl⟩
      have hb : Below w5.heap.size w5 V5 := by rw [← hW]; exact ((Below.refl _ _).alloc (by first | (simp; done) | (simp; omega) | omega) _)
      have az : V5.heap.size = w5.heap.size + 1 := by rw [← hW]; simp
      have NF := Lib.hid (show Blk V5 (w5.heap.size) 89 #[.int .i64 yy, .int .i64 yy, .int .i64 yy, .slice none zz 0] by rw [← hW]; exact (Blk.new _ _ _))
      have AZV5 := Lib.hid az
      clear az
      have sz5 := hb.size
      have B5 := Lib.hid (below_chain B4.out hb)
      have Z_5 := Lib.hid (Z_4.out.below hb)
      have G_5 := Lib.hid (G_4.out.below hb)
      have R_5 := Lib.hid (R_4.out.below hb)
      have N_5 := Lib.hid (N_4.out.below hb)
      clear hb B4 Z_4 G_4 R_4 N_4
      have F_5 := NF
      clear NF
      have ltF : w5.heap.size < V5.heap.size := F_5.out.lt
      have xR0 : V5.cell? ⟨w.heap.size + 1, 0, none⟩ = some (.int .i64 r0) := by rw [R_5.out.cell]; rfl
      have xR1 : V5.cell? ⟨w.heap.size + 1, 1, none⟩ = some (.int .i64 r1) := by rw [R_5.out.cell]; rfl
      have xR2 : V5.cell? ⟨w.heap.size + 1, 2, none⟩ = some (.int .i64 r2) := by rw [R_5.out.cell]; rfl
      have xR3 : V5.cell? ⟨w.heap.size + 1, 3, none⟩ = some (.int .i64 r3) := by rw [R_5.out.cell]; rfl
      have xR4 : V5.cell? ⟨w.heap.size + 1, 4, none⟩ = some (.int .i64 r4) := by rw [R_5.out.cell]; rfl
      go_wp2_with fail
      clear hW xR0 xR1 xR2 xR3 xR4
      refine (implNext_any r1 r2 _).mono ?_
      rintro e w6 ⟨rfl, hb⟩
      rw [HNY.out, HHV.out]
      have sz6 := hb.size
      have B6 := Lib.hid (below_chain B5.out hb)
      have Z_6 := Lib.hid (Z_5.out.below hb)
      have G_6 := Lib.hid (G_5.out.below hb)
      have R_6 := Lib.hid (R_5.out.below hb)
      have N_6 := Lib.hid (N_5.out.below hb)
      have F_6 := Lib.hid (F_5.out.below hb)
      clear hb B5 Z_5 G_5 R_5 N_5 F_5
      obtain rfl : res = false := by rw [SN.out]; simp [KH.out]
      go_wp2
      go_ret
      exact ⟨rfl, B6.out.alloc B6.out.size _⟩
end Go.Proofs.Ytlanmkimaambgaa.hexes

