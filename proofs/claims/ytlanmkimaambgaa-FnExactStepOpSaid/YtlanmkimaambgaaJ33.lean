/-
  The reference's StepOp: the contract of spec.StepOp.
  The reference's Capped: the contract of spec.Capped.
  Steps on lists: how much a step makes; the steps one by one.
  Chapter 5's plain functions of the program: the contracts of impl.OwnerOf and impl.RecordOk.
-/
import Derived.Test.YtlanmkimaambgaaJ30
import Derived.Test.YtlanmkimaambgaaJ31
import Derived.Test.YtlanmkimaambgaaJ32
import Derived.Test.YtlanmkimaambgaaJ14
import Derived.Test.YtlanmkimaambgaaJ28

namespace Go.Proofs.Ytlanmkimaambgaa.hexes
open Go.RowKit

set_option maxRecDepth 1000000 in
set_option maxHeartbeats 16000000 in
theorem specStep_any (gs : List Nd) (wk cp : Int) (A : Option Addr) (n c : Nat) (hl : gs.length = n) (ho : ∀ x ∈ gs, x.2.2.2.length ≤ 1048576) (hn : n ≤ 1048576) (ces : List Ce) (A2 : Option Addr) (n2 c2 : Nat) (hl2 : ces.length = n2) (hA2 : A2 = none → c2 = 0) (hc2 : n2 ≤ c2) (hn2 : n2 ≤ 2000000) (r0 r1 r2 r3 r4 : Int) (w : World) (h : Nds w A gs) (h2 : Ces w A2 ces) :
    Calls Try.prog 9 #[.agg #[.slice A n c, .int .i64 wk, .int .i64 cp], .slice A2 n2 c2, .agg #[.int .i64 r0, .int .i64 r1, .int .i64 r2, .int .i64 r3, .int .i64 r4]] w (StepEnd w (stepGr gs wk cp ces (r0, (r1, r2), r3, r4))) := by
  cases hg : goX gs (r0, (r1, r2), r3, r4) with
  | false => exact specStepA gs wk cp A n c hl ho hn ces A2 n2 c2 hl2 hA2 hc2 hn2 r0 r1 r2 r3 r4 w h h2 hg
  | true =>
    cases hr : remX gs r0 with
    | false => exact specStepB gs wk cp A n c hl ho hn ces A2 n2 c2 hl2 hA2 hc2 hn2 r0 r1 r2 r3 r4 w h h2 hg hr
    | true => exact specStepC gs wk cp A n c hl ho hn ces A2 n2 c2 hl2 hA2 hc2 hn2 r0 r1 r2 r3 r4 w h h2 hg hr
end Go.Proofs.Ytlanmkimaambgaa.hexes

namespace Go.Proofs.Ytlanmkimaambgaa.hexes
open Go.RowKit

set_option maxRecDepth 1000000 in
set_option maxHeartbeats 8000000 in
theorem specCap_any (gs : List Nd) (wk cp : Int) (A : Option Addr) (n c : Nat) (hl : gs.length = n) (ho : ∀ x ∈ gs, x.2.2.2.length ≤ 1048576) (hn : n ≤ 1048576) (r0 r1 r2 r3 r4 : Int) (w : World) (h : Nds w A gs) :
    Calls Try.prog 13 #[.agg #[.slice A n c, .int .i64 wk, .int .i64 cp], .agg #[.int .i64 r0, .int .i64 r1, .int .i64 r2, .int .i64 r3, .int .i64 r4]] w fun e w' => e = .returned (.bool (capG gs wk cp (r0, (r1, r2), r3, r4))) ∧ Below w.heap.size w w' := by
  obtain ⟨⟨k, a, b, zs⟩, hx⟩ : ∃ x, nodeAt gs r0 = x := ⟨_, rfl⟩
  obtain ⟨m, hm⟩ : ∃ m, zs.length = m := ⟨_, rfl⟩
  obtain ⟨q, hq⟩ : ∃ q, hasB gs r0 = q := ⟨_, rfl⟩
  obtain ⟨gk, hgk⟩ : ∃ q, okGr gs dec1 wk cp = q := ⟨_, rfl⟩
  obtain ⟨rk, hrk⟩ : ∃ q, okRc (r0, (r1, r2), r3, r4) = q := ⟨_, rfl⟩
  obtain ⟨ny, hny⟩ : ∃ y, nextY r1 r2 = y := ⟨_, rfl⟩
  obtain ⟨hv, hhv⟩ : ∃ y, hasNext r1 r2 = y := ⟨_, rfl⟩
  have SN := Lib.hid (show capG gs wk cp (r0, (r1, r2), r3, r4) = (q && gk && rk && decide (k = 7) && decide (0 < m) && !hv) by
    unfold capG
    simp only [hx, hq, hgk, hrk, hm, hhv])
  have HX := Lib.hid hx
  have HM := Lib.hid hm
  have HQ := Lib.hid hq
  have HGK := Lib.hid hgk
  have HRK := Lib.hid hrk
  have HNY := Lib.hid hny
  have HHV := Lib.hid hhv
  have HL := Lib.hid hl
  have HO := Lib.hid ho
  have S0 := Lib.hid h
  clear hx hm hq hgk hrk hny hhv hl ho h
  obtain ⟨V, hW⟩ : ∃ z, ((w.alloc (.cells #[.slice A n c, .int .i64 wk, .int .i64 cp] 26)).alloc (.cells #[.int .i64 r0, .int .i64 r1, .int .i64 r2, .int .i64 r3, .int .i64 r4] 31)) = z := ⟨_, rfl⟩
  have hb : Below w.heap.size w V := by rw [← hW]; exact (((Below.refl _ _).alloc (by first | (simp; done) | (simp; omega) | omega) _).alloc (by first | (simp; done) | (simp; omega) | omega) _)
  have az : V.heap.size = w.heap.size + 2 := by rw [← hW]; simp
  have NG := Lib.hid (show Blk V (w.heap.size) 26 #[.slice A n c, .int .i64 wk, .int .i64 cp] by rw [← hW]; exact ((Below.heap_alloc _ _ _ (by first | (simp; done) | (simp; omega))).trans (Blk.new _ _ _)))
  have NR := Lib.hid (show Blk V (w.heap.size + 1) 31 #[.int .i64 r0, .int .i64 r1, .int .i64 r2, .int .i64 r3, .int .i64 r4] by rw [← hW]; exact ((show w.heap.size + 1 = ((w.alloc _)).heap.size by simp) ▸ Blk.new _ _ _))
  have AZV := Lib.hid az
  clear az
  have sz1 := hb.size
  have B1 := Lib.hid (hb)
  clear hb
  have G_1 := NG
  clear NG
  have ltG : w.heap.size < V.heap.size := G_1.out.lt
  have R_1 := NR
  clear NR
  have ltR : w.heap.size + 1 < V.heap.size := R_1.out.lt
  go_enter Try.func13, Try.ntmps13
  have xG0 : V.cell? ⟨w.heap.size, 0, none⟩ = some (.slice A n c) := by rw [G_1.out.cell]; rfl
  have xG1 : V.cell? ⟨w.heap.size, 1, none⟩ = some (.int .i64 wk) := by rw [G_1.out.cell]; rfl
  have xG2 : V.cell? ⟨w.heap.size, 2, none⟩ = some (.int .i64 cp) := by rw [G_1.out.cell]; rfl
  have xR0 : V.cell? ⟨w.heap.size + 1, 0, none⟩ = some (.int .i64 r0) := by rw [R_1.out.cell]; rfl
  have xR1 : V.cell? ⟨w.heap.size + 1, 1, none⟩ = some (.int .i64 r1) := by rw [R_1.out.cell]; rfl
  have xR2 : V.cell? ⟨w.heap.size + 1, 2, none⟩ = some (.int .i64 r2) := by rw [R_1.out.cell]; rfl
  have xR3 : V.cell? ⟨w.heap.size + 1, 3, none⟩ = some (.int .i64 r3) := by rw [R_1.out.cell]; rfl
  have xR4 : V.cell? ⟨w.heap.size + 1, 4, none⟩ = some (.int .i64 r4) := by rw [R_1.out.cell]; rfl
  go_wp2_with fail
  clear hW xG0 xG1 xG2 xR0 xR1 xR2 xR3 xR4
  refine (specNodeOf_row HX.out HM.out HQ.out wk cp A n c HL.out HO.out hn _ (S0.out.below B1.out)).mono ?_
  rintro e w4 ⟨An, cn, rfl, rZ, hb⟩
  have sz2 := hb.size
  have B2 := Lib.hid (below_chain B1.out hb)
  have G_2 := Lib.hid (G_1.out.below hb)
  have R_2 := Lib.hid (R_1.out.below hb)
  clear hb B1 G_1 R_1
  have Z_2 := Lib.hid rZ
  clear rZ
  obtain ⟨V4, hW⟩ : ∃ z, (w4.alloc (.cells #[.int .i64 k, .int .i64 a, .int .i64 b, .slice An m cn] 42)) = z := ⟨_, rfl⟩
  have hb : Below w4.heap.size w4 V4 := by rw [← hW]; exact ((Below.refl _ _).alloc (by first | (simp; done) | (simp; omega) | omega) _)
  have az : V4.heap.size = w4.heap.size + 1 := by rw [← hW]; simp
  have NN := Lib.hid (show Blk V4 (w4.heap.size) 42 #[.int .i64 k, .int .i64 a, .int .i64 b, .slice An m cn] by rw [← hW]; exact (Blk.new _ _ _))
  have AZV4 := Lib.hid az
  clear az
  have sz3 := hb.size
  have B3 := Lib.hid (below_chain B2.out hb)
  have Z_3 := Lib.hid (Z_2.out.below hb)
  have G_3 := Lib.hid (G_2.out.below hb)
  have R_3 := Lib.hid (R_2.out.below hb)
  clear hb B2 Z_2 G_2 R_2
  have N_3 := NN
  clear NN
  have ltN : w4.heap.size < V4.heap.size := N_3.out.lt
  have xR0 : V4.cell? ⟨w.heap.size + 1, 0, none⟩ = some (.int .i64 r0) := by rw [R_3.out.cell]; rfl
  have xR1 : V4.cell? ⟨w.heap.size + 1, 1, none⟩ = some (.int .i64 r1) := by rw [R_3.out.cell]; rfl
  have xR2 : V4.cell? ⟨w.heap.size + 1, 2, none⟩ = some (.int .i64 r2) := by rw [R_3.out.cell]; rfl
  have xR3 : V4.cell? ⟨w.heap.size + 1, 3, none⟩ = some (.int .i64 r3) := by rw [R_3.out.cell]; rfl
  have xR4 : V4.cell? ⟨w.heap.size + 1, 4, none⟩ = some (.int .i64 r4) := by rw [R_3.out.cell]; rfl
  go_wp2_with fail
  clear hW xR0 xR1 xR2 xR3 xR4
  refine (specNext_any r1 r2 _).mono ?_
  rintro e w5 ⟨rfl, hb⟩
  rw [HNY.out, HHV.out]
  have sz4 := hb.size
  have B4 := Lib.hid (below_chain B3.out hb)
  have Z_4 := Lib.hid (Z_3.out.below hb)
  have G_4 := Lib.hid (G_3.out.below hb)
  have R_4 := Lib.hid (R_3.out.below hb)
  have N_4 := Lib.hid (N_3.out.below hb)
  clear hb B3 Z_3 G_3 R_3 N_3
  obtain ⟨V5, hW⟩ : ∃ z, (w5.alloc (.cells #[.int .i64 r1, .int .i64 ny] 29)) = z := ⟨_, rfl⟩
  have hb : Below w5.heap.size w5 V5 := by rw [← hW]; exact ((Below.refl _ _).alloc (by first | (simp; done) | (simp; omega) | omega) _)
  have az : V5.heap.size = w5.heap.size + 1 := by rw [← hW]; simp
  have NT := Lib.hid (show Blk V5 (w5.heap.size) 29 #[.int .i64 r1, .int .i64 ny] by rw [← hW]; exact (Blk.new _ _ _))
  have AZV5 := Lib.hid az
  clear az
  have sz5 := hb.size
  have B5 := Lib.hid (below_chain B4.out hb)
  have Z_5 := Lib.hid (Z_4.out.below hb)
  have G_5 := Lib.hid (G_4.out.below hb)
  have R_5 := Lib.hid (R_4.out.below hb)
  have N_5 := Lib.hid (N_4.out.below hb)
  clear hb B4 Z_4 G_4 R_4 N_4
  have T_5 := NT
  clear NT
  have ltT : w5.heap.size < V5.heap.size := T_5.out.lt
  cases q with
  | false =>
    go_wp2
    have HF := Lib.hid (show capG gs wk cp (r0, (r1, r2), r3, r4) = false by rw [SN.out]; first | (simp; done) | (simp [*]; done))
    clear hW
    exact bodyPost_ret (v := .bool false) (by simp [results, Try.results13, go_sem]) rfl ⟨by rw [HF.out], B5.out⟩
  | true =>
    have xG0 : V5.cell? ⟨w.heap.size, 0, none⟩ = some (.slice A n c) := by rw [G_5.out.cell]; rfl
    have xG1 : V5.cell? ⟨w.heap.size, 1, none⟩ = some (.int .i64 wk) := by rw [G_5.out.cell]; rfl
    have xG2 : V5.cell? ⟨w.heap.size, 2, none⟩ = some (.int .i64 cp) := by rw [G_5.out.cell]; rfl
    go_wp2_with fail
    clear hW xG0 xG1 xG2
    refine (specGrOk_any gs wk cp A n c HL.out HO.out hn HGK.out _ (S0.out.below B5.out)).mono ?_
    rintro e w6 ⟨rfl, hb⟩
    have sz6 := hb.size
    have B6 := Lib.hid (below_chain B5.out hb)
    have Z_6 := Lib.hid (Z_5.out.below hb)
    have G_6 := Lib.hid (G_5.out.below hb)
    have R_6 := Lib.hid (R_5.out.below hb)
    have N_6 := Lib.hid (N_5.out.below hb)
    have T_6 := Lib.hid (T_5.out.below hb)
    clear hb B5 Z_5 G_5 R_5 N_5 T_5
    cases gk with
    | false =>
      go_wp2
      have HF := Lib.hid (show capG gs wk cp (r0, (r1, r2), r3, r4) = false by rw [SN.out]; first | (simp; done) | (simp [*]; done))
      exact bodyPost_ret (v := .bool false) (by simp [results, Try.results13, go_sem]) rfl ⟨by rw [HF.out], B6.out⟩
    | true =>
      have xR0 : w6.cell? ⟨w.heap.size + 1, 0, none⟩ = some (.int .i64 r0) := by rw [R_6.out.cell]; rfl
      have xR1 : w6.cell? ⟨w.heap.size + 1, 1, none⟩ = some (.int .i64 r1) := by rw [R_6.out.cell]; rfl
      have xR2 : w6.cell? ⟨w.heap.size + 1, 2, none⟩ = some (.int .i64 r2) := by rw [R_6.out.cell]; rfl
      have xR3 : w6.cell? ⟨w.heap.size + 1, 3, none⟩ = some (.int .i64 r3) := by rw [R_6.out.cell]; rfl
      have xR4 : w6.cell? ⟨w.heap.size + 1, 4, none⟩ = some (.int .i64 r4) := by rw [R_6.out.cell]; rfl
      go_wp2_with fail
      clear xR0 xR1 xR2 xR3 xR4
      refine (specRcOkG_is HRK.out _).mono ?_
      rintro e w7 ⟨rfl, hb⟩
      have sz7 := hb.size
      have B7 := Lib.hid (below_chain B6.out hb)
      have Z_7 := Lib.hid (Z_6.out.below hb)
      have G_7 := Lib.hid (G_6.out.below hb)
      have R_7 := Lib.hid (R_6.out.below hb)
      have N_7 := Lib.hid (N_6.out.below hb)
      have T_7 := Lib.hid (T_6.out.below hb)
      clear hb B6 Z_6 G_6 R_6 N_6 T_6
      cases rk with
      | false =>
        go_wp2
        have HF := Lib.hid (show capG gs wk cp (r0, (r1, r2), r3, r4) = false by rw [SN.out]; first | (simp; done) | (simp [*]; done))
        exact bodyPost_ret (v := .bool false) (by simp [results, Try.results13, go_sem]) rfl ⟨by rw [HF.out], B7.out⟩
      | true =>
        by_cases k7 : k = 7
        rotate_left
        · skip
          have d7 : (k == 7) = false := by simpa using k7
          have xN0 : w7.cell? ⟨w4.heap.size, 0, none⟩ = some (.int .i64 k) := by rw [N_7.out.cell]; rfl
          have xN1 : w7.cell? ⟨w4.heap.size, 1, none⟩ = some (.int .i64 a) := by rw [N_7.out.cell]; rfl
          have xN2 : w7.cell? ⟨w4.heap.size, 2, none⟩ = some (.int .i64 b) := by rw [N_7.out.cell]; rfl
          have xN3 : w7.cell? ⟨w4.heap.size, 3, none⟩ = some (.slice An m cn) := by rw [N_7.out.cell]; rfl
          go_wp2
          have HF := Lib.hid (show capG gs wk cp (r0, (r1, r2), r3, r4) = false by rw [SN.out]; first | (simp; done) | (simp [*]; done))
          clear xN0 xN1 xN2 xN3
          exact bodyPost_ret (v := .bool false) (by simp [results, Try.results13, go_sem]) rfl ⟨by rw [HF.out], B7.out⟩
        subst k7
        by_cases m0 : 0 < m
        rotate_left
        · skip
          obtain rfl : m = 0 := by omega
          have xN0 : w7.cell? ⟨w4.heap.size, 0, none⟩ = some (.int .i64 7) := by rw [N_7.out.cell]; rfl
          have xN1 : w7.cell? ⟨w4.heap.size, 1, none⟩ = some (.int .i64 a) := by rw [N_7.out.cell]; rfl
          have xN2 : w7.cell? ⟨w4.heap.size, 2, none⟩ = some (.int .i64 b) := by rw [N_7.out.cell]; rfl
          have xN3 : w7.cell? ⟨w4.heap.size, 3, none⟩ = some (.slice An 0 cn) := by rw [N_7.out.cell]; rfl
          go_wp2
          have HF := Lib.hid (show capG gs wk cp (r0, (r1, r2), r3, r4) = false by rw [SN.out]; first | (simp; done) | (simp [*]; done))
          clear xN0 xN1 xN2 xN3
          exact bodyPost_ret (v := .bool false) (by simp [results, Try.results13, go_sem]) rfl ⟨by rw [HF.out], B7.out⟩
        have qk : decide ((m : Int) > 0) = true := by simp; omega
        have xN0 : w7.cell? ⟨w4.heap.size, 0, none⟩ = some (.int .i64 7) := by rw [N_7.out.cell]; rfl
        have xN1 : w7.cell? ⟨w4.heap.size, 1, none⟩ = some (.int .i64 a) := by rw [N_7.out.cell]; rfl
        have xN2 : w7.cell? ⟨w4.heap.size, 2, none⟩ = some (.int .i64 b) := by rw [N_7.out.cell]; rfl
        have xN3 : w7.cell? ⟨w4.heap.size, 3, none⟩ = some (.slice An m cn) := by rw [N_7.out.cell]; rfl
        cases hv with
        | false =>
          go_wp2
          have HF := Lib.hid (show capG gs wk cp (r0, (r1, r2), r3, r4) = true by rw [SN.out]; first | (simp; done) | (simp [*]; done))
          clear xN0 xN1 xN2 xN3
          exact bodyPost_ret (v := .bool true) (by simp [results, Try.results13, go_sem]) rfl ⟨by rw [HF.out], B7.out⟩
        | true =>
          go_wp2
          have HF := Lib.hid (show capG gs wk cp (r0, (r1, r2), r3, r4) = false by rw [SN.out]; first | (simp; done) | (simp [*]; done))
          clear xN0 xN1 xN2 xN3
          exact bodyPost_ret (v := .bool false) (by simp [results, Try.results13, go_sem]) rfl ⟨by rw [HF.out], B7.out⟩
end Go.Proofs.Ytlanmkimaambgaa.hexes

namespace Go.Proofs.Ytlanmkimaambgaa.hexes
open Go.RowKit

theorem emit_lenS (zs : List Int) (s : Int × Int) (key val : Int) : (emitL zs s key val).length ≤ zs.length := Nat.le_of_eq (emit_len zs s key val)
theorem stepN_out (x : Nd) (key val : Int) (goes : Bool) (cs : List Ce) (r : Rc) : (stepNd x key val goes cs r).1.2.length ≤ x.2.2.2.length := by
  unfold stepNd
  dsimp only
  repeat' split
  all_goals first | exact emit_lenS _ _ _ _ | simp
theorem stepN_cells (x : Nd) (key val : Int) (goes : Bool) (cs : List Ce) (r : Rc) : (stepNd x key val goes cs r).1.1.length ≤ cs.length + 1 := by
  have h := recC_len x.1 cs (r.1, r.2.1.1, r.2.2.1, r.2.2.2)
  unfold stepNd
  dsimp only
  repeat' split
  all_goals first | exact h | (simp; done) | (simp; omega)
theorem stepG_cells (gs : List Nd) (wk cp : Int) (cs : List Ce) (r : Rc) : (stepGr gs wk cp cs r).1.1.length ≤ cs.length + 1 := by
  unfold stepGr
  split
  · simp
  · exact stepN_cells _ _ _ _ _ _
theorem allB_at {gs : List Nd} {d : Int → Int} (h : allB gs d = true) {i : Nat} (hi : i < gs.length) : nodeB gs d i gs[i] = true := by
  unfold allB at h
  rw [List.all_eq_true] at h
  have := h i (by simpa using hi)
  simpa [List.getElem?_eq_getElem hi] using this
theorem stepG_out (gs : List Nd) (wk cp : Int) (cs : List Ce) (r : Rc) : (stepGr gs wk cp cs r).1.2.length ≤ 2 := by
  unfold stepGr
  split
  · simp
  · rename_i h
    refine Nat.le_trans (stepN_out _ _ _ _ _ _) ?_
    rw [Bool.not_eq_false, Bool.and_eq_true, Bool.and_eq_true] at h
    obtain ⟨⟨h1, h2⟩, _⟩ := h
    unfold hasB at h1
    simp only [decide_eq_true_eq] at h1
    obtain ⟨j, hj⟩ : ∃ j : Nat, r.1 = (j : Int) := ⟨r.1.toNat, by omega⟩
    have hl : j < gs.length := by omega
    rw [hj, nodeAt_of hl]
    unfold okGr at h2
    simp only [Bool.and_eq_true] at h2
    have h3 := allB_at h2.2 hl
    unfold nodeB at h3
    simp only [Bool.and_eq_true] at h3
    have h4 := h3.1.1
    unfold okN okNd at h4
    simp only [Bool.and_eq_true] at h4
    have h5 := h4.2
    unfold outsB at h5
    simp only [decide_eq_true_eq] at h5
    exact h5.1
theorem steps_succ (gs : List Nd) (wk cp : Int) (k : Nat) (cs : List Ce) (r : Rc) (rs : List Rc) : stepsG gs wk cp (k + 1) (cs, r :: rs) = ((stepsG gs wk cp k ((stepGr gs wk cp cs r).1.1, rs ++ (stepGr gs wk cp cs r).1.2)).1, (stepsG gs wk cp k ((stepGr gs wk cp cs r).1.1, rs ++ (stepGr gs wk cp cs r).1.2)).2 + 1) := rfl
/-- After j steps the rest leads to the same end. -/
def StepsAt (gs : List Nd) (wk cp : Int) (K j : Nat) (q : (List Ce × List Rc) × Nat) (cs : List Ce) (rs : List Rc) : Prop := (stepsG gs wk cp (K - j) (cs, rs)).1 = q.1 ∧ (stepsG gs wk cp (K - j) (cs, rs)).2 + j = q.2
theorem StepsAt.start (gs : List Nd) (wk cp : Int) (K : Nat) (cs : List Ce) (rs : List Rc) : StepsAt gs wk cp K 0 (stepsG gs wk cp K (cs, rs)) cs rs := ⟨rfl, rfl⟩
theorem StepsAt.next {gs : List Nd} {wk cp : Int} {K j : Nat} {q : (List Ce × List Rc) × Nat} {cs : List Ce} {r : Rc} {rs : List Rc} (h : StepsAt gs wk cp K j q cs (r :: rs)) (hj : j < K) : StepsAt gs wk cp K (j + 1) q (stepGr gs wk cp cs r).1.1 (rs ++ (stepGr gs wk cp cs r).1.2) := by
  obtain ⟨h1, h2⟩ := h
  rw [show K - j = (K - (j + 1)) + 1 by omega, steps_succ] at h1 h2
  exact ⟨h1, by rw [← h2]; show _ = _ + 1 + j; omega⟩
end Go.Proofs.Ytlanmkimaambgaa.hexes

namespace Go.Proofs.Ytlanmkimaambgaa.hexes
open Go.RowKit

theorem implOkSt_is {x y : Int} {b : Bool} (h : okSt x y = b) (W : World) : Calls Try.prog 80 #[.agg #[.int .i64 x, .int .i64 y]] W fun e w' => e = .returned (.bool b) ∧ Below W.heap.size W w' := by
  subst h; exact implOk_any _ _ W

theorem implInR_is {n b : Int} {r : Bool} (h : decide (0 ≤ n ∧ n ≤ b) = r) (W : World) : Calls Try.prog 92 #[.int .i64 n, .int .i64 b] W fun e w' => e = .returned (.bool r) ∧ W = w' := by
  subst h
  by_cases h1 : 0 ≤ n
  · by_cases h2 : n ≤ b
    · have q1 : decide (n ≥ 0) = true := decide_eq_true h1
      have q2 : decide (n ≤ b) = true := decide_eq_true h2
      have q3 := Lib.hid (show decide (0 ≤ n ∧ n ≤ b) = true from decide_eq_true ⟨h1, h2⟩)
      rw [q3.out]
      clear h1 h2
      go_enter Try.func92, Try.ntmps92
      go_wp2
      go_ret
      exact ⟨rfl, rfl⟩
    · have q1 : decide (n ≥ 0) = true := decide_eq_true h1
      have q2 : decide (n ≤ b) = false := decide_eq_false h2
      have q3 := Lib.hid (show decide (0 ≤ n ∧ n ≤ b) = false from decide_eq_false (fun h => h2 h.2))
      rw [q3.out]
      clear h1 h2
      go_enter Try.func92, Try.ntmps92
      go_wp2
      go_ret
      exact ⟨rfl, rfl⟩
  · have q1 : decide (n ≥ 0) = false := decide_eq_false h1
    have q3 := Lib.hid (show decide (0 ≤ n ∧ n ≤ b) = false from decide_eq_false (fun h => h1 h.1))
    rw [q3.out]
    clear h1
    go_enter Try.func92, Try.ntmps92
    go_wp2
    go_ret
    exact ⟨rfl, rfl⟩

set_option maxRecDepth 100000 in
theorem implRcOk_any (p0 p1 p2 p3 p4 : Int) (w : World) :
    Calls Try.prog 68 #[.agg #[.int .i64 p0, .int .i64 p1, .int .i64 p2, .int .i64 p3, .int .i64 p4]] w fun e w' => e = .returned (.bool (okRc (p0, (p1, p2), p3, p4))) ∧ Below w.heap.size w w' := by
  have hb := (Below.refl w.heap.size w).alloc (Nat.le_refl _) (.cells #[.int .i64 p0, .int .i64 p1, .int .i64 p2, .int .i64 p3, .int .i64 p4] 31)
  have HB := Lib.hid hb
  clear hb
  cases h0 : decide (0 ≤ p0 ∧ p0 ≤ 7) with
  | false =>
    have HF := Lib.hid (show okRc (p0, (p1, p2), p3, p4) = false by unfold okRc; rw [h0]; rfl)
    have E0 := Lib.hid (fun W => implInR_is h0 W)
    clear h0
    go_enter Try.func68, Try.ntmps68
    go_wp2_with fail
    refine (E0.out _).mono ?_
    rintro e w1 ⟨rfl, rfl⟩
    go_wp2
    go_ret
    exact ⟨congrArg (fun b => Ending.returned (Value.bool b)) HF.out.symm, HB.out⟩
  | true =>
    have E0 := Lib.hid (fun W => implInR_is h0 W)
    have H0 := Lib.hid h0
    clear h0
    go_enter Try.func68, Try.ntmps68
    go_wp2_with fail
    refine (E0.out _).mono ?_
    rintro e w1 ⟨rfl, rfl⟩
    obtain ⟨W, hW⟩ : ∃ W, w.alloc (.cells #[.int .i64 p0, .int .i64 p1, .int .i64 p2, .int .i64 p3, .int .i64 p4] 31) = W := ⟨_, rfl⟩
    have b1 : W.cell? ⟨w.heap.size, 1, none⟩ = some (.int .i64 p1) := by rw [← hW]; simp
    have b2 : W.cell? ⟨w.heap.size, 2, none⟩ = some (.int .i64 p2) := by rw [← hW]; simp
    have b3 : W.cell? ⟨w.heap.size, 3, none⟩ = some (.int .i64 p3) := by rw [← hW]; simp
    have b4 : W.cell? ⟨w.heap.size, 4, none⟩ = some (.int .i64 p4) := by rw [← hW]; simp
    rw [hW] at HB ⊢
    clear hW E0
    cases h1 : okSt p1 p2 with
    | false =>
      have HF := Lib.hid (show okRc (p0, (p1, p2), p3, p4) = false by unfold okRc; rw [H0.out, h1]; rfl)
      have E1 := Lib.hid (fun W => implOkSt_is h1 W)
      clear h1
      go_wp2_with fail
      refine (E1.out _).mono ?_
      rintro e w2 ⟨rfl, hbd⟩
      have B2 := Lib.hid (below_chain HB.out hbd)
      clear hbd
      go_wp2
      go_ret
      exact ⟨congrArg (fun b => Ending.returned (Value.bool b)) HF.out.symm, B2.out⟩
    | true =>
      have E1 := Lib.hid (fun W => implOkSt_is h1 W)
      have H1 := Lib.hid h1
      clear h1
      go_wp2_with fail
      refine (E1.out _).mono ?_
      rintro e w2 ⟨rfl, hbd⟩
      have B2 := Lib.hid (below_chain HB.out hbd)
      have d3 := below_keep hbd b3
      have d4 := below_keep hbd b4
      clear hbd b1 b2 b3 b4 E1
      cases h2 : decide (0 ≤ p3 ∧ p3 ≤ 99) with
      | false =>
        have HF := Lib.hid (show okRc (p0, (p1, p2), p3, p4) = false by unfold okRc; rw [H0.out, H1.out, h2]; rfl)
        have E2 := Lib.hid (fun W => implInR_is h2 W)
        clear h2
        go_wp2_with fail
        refine (E2.out _).mono ?_
        rintro e w3 ⟨rfl, rfl⟩
        go_wp2
        go_ret
        exact ⟨congrArg (fun b => Ending.returned (Value.bool b)) HF.out.symm, B2.out⟩
      | true =>
        have E2 := Lib.hid (fun W => implInR_is h2 W)
        obtain ⟨r, hr⟩ : ∃ r, decide (0 ≤ p4 ∧ p4 ≤ 999) = r := ⟨_, rfl⟩
        have HF := Lib.hid (show okRc (p0, (p1, p2), p3, p4) = r by unfold okRc; rw [H0.out, H1.out, h2, hr]; simp)
        have E3 := Lib.hid (fun W => implInR_is hr W)
        clear hr
        clear h2
        go_wp2_with fail
        refine (E2.out _).mono ?_
        rintro e w3 ⟨rfl, rfl⟩
        go_wp2_with fail
        refine (E3.out _).mono ?_
        rintro e w4 ⟨rfl, rfl⟩
        go_wp2
        go_ret
        exact ⟨congrArg (fun b => Ending.returned (Value.bool b)) HF.out.symm, B2.out⟩

end Go.Proofs.Ytlanmkimaambgaa.hexes

