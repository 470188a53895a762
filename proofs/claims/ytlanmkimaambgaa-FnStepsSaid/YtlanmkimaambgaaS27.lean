/-
  The reference's StepOp, part A.
-/
import Derived.Test.YtlanmkimaambgaaS26

namespace Go.Proofs.Ytlanmkimaambgaa.hexes
open Go.RowKit

set_option maxRecDepth 1000000 in
set_option maxHeartbeats 16000000 in
theorem specStepA (gs : List Nd) (wk cp : Int) (A : Option Addr) (n c : Nat) (hl : gs.length = n) (ho : ∀ x ∈ gs, x.2.2.2.length ≤ 1048576) (hn : n ≤ 1048576) (ces : List Ce) (A2 : Option Addr) (n2 c2 : Nat) (hl2 : ces.length = n2) (hA2 : A2 = none → c2 = 0) (hc2 : n2 ≤ c2) (hn2 : n2 ≤ 2000000) (r0 r1 r2 r3 r4 : Int) (w : World) (h : Nds w A gs) (h2 : Ces w A2 ces) (hg : goX gs (r0, (r1, r2), r3, r4) = false) :
    Calls Try.prog 9 #[.agg #[.slice A n c, .int .i64 wk, .int .i64 cp], .slice A2 n2 c2, .agg #[.int .i64 r0, .int .i64 r1, .int .i64 r2, .int .i64 r3, .int .i64 r4]] w (StepEnd w (stepGr gs wk cp ces (r0, (r1, r2), r3, r4))) := by
  obtain ⟨⟨k, a, b, zs⟩, hx⟩ : ∃ x, nodeAt gs r0 = x := ⟨_, rfl⟩
  obtain ⟨m, hm⟩ : ∃ m, zs.length = m := ⟨_, rfl⟩
  obtain ⟨q, hq⟩ : ∃ q, hasB gs r0 = q := ⟨_, rfl⟩
  obtain ⟨gk, hgk⟩ : ∃ q, okGr gs dec1 wk cp = q := ⟨_, rfl⟩
  obtain ⟨rk, hrk⟩ : ∃ q, okRc (r0, (r1, r2), r3, r4) = q := ⟨_, rfl⟩
  obtain ⟨q2, hq2⟩ : ∃ q, okC k a b (dec1 a) r3 r4 zs = q := ⟨_, rfl⟩
  obtain ⟨ky, hK⟩ : ∃ v, chgK q2 k a r3 = v := ⟨_, rfl⟩
  obtain ⟨vy, hQ⟩ : ∃ v, chgV q2 k a r4 = v := ⟨_, rfl⟩
  obtain ⟨go, hgo⟩ : ∃ v, chgO q2 k a b r3 = v := ⟨_, rfl⟩
  obtain ⟨rm, hrm⟩ : ∃ v, remB k = v := ⟨_, rfl⟩
  obtain rfl : go = false := by
    rw [← hgo, ← hq2]
    have h := hg
    unfold goX okX at h
    simp only [hx] at h
    exact h
  clear hg
  have hmn : m ≤ 1048576 := by
    have h := nodeAt_few ho r0
    rw [hx] at h
    rw [← hm]
    exact h
  have SN := Lib.hid (show stepGr gs wk cp ces (r0, (r1, r2), r3, r4) = if (q && gk && rk) = false then ((ces, []), false) else stepNd (k, a, b, zs) ky vy false ces (r0, (r1, r2), r3, r4) by
    unfold stepGr okX
    simp only [hx, hq, hgk, hrk, hq2, hK, hQ, hgo])
  have HX := Lib.hid hx
  have HM := Lib.hid hm
  have HQ := Lib.hid hq
  have HGK := Lib.hid hgk
  have HRK := Lib.hid hrk
  have HQ2 := Lib.hid hq2
  have HK := Lib.hid hK
  have HQV := Lib.hid hQ
  have HGO := Lib.hid hgo
  have HRM := Lib.hid hrm
  have HL := Lib.hid hl
  have HO := Lib.hid ho
  have HL2 := Lib.hid hl2
  have HA2 := Lib.hid hA2
  have HC2 := Lib.hid hc2
  have S0 := Lib.hid h
  have S2 := Lib.hid h2
  clear hx hm hq hgk hrk hq2 hK hQ hgo hrm hl ho hl2 hA2 hc2 h h2
  obtain ⟨V, hW⟩ : ∃ z, ((w.alloc (.cells #[.slice A n c, .int .i64 wk, .int .i64 cp] 26)).alloc (.cells #[.int .i64 r0, .int .i64 r1, .int .i64 r2, .int .i64 r3, .int .i64 r4] 31)) = z := ⟨_, rfl⟩
  have hb : Below w.heap.size w V := by rw [← hW]; exact (((Below.refl _ _).alloc (by first | (simp; done) | (simp; omega) | omega) _).alloc (by first | (simp; done) | (simp; omega) | omega) _)
  have az : V.heap.size = w.heap.size + 2 := by rw [← hW]; simp
  have NG := Lib.hid (show Blk V (w.heap.size) 26 #[.slice A n c, .int .i64 wk, .int .i64 cp] by rw [← hW]; exact ((Below.heap_alloc _ _ _ (by first | (simp; done) | (simp; omega))).trans (Blk.new _ _ _)))
  have NR := Lib.hid (show Blk V (w.heap.size + 1) 31 #[.int .i64 r0, .int .i64 r1, .int .i64 r2, .int .i64 r3, .int .i64 r4] by rw [← hW]; exact ((show w.heap.size + 1 = ((w.alloc _)).heap.size by simp) ▸ Blk.new _ _ _))
  have AZV := Lib.hid az
  clear az
  have sz1 := hb.size
  have B1 := Lib.hid (hb)
  clear hb
  have G_1 := NG
  clear NG
  have ltG : w.heap.size < V.heap.size := G_1.out.lt
  have R_1 := NR
  clear NR
  have ltR : w.heap.size + 1 < V.heap.size := R_1.out.lt
  have LIT := Lib.hid (World.ownsRow_lit (base := V.heap.size) (e := 75) (size := 4) V #[] 0 (Nat.le_refl _) (by decide) (by rfl))
  have BA := Lib.hid ((Below.refl V.heap.size V).alloc (Nat.le_refl _) (.cells #[] 75))
  have S3 := Lib.hid ((S2.out.below B1.out).below BA.out)
  go_enter Try.func9, Try.ntmps9
  go_wp2_with (at_builtin; refine wpList_append_ce rfl (.tmp 22) (.tmp 23) (by rfl) V.heap.size (.slice (some ⟨V.heap.size, 0, none⟩) 0 0) 0 [] (by rfl) LIT.out A2 n2 c2 ces (by rfl) HA2.out HL2.out S3.out (by omega) BA.out.size ?_; intro vs w2 own gr; generalize hG : wpList _ _ _ _ _ _ = GG)
  clear hW
  have hb : Below V.heap.size V w2 := BA.out.grown gr BA.out.size (own_ge LIT.out)
  rw [Nat.zero_add, List.nil_append] at own
  obtain ⟨As, cc, rfl, rS⟩ := row_of own
  clear own gr LIT BA S3
  have sz2 := hb.size
  have B2 := Lib.hid (below_chain B1.out hb)
  have G_2 := Lib.hid (G_1.out.below hb)
  have R_2 := Lib.hid (R_1.out.below hb)
  clear hb B1 G_1 R_1
  have S_2 := Lib.hid rS
  clear rS
  obtain ⟨V2, hW⟩ : ∃ z, (w2.alloc (.cells #[] 31)) = z := ⟨_, rfl⟩
  have hb : Below w2.heap.size w2 V2 := by rw [← hW]; exact ((Below.refl _ _).alloc (by first | (simp; done) | (simp; omega) | omega) _)
  have az : V2.heap.size = w2.heap.size + 1 := by rw [← hW]; simp
  have NE := Lib.hid (show Blk V2 (w2.heap.size) 31 #[] by rw [← hW]; exact (Blk.new _ _ _))
  have AZV2 := Lib.hid az
  clear az
  have sz3 := hb.size
  have B3 := Lib.hid (below_chain B2.out hb)
  have S_3 := Lib.hid (S_2.out.below hb)
  have G_3 := Lib.hid (G_2.out.below hb)
  have R_3 := Lib.hid (R_2.out.below hb)
  clear hb B2 S_2 G_2 R_2
  have E_3 := NE
  clear NE
  have ltE : w2.heap.size < V2.heap.size := E_3.out.lt
  have rO := row_lit (size := 5) E_3.out
  have bOO : w.heap.size ≤ w2.heap.size := by omega
  obtain ⟨bO, hbO⟩ : ∃ g, g = w2.heap.size := ⟨_, rfl⟩
  have O_3 := Lib.hid rO
  clear rO
  clear E_3
  subst hG
  have xG0 : V2.cell? ⟨w.heap.size, 0, none⟩ = some (.slice A n c) := by rw [G_3.out.cell]; rfl
  have xG1 : V2.cell? ⟨w.heap.size, 1, none⟩ = some (.int .i64 wk) := by rw [G_3.out.cell]; rfl
  have xG2 : V2.cell? ⟨w.heap.size, 2, none⟩ = some (.int .i64 cp) := by rw [G_3.out.cell]; rfl
  have xR0 : V2.cell? ⟨w.heap.size + 1, 0, none⟩ = some (.int .i64 r0) := by rw [R_3.out.cell]; rfl
  have xR1 : V2.cell? ⟨w.heap.size + 1, 1, none⟩ = some (.int .i64 r1) := by rw [R_3.out.cell]; rfl
  have xR2 : V2.cell? ⟨w.heap.size + 1, 2, none⟩ = some (.int .i64 r2) := by rw [R_3.out.cell]; rfl
  have xR3 : V2.cell? ⟨w.heap.size + 1, 3, none⟩ = some (.int .i64 r3) := by rw [R_3.out.cell]; rfl
  have xR4 : V2.cell? ⟨w.heap.size + 1, 4, none⟩ = some (.int .i64 r4) := by rw [R_3.out.cell]; rfl
  go_wp2_with fail
  clear hW xG0 xG1 xG2 xR0 xR1 xR2 xR3 xR4
  refine (specNodeOf_row HX.out HM.out HQ.out wk cp A n c HL.out HO.out hn _ (S0.out.below B3.out)).mono ?_
  rintro e w4 ⟨An, cn, rfl, rZ, hb⟩
  have sz4 := hb.size
  have B4 := Lib.hid (below_chain B3.out hb)
  have S_4 := Lib.hid (S_3.out.below hb)
  have O_4 := Lib.hid (O_3.out.below hb)
  have G_4 := Lib.hid (G_3.out.below hb)
  have R_4 := Lib.hid (R_3.out.below hb)
  clear hb B3 S_3 O_3 G_3 R_3
  have Z_4 := Lib.hid rZ
  clear rZ
  obtain ⟨V4, hW⟩ : ∃ z, (w4.alloc (.cells #[.int .i64 k, .int .i64 a, .int .i64 b, .slice An m cn] 42)) = z := ⟨_, rfl⟩
  have hb : Below w4.heap.size w4 V4 := by rw [← hW]; exact ((Below.refl _ _).alloc (by first | (simp; done) | (simp; omega) | omega) _)
  have az : V4.heap.size = w4.heap.size + 1 := by rw [← hW]; simp
  have NN := Lib.hid (show Blk V4 (w4.heap.size) 42 #[.int .i64 k, .int .i64 a, .int .i64 b, .slice An m cn] by rw [← hW]; exact (Blk.new _ _ _))
  have AZV4 := Lib.hid az
  clear az
  have sz5 := hb.size
  have B5 := Lib.hid (below_chain B4.out hb)
  have S_5 := Lib.hid (S_4.out.below hb)
  have O_5 := Lib.hid (O_4.out.below hb)
  have Z_5 := Lib.hid (Z_4.out.below hb)
  have G_5 := Lib.hid (G_4.out.below hb)
  have R_5 := Lib.hid (R_4.out.below hb)
  clear hb B4 S_4 O_4 Z_4 G_4 R_4
  have N_5 := NN
  clear NN
  have ltN : w4.heap.size < V4.heap.size := N_5.out.lt
  cases q with
  | false =>
    go_wp2
    have HF := Lib.hid (show stepGr gs wk cp ces (r0, (r1, r2), r3, r4) = ((ces, []), false) by rw [SN.out]; simp)
    clear hW
    exact bodyPost_ret (v := .tuple #[.slice As n2 cc, .slice (some ⟨w2.heap.size, 0, none⟩) 0 0, .bool false]) (by simp [results, Try.results9, go_sem]) rfl (by rw [HF.out]; exact ⟨As, cc, n2, _, 0, 0, HL2.out, rfl, rfl, own_base S_5.out.own (by omega), own_base O_5.out.own bOO, B5.out⟩)
  | true =>
    have xG0 : V4.cell? ⟨w.heap.size, 0, none⟩ = some (.slice A n c) := by rw [G_5.out.cell]; rfl
    have xG1 : V4.cell? ⟨w.heap.size, 1, none⟩ = some (.int .i64 wk) := by rw [G_5.out.cell]; rfl
    have xG2 : V4.cell? ⟨w.heap.size, 2, none⟩ = some (.int .i64 cp) := by rw [G_5.out.cell]; rfl
    go_wp2_with fail
    clear hW xG0 xG1 xG2
    refine (specGrOk_any gs wk cp A n c HL.out HO.out hn HGK.out _ (S0.out.below B5.out)).mono ?_
    rintro e w5 ⟨rfl, hb⟩
    have sz6 := hb.size
    have B6 := Lib.hid (below_chain B5.out hb)
    have S_6 := Lib.hid (S_5.out.below hb)
    have O_6 := Lib.hid (O_5.out.below hb)
    have Z_6 := Lib.hid (Z_5.out.below hb)
    have G_6 := Lib.hid (G_5.out.below hb)
    have R_6 := Lib.hid (R_5.out.below hb)
    have N_6 := Lib.hid (N_5.out.below hb)
    clear hb B5 S_5 O_5 Z_5 G_5 R_5 N_5
    cases gk with
    | false =>
      go_wp2
      have HF := Lib.hid (show stepGr gs wk cp ces (r0, (r1, r2), r3, r4) = ((ces, []), false) by rw [SN.out]; simp)
      exact bodyPost_ret (v := .tuple #[.slice As n2 cc, .slice (some ⟨w2.heap.size, 0, none⟩) 0 0, .bool false]) (by simp [results, Try.results9, go_sem]) rfl (by rw [HF.out]; exact ⟨As, cc, n2, _, 0, 0, HL2.out, rfl, rfl, own_base S_6.out.own (by omega), own_base O_6.out.own bOO, B6.out⟩)
    | true =>
      have xR0 : w5.cell? ⟨w.heap.size + 1, 0, none⟩ = some (.int .i64 r0) := by rw [R_6.out.cell]; rfl
      have xR1 : w5.cell? ⟨w.heap.size + 1, 1, none⟩ = some (.int .i64 r1) := by rw [R_6.out.cell]; rfl
      have xR2 : w5.cell? ⟨w.heap.size + 1, 2, none⟩ = some (.int .i64 r2) := by rw [R_6.out.cell]; rfl
      have xR3 : w5.cell? ⟨w.heap.size + 1, 3, none⟩ = some (.int .i64 r3) := by rw [R_6.out.cell]; rfl
      have xR4 : w5.cell? ⟨w.heap.size + 1, 4, none⟩ = some (.int .i64 r4) := by rw [R_6.out.cell]; rfl
      go_wp2_with fail
      clear xR0 xR1 xR2 xR3 xR4
      refine (specRcOkG_is HRK.out _).mono ?_
      rintro e w6 ⟨rfl, hb⟩
      have sz7 := hb.size
      have B7 := Lib.hid (below_chain B6.out hb)
      have S_7 := Lib.hid (S_6.out.below hb)
      have O_7 := Lib.hid (O_6.out.below hb)
      have Z_7 := Lib.hid (Z_6.out.below hb)
      have G_7 := Lib.hid (G_6.out.below hb)
      have R_7 := Lib.hid (R_6.out.below hb)
      have N_7 := Lib.hid (N_6.out.below hb)
      clear hb B6 S_6 O_6 Z_6 G_6 R_6 N_6
      cases rk with
      | false =>
        go_wp2
        have HF := Lib.hid (show stepGr gs wk cp ces (r0, (r1, r2), r3, r4) = ((ces, []), false) by rw [SN.out]; simp)
        exact bodyPost_ret (v := .tuple #[.slice As n2 cc, .slice (some ⟨w2.heap.size, 0, none⟩) 0 0, .bool false]) (by simp [results, Try.results9, go_sem]) rfl (by rw [HF.out]; exact ⟨As, cc, n2, _, 0, 0, HL2.out, rfl, rfl, own_base S_7.out.own (by omega), own_base O_7.out.own bOO, B7.out⟩)
      | true =>
        have xN0 : w6.cell? ⟨w4.heap.size, 0, none⟩ = some (.int .i64 k) := by rw [N_7.out.cell]; rfl
        have xN1 : w6.cell? ⟨w4.heap.size, 1, none⟩ = some (.int .i64 a) := by rw [N_7.out.cell]; rfl
        have xN2 : w6.cell? ⟨w4.heap.size, 2, none⟩ = some (.int .i64 b) := by rw [N_7.out.cell]; rfl
        have xN3 : w6.cell? ⟨w4.heap.size, 3, none⟩ = some (.slice An m cn) := by rw [N_7.out.cell]; rfl
        have xR0 : w6.cell? ⟨w.heap.size + 1, 0, none⟩ = some (.int .i64 r0) := by rw [R_7.out.cell]; rfl
        have xR1 : w6.cell? ⟨w.heap.size + 1, 1, none⟩ = some (.int .i64 r1) := by rw [R_7.out.cell]; rfl
        have xR2 : w6.cell? ⟨w.heap.size + 1, 2, none⟩ = some (.int .i64 r2) := by rw [R_7.out.cell]; rfl
        have xR3 : w6.cell? ⟨w.heap.size + 1, 3, none⟩ = some (.int .i64 r3) := by rw [R_7.out.cell]; rfl
        have xR4 : w6.cell? ⟨w.heap.size + 1, 4, none⟩ = some (.int .i64 r4) := by rw [R_7.out.cell]; rfl
        go_wp2_with fail
        clear xN0 xN1 xN2 xN3 xR0 xR1 xR2 xR3 xR4
        refine (specChg_any k a b (dec1 a) r3 r4 An m cn zs HM.out rfl _ Z_7.out.is hmn HQ2.out HK.out HQV.out HGO.out).mono ?_
        rintro e w7 ⟨rfl, hb⟩
        have sz8 := hb.size
        have B8 := Lib.hid (below_chain B7.out hb)
        have S_8 := Lib.hid (S_7.out.below hb)
        have O_8 := Lib.hid (O_7.out.below hb)
        have Z_8 := Lib.hid (Z_7.out.below hb)
        have G_8 := Lib.hid (G_7.out.below hb)
        have R_8 := Lib.hid (R_7.out.below hb)
        have N_8 := Lib.hid (N_7.out.below hb)
        clear hb B7 S_7 O_7 Z_7 G_7 R_7 N_7
        have SM := Lib.hid (SN.out.trans (if_neg (by decide)))
        by_cases k8 : k = 8
        rotate_left
        · skip
          have xN0 : w7.cell? ⟨w4.heap.size, 0, none⟩ = some (.int .i64 k) := by rw [N_8.out.cell]; rfl
          have xN1 : w7.cell? ⟨w4.heap.size, 1, none⟩ = some (.int .i64 a) := by rw [N_8.out.cell]; rfl
          have xN2 : w7.cell? ⟨w4.heap.size, 2, none⟩ = some (.int .i64 b) := by rw [N_8.out.cell]; rfl
          have xN3 : w7.cell? ⟨w4.heap.size, 3, none⟩ = some (.slice An m cn) := by rw [N_8.out.cell]; rfl
          have d8 : (k != 8) = true := by simpa using k8
          go_wp2
          have HF := Lib.hid (show stepGr gs wk cp ces (r0, (r1, r2), r3, r4) = ((ces, []), true) by rw [SM.out]; simp [stepNd, k8])
          clear xN0 xN1 xN2 xN3
          exact bodyPost_ret (v := .tuple #[.slice As n2 cc, .slice (some ⟨w2.heap.size, 0, none⟩) 0 0, .bool true]) (by simp [results, Try.results9, go_sem]) rfl (by rw [HF.out]; exact ⟨As, cc, n2, _, 0, 0, HL2.out, rfl, rfl, own_base S_8.out.own (by omega), own_base O_8.out.own bOO, B8.out⟩)
        subst k8
        have d8 : ((8 : Int) != 8) = false := by decide
        have xN0 : w7.cell? ⟨w4.heap.size, 0, none⟩ = some (.int .i64 8) := by rw [N_8.out.cell]; rfl
        have xN1 : w7.cell? ⟨w4.heap.size, 1, none⟩ = some (.int .i64 a) := by rw [N_8.out.cell]; rfl
        have xN2 : w7.cell? ⟨w4.heap.size, 2, none⟩ = some (.int .i64 b) := by rw [N_8.out.cell]; rfl
        have xN3 : w7.cell? ⟨w4.heap.size, 3, none⟩ = some (.slice An m cn) := by rw [N_8.out.cell]; rfl
        go_wp2_with fail
        clear xN0 xN1 xN2 xN3
        refine (specRemG_is HRM.out _).mono ?_
        rintro e w8 ⟨rfl, hb⟩
        have sz9 := hb.size
        have B9 := Lib.hid (below_chain B8.out hb)
        have S_9 := Lib.hid (S_8.out.below hb)
        have O_9 := Lib.hid (O_8.out.below hb)
        have Z_9 := Lib.hid (Z_8.out.below hb)
        have G_9 := Lib.hid (G_8.out.below hb)
        have R_9 := Lib.hid (R_8.out.below hb)
        have N_9 := Lib.hid (N_8.out.below hb)
        clear hb B8 S_8 O_8 Z_8 G_8 R_8 N_8
        have ST := Lib.hid (show stepGr gs wk cp ces (r0, (r1, r2), r3, r4) = (if (if rm = true then recC (8 : Int) ces (r0, r1, r3, r4) else (ces, true)).2 = false then (((if rm = true then recC (8 : Int) ces (r0, r1, r3, r4) else (ces, true)).1, []), true) else if (8 : Int) = 7 then (if hasNext r1 r2 = true then (((if rm = true then recC (8 : Int) ces (r0, r1, r3, r4) else (ces, true)).1, emitL zs (r1, r2 + 1) ky vy), true) else (((if rm = true then recC (8 : Int) ces (r0, r1, r3, r4) else (ces, true)).1, []), true)) else (((if rm = true then recC (8 : Int) ces (r0, r1, r3, r4) else (ces, true)).1, emitL zs (r1, r2) ky vy), true)) by rw [SM.out]; unfold stepNd; rw [if_neg (by simp)]; simp only [HRM.out])
        obtain rfl : rm = true := by rw [← HRM.out]; decide
        obtain ⟨us, on, hrc⟩ : ∃ p o, recC 8 ces (r0, r1, r3, r4) = (p, o) := ⟨_, _, rfl⟩
        obtain ⟨m3, hm3⟩ : ∃ m, us.length = m := ⟨_, rfl⟩
        have hml3 : m3 ≤ 2000001 := by
          have h := recC_len 8 ces (r0, r1, r3, r4)
          rw [hrc] at h
          have h2 : us.length ≤ ces.length + 1 := h
          rw [HL2.out, hm3] at h2
          omega
        have SU := Lib.hid (ST.out.trans (by rw [if_pos rfl, hrc]))
        have HRC := Lib.hid hrc
        have HM3 := Lib.hid hm3
        clear hrc hm3
        have xN0 : w8.cell? ⟨w4.heap.size, 0, none⟩ = some (.int .i64 8) := by rw [N_9.out.cell]; rfl
        have xN1 : w8.cell? ⟨w4.heap.size, 1, none⟩ = some (.int .i64 a) := by rw [N_9.out.cell]; rfl
        have xN2 : w8.cell? ⟨w4.heap.size, 2, none⟩ = some (.int .i64 b) := by rw [N_9.out.cell]; rfl
        have xN3 : w8.cell? ⟨w4.heap.size, 3, none⟩ = some (.slice An m cn) := by rw [N_9.out.cell]; rfl
        have xR0 : w8.cell? ⟨w.heap.size + 1, 0, none⟩ = some (.int .i64 r0) := by rw [R_9.out.cell]; rfl
        have xR1 : w8.cell? ⟨w.heap.size + 1, 1, none⟩ = some (.int .i64 r1) := by rw [R_9.out.cell]; rfl
        have xR2 : w8.cell? ⟨w.heap.size + 1, 2, none⟩ = some (.int .i64 r2) := by rw [R_9.out.cell]; rfl
        have xR3 : w8.cell? ⟨w.heap.size + 1, 3, none⟩ = some (.int .i64 r3) := by rw [R_9.out.cell]; rfl
        have xR4 : w8.cell? ⟨w.heap.size + 1, 4, none⟩ = some (.int .i64 r4) := by rw [R_9.out.cell]; rfl
        go_wp2_with fail
        clear xN0 xN1 xN2 xN3 xR0 xR1 xR2 xR3 xR4
        refine (specRecG_row HL2.out HA2.out HC2.out hn2 HRC.out HM3.out _ (S2.out.below B9.out)).mono ?_
        rintro e w9 ⟨A3, c3, rfl, rX, hb⟩
        have sz10 := hb.size
        have B10 := Lib.hid (below_chain B9.out hb)
        have S_10 := Lib.hid (S_9.out.below hb)
        have O_10 := Lib.hid (O_9.out.below hb)
        have Z_10 := Lib.hid (Z_9.out.below hb)
        have G_10 := Lib.hid (G_9.out.below hb)
        have R_10 := Lib.hid (R_9.out.below hb)
        have N_10 := Lib.hid (N_9.out.below hb)
        clear hb B9 S_9 O_9 Z_9 G_9 R_9 N_9
        have X_10 := Lib.hid rX
        clear rX
        clear S_10
        cases on with
        | false =>
          go_wp2
          have HF := Lib.hid (show stepGr gs wk cp ces (r0, (r1, r2), r3, r4) = ((us, []), true) by rw [SU.out]; simp)
          exact bodyPost_ret (v := .tuple #[.slice A3 m3 c3, .slice (some ⟨w2.heap.size, 0, none⟩) 0 0, .bool true]) (by simp [results, Try.results9, go_sem]) rfl (by rw [HF.out]; exact ⟨A3, c3, m3, _, 0, 0, HM3.out, rfl, rfl, own_base X_10.out.own (by omega), own_base O_10.out.own bOO, B10.out⟩)
        | true =>
          have yR1 : w9.cell? ⟨w.heap.size + 1, 1, none⟩ = some (.int .i64 r1) := by rw [R_10.out.cell]; rfl
          have yR2 : w9.cell? ⟨w.heap.size + 1, 2, none⟩ = some (.int .i64 r2) := by rw [R_10.out.cell]; rfl
          obtain ⟨V6, hW⟩ : ∃ z, (w9.alloc (.cells #[.int .i64 r1, .int .i64 r2] 29)) = z := ⟨_, rfl⟩
          have hb : Below w9.heap.size w9 V6 := by rw [← hW]; exact ((Below.refl _ _).alloc (by first | (simp; done) | (simp; omega) | omega) _)
          have az : V6.heap.size = w9.heap.size + 1 := by rw [← hW]; simp
          have NT := Lib.hid (show Blk V6 (w9.heap.size) 29 #[.int .i64 r1, .int .i64 r2] by rw [← hW]; exact (Blk.new _ _ _))
          have AZV6 := Lib.hid az
          clear az
          have sz11 := hb.size
          have B11 := Lib.hid (below_chain B10.out hb)
          have O_11 := Lib.hid (O_10.out.below hb)
          have Z_11 := Lib.hid (Z_10.out.below hb)
          have X_11 := Lib.hid (X_10.out.below hb)
          have G_11 := Lib.hid (G_10.out.below hb)
          have R_11 := Lib.hid (R_10.out.below hb)
          have N_11 := Lib.hid (N_10.out.below hb)
          clear hb B10 O_10 Z_10 X_10 G_10 R_10 N_10
          have T_11 := NT
          clear NT
          have ltT : w9.heap.size < V6.heap.size := T_11.out.lt
          have d7 : ((8 : Int) == 7) = false := by decide
          have xN0 : V6.cell? ⟨w4.heap.size, 0, none⟩ = some (.int .i64 8) := by rw [N_11.out.cell]; rfl
          have xN1 : V6.cell? ⟨w4.heap.size, 1, none⟩ = some (.int .i64 a) := by rw [N_11.out.cell]; rfl
          have xN2 : V6.cell? ⟨w4.heap.size, 2, none⟩ = some (.int .i64 b) := by rw [N_11.out.cell]; rfl
          have xN3 : V6.cell? ⟨w4.heap.size, 3, none⟩ = some (.slice An m cn) := by rw [N_11.out.cell]; rfl
          have xR0 : V6.cell? ⟨w.heap.size + 1, 0, none⟩ = some (.int .i64 r0) := by rw [R_11.out.cell]; rfl
          have xR1 : V6.cell? ⟨w.heap.size + 1, 1, none⟩ = some (.int .i64 r1) := by rw [R_11.out.cell]; rfl
          have xR2 : V6.cell? ⟨w.heap.size + 1, 2, none⟩ = some (.int .i64 r2) := by rw [R_11.out.cell]; rfl
          have xR3 : V6.cell? ⟨w.heap.size + 1, 3, none⟩ = some (.int .i64 r3) := by rw [R_11.out.cell]; rfl
          have xR4 : V6.cell? ⟨w.heap.size + 1, 4, none⟩ = some (.int .i64 r4) := by rw [R_11.out.cell]; rfl
          go_wp2_with fail
          obtain ⟨nb, hnb⟩ : ∃ g, g = w4.heap.size := ⟨_, rfl⟩
          obtain ⟨tb, htb⟩ : ∃ g, g = w9.heap.size := ⟨_, rfl⟩
          have LS := Lib.hid (show StepSt w V6 bO V.heap.size w.heap.size nb tb A3 m3 c3 us An m cn zs 8 a b r1 r2 (some ⟨w2.heap.size, 0, none⟩) 0 0 [] from ⟨by rw [hbO]; exact O_11.out.own, own_base X_11.out.own (by omega), own_base Z_11.out.own (by omega), by rw [hnb]; exact N_11.out, by rw [htb]; exact T_11.out, by omega, by omega, by omega, by omega, B11.out⟩)
          have HF := Lib.hid (show stepGr gs wk cp ces (r0, (r1, r2), r3, r4) = ((us, emitL zs (r1, r2) ky vy), true) by rw [SU.out]; simp)
          clear hW yR1 yR2 xN0 xN1 xN2 xN3 xR0 xR1 xR2 xR3 xR4
          go_loopw [10, 21] (fun v i wr => ∃ (j : Nat) (AO : Option Addr) (cO : Nat), i = .int .i64 (j : Int) ∧ j ≤ m ∧ v = .slice AO j cO ∧ StepSt w wr bO V.heap.size w.heap.size nb tb A3 m3 c3 us An m cn zs 8 a b r1 r2 AO j cO (emitL (zs.take j) (r1, r2) ky vy)) (fun _ i _ => m - (intOf i).toNat)
          case atStart => exact ⟨0, _, 0, rfl, Nat.zero_le _, rfl, LS.out⟩
          case round =>
            obtain ⟨j, AO, cO, rfl, hj, rfl, hS⟩ := hrel
            have SR := Lib.hid hS
            clear hS
            have n3 : wr.cell? ⟨nb, 3, none⟩ = some (.slice An m cn) := by rw [SR.out.n.cell]; rfl
            rw [hnb] at n3
            by_cases hlt : j < m
            · obtain ⟨bz, oz, z, hAz, hz2, hze⟩ := SR.out.at.2.at (show j < zs.length by rw [HM.out]; exact hlt)
              have i0 : (0 : Int) ≤ (j : Int) := by omega
              have i1 : (j : Int) < (m : Int) := by omega
              obtain ⟨out, hout⟩ : ∃ o, emitL (zs.take j) (r1, r2) ky vy = o := ⟨_, rfl⟩
              have ES := Lib.hid (show emitL (zs.take (j + 1)) (r1, r2) ky vy = out ++ [(z, (r1, r2), ky, vy)] by rw [emit_step (by rw [HM.out]; exact hlt), hout, hz2])
              rw [hout] at SR
              obtain ⟨V9, hV⟩ : ∃ v, wr.drew = v := ⟨_, rfl⟩
              have SV := Lib.hid (show StepSt w V9 bO V.heap.size w.heap.size nb tb A3 m3 c3 us An m cn zs 8 a b r1 r2 AO j cO out by rw [← hV]; exact SR.out.fresh ((Below.refl _ _).drew))
              have HV := Lib.hid (SV.out.held (show j < zs.length by rw [HM.out]; exact hlt) hAz hz2)
              have HAZ := Lib.hid hAz
              have HZ2 := Lib.hid hz2
              clear hAz hz2
              go_wp2_with fail
              clear n3 hze
              refine wp_region_held_drew (S := StepHeld (w4.heap.size) m cn bz oz j z (w9.heap.size) r1 r2) (by kernel_rfl) ?_ (fun hHeld => ?_)
              · skip
                rw [hV]; have q := HV.out; rw [hnb, htb] at q; exact q
              change wpAnyH _ _ opsS23 _ _ 13 (LS23 0) _ _
              rw [hV] at hHeld ⊢
              clear hV
              refine regY tS23_0 (.slice AO j cO) (fun W hSw => by unfold qS23_0; go_simp) hHeld ?_
              try simp only [pt, List.set]
              refine regY tS23_1 (.pointer (some ⟨w4.heap.size, 3, none⟩)) (fun W hSw => by unfold qS23_1; go_simp) hHeld ?_
              try simp only [pt, List.set]
              refine regY tS23_2 (.slice (some ⟨bz, oz, none⟩) m cn) (fun W hSw => by unfold qS23_2; obtain ⟨c3, e0, t0, t1, _⟩ := hSw; go_simp) hHeld ?_
              try simp only [pt, List.set]
              refine regY tS23_3 (.int .i64 (j : Int)) (fun W hSw => by unfold qS23_3; go_simp) hHeld ?_
              try simp only [pt, List.set]
              refine regY tS23_4 (.pointer (some ⟨bz, oz + j, none⟩)) (fun W hSw => by unfold qS23_4; go_simp) hHeld ?_
              try simp only [pt, List.set]
              refine regY tS23_5 (.int .i64 z) (fun W hSw => by unfold qS23_5; obtain ⟨c3, e0, t0, t1, _⟩ := hSw; go_simp) hHeld ?_
              try simp only [pt, List.set]
              refine regY tS23_6 (.agg #[.int .i64 r1, .int .i64 r2]) (fun W hSw => by unfold qS23_6; obtain ⟨c3, e0, t0, t1, _⟩ := hSw; go_simp) hHeld ?_
              try simp only [pt, List.set]
              refine regY tS23_7 (.int .i64 ky) (fun W hSw => by unfold qS23_7; go_simp) hHeld ?_
              try simp only [pt, List.set]
              refine regY tS23_8 (.int .i64 vy) (fun W hSw => by unfold qS23_8; go_simp) hHeld ?_
              try simp only [pt, List.set]
              refine regY tS23_9 (.agg #[.int .i64 z, .int .i64 r1, .int .i64 r2, .int .i64 ky, .int .i64 vy]) (fun W hSw => by unfold qS23_9; go_simp) hHeld ?_
              try simp only [pt, List.set]
              refine cS23_10 (fun K hK => ?_)
              rw [if_pos (by rfl)]
              unfold qS23_10
              go_simp
              obtain ⟨g, hg⟩ : ∃ g, g = V9.heap.size := ⟨_, rfl⟩
              rw [← hg]
              generalize hU : World.alloc _ _ = U
              have bU : Below V9.heap.size V9 U := by rw [← hU]; exact (Below.refl _ _).alloc (Nat.le_refl _) _
              have NU := Lib.hid (show Rcs U (some ⟨g, 0, none⟩) [(z, (r1, r2), ky, vy)] by rw [← hU, hg]; exact rc_new _ _ _ _ _ _)
              have SU := Lib.hid (SV.out.fresh bU)
              have HU := hHeld.below bU
              clear hU hg bU
              refine Shut.out hK _ _ ?_ (fun hHeld => ?_)
              · exact HU
              clear hK K
              try simp only [pt, List.set]
              refine cS23_11 (fun K hK => ?_)
              refine step_append_rc rfl (.tmp 113) (.tmp 123) (by rfl) bO (.slice AO j cO) j out (by rfl) SU.out.o (some ⟨g, 0, none⟩) 1 1 [(z, (r1, r2), ky, vy)] (by rfl) (fun h => by cases h) rfl NU.out (by omega) (Nat.le_trans SU.out.ob SU.out.sz) ?_
              intro vn w9 own gr
              obtain ⟨AN, cN, rfl, hS9⟩ := SU.out.app own gr
              have S9 := Lib.hid hS9
              have H9 := S9.out.held (by rw [HM.out]; exact hlt) HAZ.out HZ2.out
              rw [hnb, htb] at H9
              clear own gr hS9
              refine Shut.out hK _ _ ?_ (fun hHeld => ?_)
              · exact H9
              rw [show qS23_11.dst = some 124 from rfl]
              clear hK K
              try simp only [pt, List.set]
              refine regY tS23_12 (.slice AN (j + 1) cN) (fun W hSw => by unfold qS23_12; go_simp) hHeld ?_
              try simp only [pt, List.set]
              refine wpAnyH_done (by kernel_rfl) ?_ _
              clear hHeld SU NU SV HV
              go_wp2
              go_roundw
              case rel => first | exact ⟨j + 1, AN, cN, by go_num, by omega, rfl, by rw [ES.out]; exact S9.out⟩ | ((repeat apply Exists.intro); refine ⟨?_, rfl⟩; exact ⟨j + 1, AN, cN, by go_num, by omega, rfl, by rw [ES.out]; exact S9.out⟩)
              case measure => simp [intOf]; omega
            · obtain rfl : j = m := by omega
              have HE := Lib.hid (show stepGr gs wk cp ces (r0, (r1, r2), r3, r4) = ((us, emitL (zs.take j) (r1, r2) ky vy), true) by rw [HF.out, List.take_of_length_le (by rw [HM.out]; exact Nat.le_refl _)])
              have dl : decide (j < j) = false := by simp
              clear hlt
              go_wp2
              exact bodyPost_ret (v := .tuple #[.slice A3 m3 c3, .slice AO j cO, .bool true]) (by simp [results, Try.results9, go_sem]) rfl (SR.out.done HE.out)
end Go.Proofs.Ytlanmkimaambgaa.hexes

