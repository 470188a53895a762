/-
  The walk of FnSteps.
-/
import Derived.Test.YtlanmkimaambgaaS51
import Derived.Test.YtlanmkimaambgaaS52

namespace Go.Proofs.Ytlanmkimaambgaa.fnSteps
open Go.RowKit Go.Proofs.Ytlanmkimaambgaa.hexes

set_option maxRecDepth 1000000 in
set_option maxHeartbeats 16000000 in
theorem walk (a0 : Option Addr) (len0 cap0 : Nat) (z0 : List Int) (w : World) (w0 : IsRow .u8 w a0 len0 cap0 z0) :
    Calls Try.prog 3 #[.slice a0 len0 cap0] w fun e w' => e = .returned (.bool true) ∧ Below w.heap.size w w' := by
  have hcame := came_of_row w0
  have HG := Lib.hid (fun W => big_any a0 len0 cap0 W)
  by_cases h1 : 1048576 < len0
  · have hd : decide (1048576 < (len0 : Int)) = true := by simp; omega
    clear hcame w0
    go_enter Try.func3, Try.ntmps3
    go_wp2_with (go_at_call 6; refine (HG.out _).mono ?_; rintro e w1 ⟨rfl, rfl⟩)
    go_ret
    exact ⟨rfl, Below.refl _ _⟩
  have hd : decide (1048576 < (len0 : Int)) = false := by simp; omega
  have HC := Lib.hid hcame
  have hlen : len0 ≤ 2097152 := by omega
  clear hcame w0 h1
  go_enter Try.func3, Try.ntmps3
  go_wp2_with (go_at_call 6; refine (HG.out _).mono ?_; rintro e w1 ⟨rfl, rfl⟩)
  refine (drawStep_any _ a0 len0 cap0 hlen HC.out).mono ?_
  rintro e w1 ⟨A, n, c, wk, cp, gs, A2, n2, c2, ces, r0, r1, r2, r3, r4, hn9, hl, ho4, hn2, hl2, rfl, hD, oC, hb⟩
  have sz1 := hb.size
  have B1 := Lib.hid (hb)
  clear hb
  clear HG hd
  have L := Lib.hid hl
  have OU := Lib.hid (fun x hx => Nat.le_trans (ho4 x hx) (by omega : 4 ≤ 1048576))
  have L2 := Lib.hid hl2
  have hn : n ≤ 1048576 := by omega
  have D_1 := Lib.hid hD
  clear hl ho4 hl2 hD
  obtain ⟨A2x, c2x, he2, rC⟩ := row_of oC
  simp only [Value.slice.injEq, true_and] at he2
  obtain ⟨rfl, rfl⟩ := he2
  have C_1 := Lib.hid rC
  clear oC rC
  obtain ⟨⟨⟨us, out⟩, ok⟩, hsg⟩ : ∃ p, stepGr gs wk cp ces (r0, (r1, r2), r3, r4) = p := ⟨_, rfl⟩
  obtain ⟨m3, hm3⟩ : ∃ m, us.length = m := ⟨_, rfl⟩
  obtain ⟨m4, hm4⟩ : ∃ m, out.length = m := ⟨_, rfl⟩
  obtain ⟨kq, hkq⟩ : ∃ q, capG gs wk cp (r0, (r1, r2), r3, r4) = q := ⟨_, rfl⟩
  have l3 : m3 ≤ 7 := by have h := stepG_cells gs wk cp ces (r0, (r1, r2), r3, r4); rw [hsg, L2.out] at h; rw [← hm3]; exact Nat.le_trans h (by omega)
  have l4 : m4 ≤ 2 := by have h := stepG_out gs wk cp ces (r0, (r1, r2), r3, r4); rw [hsg] at h; rw [← hm4]; exact h
  have HSG := Lib.hid hsg
  have M3 := Lib.hid hm3
  have M4 := Lib.hid hm4
  have KQ := Lib.hid hkq
  clear hsg hm3 hm4 hkq
  have hoo : (ok != ok) = false := by simp
  have hkk : (kq != kq) = false := by simp
  obtain ⟨V1, hW⟩ : ∃ z, ((w1.alloc (.cells #[.slice A n c, .int .i64 wk, .int .i64 cp] 26)).alloc (.cells #[.int .i64 r0, .int .i64 r1, .int .i64 r2, .int .i64 r3, .int .i64 r4] 31)) = z := ⟨_, rfl⟩
  have hb : Below w1.heap.size w1 V1 := by rw [← hW]; exact (((Below.refl _ _).alloc (by first | (simp; done) | (simp; omega) | omega) _).alloc (by first | (simp; done) | (simp; omega) | omega) _)
  have az : V1.heap.size = w1.heap.size + 2 := by rw [← hW]; simp
  have Ng3 := Lib.hid (show Blk V1 (w1.heap.size) 26 #[.slice A n c, .int .i64 wk, .int .i64 cp] by rw [← hW]; exact ((Below.heap_alloc _ _ _ (by first | (simp; done) | (simp; omega))).trans (Blk.new _ _ _)))
  have Nr5 := Lib.hid (show Blk V1 (w1.heap.size + 1) 31 #[.int .i64 r0, .int .i64 r1, .int .i64 r2, .int .i64 r3, .int .i64 r4] by rw [← hW]; exact ((show w1.heap.size + 1 = ((w1.alloc _)).heap.size by simp) ▸ Blk.new _ _ _))
  have AZV1 := Lib.hid az
  clear az
  have sz2 := hb.size
  have B2 := Lib.hid (below_chain B1.out hb)
  have D_2 := Lib.hid (D_1.out.below hb)
  have C_2 := Lib.hid (C_1.out.below hb)
  clear hb B1 D_1 C_1
  have g3_2 := Ng3
  clear Ng3
  have ltg3 : w1.heap.size < V1.heap.size := g3_2.out.lt
  have r5_2 := Nr5
  clear Nr5
  have ltr5 : w1.heap.size + 1 < V1.heap.size := r5_2.out.lt
  have xg30 : V1.cell? ⟨w1.heap.size, 0, none⟩ = some (.slice A n c) := by rw [g3_2.out.cell]; rfl
  have xg31 : V1.cell? ⟨w1.heap.size, 1, none⟩ = some (.int .i64 wk) := by rw [g3_2.out.cell]; rfl
  have xg32 : V1.cell? ⟨w1.heap.size, 2, none⟩ = some (.int .i64 cp) := by rw [g3_2.out.cell]; rfl
  have xr50 : V1.cell? ⟨w1.heap.size + 1, 0, none⟩ = some (.int .i64 r0) := by rw [r5_2.out.cell]; rfl
  have xr51 : V1.cell? ⟨w1.heap.size + 1, 1, none⟩ = some (.int .i64 r1) := by rw [r5_2.out.cell]; rfl
  have xr52 : V1.cell? ⟨w1.heap.size + 1, 2, none⟩ = some (.int .i64 r2) := by rw [r5_2.out.cell]; rfl
  have xr53 : V1.cell? ⟨w1.heap.size + 1, 3, none⟩ = some (.int .i64 r3) := by rw [r5_2.out.cell]; rfl
  have xr54 : V1.cell? ⟨w1.heap.size + 1, 4, none⟩ = some (.int .i64 r4) := by rw [r5_2.out.cell]; rfl
  go_wp2_with fail
  clear hW xg30 xg31 xg32 xr50 xr51 xr52 xr53 xr54
  refine (implStep_rows HSG.out M3.out M4.out L.out OU.out hn L2.out C_2.out.nil (own_capS C_2.out.own) (by omega) _ D_2.out C_2.out.ce (c := c)).mono ?_
  rintro e w2 ⟨A20, c20, A21, c21, rfl, r20, t20, hb⟩
  have sz3 := hb.size
  have B3 := Lib.hid (below_chain B2.out hb)
  have D_3 := Lib.hid (D_2.out.below hb)
  have C_3 := Lib.hid (C_2.out.below hb)
  have g3_3 := Lib.hid (g3_2.out.below hb)
  have r5_3 := Lib.hid (r5_2.out.below hb)
  clear hb B2 D_2 C_2 g3_2 r5_2
  have X20_3 := Lib.hid r20
  clear r20
  have X21_3 := Lib.hid t20
  clear t20
  have xg30 : w2.cell? ⟨w1.heap.size, 0, none⟩ = some (.slice A n c) := by rw [g3_3.out.cell]; rfl
  have xg31 : w2.cell? ⟨w1.heap.size, 1, none⟩ = some (.int .i64 wk) := by rw [g3_3.out.cell]; rfl
  have xg32 : w2.cell? ⟨w1.heap.size, 2, none⟩ = some (.int .i64 cp) := by rw [g3_3.out.cell]; rfl
  have xr50 : w2.cell? ⟨w1.heap.size + 1, 0, none⟩ = some (.int .i64 r0) := by rw [r5_3.out.cell]; rfl
  have xr51 : w2.cell? ⟨w1.heap.size + 1, 1, none⟩ = some (.int .i64 r1) := by rw [r5_3.out.cell]; rfl
  have xr52 : w2.cell? ⟨w1.heap.size + 1, 2, none⟩ = some (.int .i64 r2) := by rw [r5_3.out.cell]; rfl
  have xr53 : w2.cell? ⟨w1.heap.size + 1, 3, none⟩ = some (.int .i64 r3) := by rw [r5_3.out.cell]; rfl
  have xr54 : w2.cell? ⟨w1.heap.size + 1, 4, none⟩ = some (.int .i64 r4) := by rw [r5_3.out.cell]; rfl
  go_wp2_with fail
  clear xg30 xg31 xg32 xr50 xr51 xr52 xr53 xr54
  refine (specStep_rows HSG.out M3.out M4.out L.out OU.out hn L2.out C_3.out.nil (own_capS C_3.out.own) (by omega) _ D_3.out C_3.out.ce (c := c)).mono ?_
  rintro e w3 ⟨A30, c30, A31, c31, rfl, r30, t30, hb⟩
  have sz4 := hb.size
  have B4 := Lib.hid (below_chain B3.out hb)
  have D_4 := Lib.hid (D_3.out.below hb)
  have C_4 := Lib.hid (C_3.out.below hb)
  have X20_4 := Lib.hid (X20_3.out.below hb)
  have X21_4 := Lib.hid (X21_3.out.below hb)
  have g3_4 := Lib.hid (g3_3.out.below hb)
  have r5_4 := Lib.hid (r5_3.out.below hb)
  clear hb B3 D_3 C_3 X20_3 X21_3 g3_3 r5_3
  have X30_4 := Lib.hid r30
  clear r30
  have X31_4 := Lib.hid t30
  clear t30
  clear C_4
  go_wp2_with fail
  obtain ⟨V3, hV⟩ : ∃ v, w3.drew = v := ⟨_, rfl⟩
  have BV := Lib.hid (show Below w3.heap.size w3 V3 by rw [← hV]; exact (Below.refl _ _).drew)
  have HD := Lib.hid (show StepsH V3 (w1.heap.size) A n c wk cp (w1.heap.size + 1) r0 r1 r2 r3 r4 V3 by rw [← hV]; exact ⟨by show w3.cell? _ = _; rw [g3_4.out.cell]; rfl, by show w3.cell? _ = _; rw [g3_4.out.cell]; rfl, by show w3.cell? _ = _; rw [g3_4.out.cell]; rfl, by show w3.cell? _ = _; rw [r5_4.out.cell]; rfl, by show w3.cell? _ = _; rw [r5_4.out.cell]; rfl, by show w3.cell? _ = _; rw [r5_4.out.cell]; rfl, by show w3.cell? _ = _; rw [r5_4.out.cell]; rfl, by show w3.cell? _ = _; rw [r5_4.out.cell]; rfl, Below.refl _ _⟩)
  refine wp_region_held_drew (S := StepsH V3 (w1.heap.size) A n c wk cp (w1.heap.size + 1) r0 r1 r2 r3 r4) (by kernel_rfl) ?_ (fun hHeld => ?_)
  · skip
    rw [hV]; exact HD.out
  change wpAnyH _ _ opsT6 _ _ 24 (LT6 0) _ _
  rw [hV] at hHeld ⊢
  clear hV
  refine regY tT6_0 (.bool ok) (fun W hSw => by unfold qT6_0; go_simp) hHeld ?_
  try simp only [pt, List.set]
  refine regY tT6_1 (.bool ok) (fun W hSw => by unfold qT6_1; go_simp) hHeld ?_
  try simp only [pt, List.set]
  refine regY tT6_2 (.bool false) (fun W hSw => by unfold qT6_2; go_simp) hHeld ?_
  try simp only [pt, List.set]
  refine regY tT6_3 (.bool false) (fun W hSw => by unfold qT6_3; go_simp) hHeld ?_
  try simp only [pt, List.set]
  refine regY tT6_4 (.slice A20 m3 c20) (fun W hSw => by unfold qT6_4; go_simp) hHeld ?_
  try simp only [pt, List.set]
  refine regY tT6_5 (.slice A30 m3 c30) (fun W hSw => by unfold qT6_5; go_simp) hHeld ?_
  try simp only [pt, List.set]
  refine cT6_6 (fun K hK => ?_)
  rw [if_pos (by rfl)]
  unfold qT6_6
  go_simp
  refine (sameCe_is M3.out (by omega) (X20_4.out.below (below_chain BV.out hHeld.bel)).ce (X30_4.out.below (below_chain BV.out hHeld.bel)).ce).mono ?_
  rintro e w91 ⟨rfl, bq⟩
  refine Shut.out hK _ _ ?_ (fun hHeld => ?_)
  · exact hHeld.below bq
  clear hK K
  try simp only [pt, List.set]
  refine regY tT6_7 (.bool false) (fun W hSw => by unfold qT6_7; go_simp) hHeld ?_
  try simp only [pt, List.set]
  refine regY tT6_8 (.bool false) (fun W hSw => by unfold qT6_8; go_simp) hHeld ?_
  try simp only [pt, List.set]
  refine regY tT6_9 (.bool false) (fun W hSw => by unfold qT6_9; go_simp) hHeld ?_
  try simp only [pt, List.set]
  refine regY tT6_10 (.slice A21 m4 c21) (fun W hSw => by unfold qT6_10; go_simp) hHeld ?_
  try simp only [pt, List.set]
  refine regY tT6_11 (.slice A31 m4 c31) (fun W hSw => by unfold qT6_11; go_simp) hHeld ?_
  try simp only [pt, List.set]
  refine cT6_12 (fun K hK => ?_)
  rw [if_pos (by rfl)]
  unfold qT6_12
  go_simp
  refine (sameRc_is M4.out (by omega) (X21_4.out.below (below_chain BV.out hHeld.bel)).rc (X31_4.out.below (below_chain BV.out hHeld.bel)).rc).mono ?_
  rintro e w92 ⟨rfl, bq⟩
  refine Shut.out hK _ _ ?_ (fun hHeld => ?_)
  · exact hHeld.below bq
  clear hK K
  try simp only [pt, List.set]
  refine regY tT6_13 (.bool false) (fun W hSw => by unfold qT6_13; go_simp) hHeld ?_
  try simp only [pt, List.set]
  refine regY tT6_14 (.bool false) (fun W hSw => by unfold qT6_14; go_simp) hHeld ?_
  try simp only [pt, List.set]
  refine regY tT6_15 (.bool false) (fun W hSw => by unfold qT6_15; go_simp) hHeld ?_
  try simp only [pt, List.set]
  refine regY tT6_16 (.agg #[.slice A n c, .int .i64 wk, .int .i64 cp]) (fun W hSw => by unfold qT6_16; obtain ⟨g0, g1, g2, q0, q1, q2, q3, q4, _⟩ := hSw; go_simp) hHeld ?_
  try simp only [pt, List.set]
  refine regY tT6_17 (.agg #[.int .i64 r0, .int .i64 r1, .int .i64 r2, .int .i64 r3, .int .i64 r4]) (fun W hSw => by unfold qT6_17; obtain ⟨g0, g1, g2, q0, q1, q2, q3, q4, _⟩ := hSw; go_simp) hHeld ?_
  try simp only [pt, List.set]
  refine regY tT6_18 (.agg #[.slice A n c, .int .i64 wk, .int .i64 cp]) (fun W hSw => by unfold qT6_19; obtain ⟨g0, g1, g2, q0, q1, q2, q3, q4, _⟩ := hSw; go_simp) hHeld ?_
  try simp only [pt, List.set]
  refine regY tT6_19 (.agg #[.int .i64 r0, .int .i64 r1, .int .i64 r2, .int .i64 r3, .int .i64 r4]) (fun W hSw => by unfold qT6_20; obtain ⟨g0, g1, g2, q0, q1, q2, q3, q4, _⟩ := hSw; go_simp) hHeld ?_
  try simp only [pt, List.set]
  refine cT6_20 (fun K hK => ?_)
  rw [if_pos (by rfl)]
  unfold qT6_18
  go_simp
  refine (capI_is KQ.out L.out OU.out hn _ (D_4.out.below (below_chain BV.out hHeld.bel))).mono ?_
  rintro e w93 ⟨rfl, bq⟩
  refine Shut.out hK _ _ ?_ (fun hHeld => ?_)
  · exact hHeld.below bq
  clear hK K
  try simp only [pt, List.set]
  refine cT6_21 (fun K hK => ?_)
  rw [if_pos (by rfl)]
  unfold qT6_21
  go_simp
  refine (capS_is KQ.out L.out OU.out hn _ (D_4.out.below (below_chain BV.out hHeld.bel))).mono ?_
  rintro e w94 ⟨rfl, bq⟩
  refine Shut.out hK _ _ ?_ (fun hHeld => ?_)
  · exact hHeld.below bq
  clear hK K
  try simp only [pt, List.set]
  refine regY tT6_22 (.bool false) (fun W hSw => by unfold qT6_22; go_simp) hHeld ?_
  try simp only [pt, List.set]
  refine regY tT6_23 (.bool false) (fun W hSw => by unfold qT6_23; go_simp) hHeld ?_
  try simp only [pt, List.set]
  refine wpAnyH_done (by kernel_rfl) ?_ _
  have hb0 := hHeld.bel
  have hb := below_chain BV.out hb0
  obtain ⟨w4, hw4⟩ : ∃ z, z = w94 := ⟨_, rfl⟩
  subst hw4
  clear hb0 hHeld HD BV
  have sz5 := hb.size
  have B5 := Lib.hid (below_chain B4.out hb)
  have D_5 := Lib.hid (D_4.out.below hb)
  have X20_5 := Lib.hid (X20_4.out.below hb)
  have X21_5 := Lib.hid (X21_4.out.below hb)
  have X30_5 := Lib.hid (X30_4.out.below hb)
  have X31_5 := Lib.hid (X31_4.out.below hb)
  have g3_5 := Lib.hid (g3_4.out.below hb)
  have r5_5 := Lib.hid (r5_4.out.below hb)
  clear hb B4 D_4 X20_4 X21_4 X30_4 X31_4 g3_4 r5_4
  clear X20_5
  clear X30_5
  clear X31_5
  clear hoo hkk M3
  go_wp2
  go_loopw [12] (fun i wr => ∃ j : Nat, j ≤ m4 ∧ i = .int .i64 (j : Int) ∧ Below w4.heap.size w4 wr) (fun i _ => m4 - (intOf i).toNat)
  case atStart => exact ⟨0, Nat.zero_le _, rfl, Below.refl _ _⟩
  case round =>
    obtain ⟨j, hj, rfl, hb⟩ := hrel
    have BL := Lib.hid hb
    have sz6 := hb.size
    have B6 := Lib.hid (below_chain B5.out hb)
    have D_6 := Lib.hid (D_5.out.below hb)
    have X21_6 := Lib.hid (X21_5.out.below hb)
    have g3_6 := Lib.hid (g3_5.out.below hb)
    have r5_6 := Lib.hid (r5_5.out.below hb)
    clear hb B5 D_5 X21_5 g3_5 r5_5
    by_cases hlt : j < m4
    · skip
      have lj : j < out.length := by rw [M4.out]; exact hlt
      obtain ⟨hB, hR, hS, hO⟩ := step_made HSG.out lj
      obtain ⟨q, hq, hql⟩ := hasB_nat hB
      obtain ⟨b, off, kd, a, bb, zs, A9, m9, c9, hA, hx, _, _, _, _, e0, _⟩ := D_6.out.atN hql
      obtain ⟨b2, o2, p0, p1, p2, p3, p4, hA2, hp, f0, f1, f2, f3, f4⟩ := X21_6.out.rc.at lj
      rw [hp] at hS hO
      have i0 : (0 : Int) ≤ (q : Int) := by omega
      have i1 : (q : Int) < (n : Int) := by rw [← L.out]; omega
      have j0 : (0 : Int) ≤ (j : Int) := by omega
      have j1 : (j : Int) < (m4 : Int) := by omega
      have hkd : (nodeAt gs ((r0, (r1, r2), r3, r4) : Rc).1).1 = kd := by
        show (nodeAt gs r0).1 = kd
        rw [show r0 = (q : Int) from hq, nodeAt_of hql, hx]
      rw [hkd] at hS
      have hr2 : 0 ≤ r2 ∧ r2 ≤ 6 := by
        have h := hR
        unfold okRc okSt at h
        simp only [Bool.and_eq_true, decide_eq_true_eq] at h
        omega
      simp only [Prod.mk.injEq] at hS
      obtain ⟨hs1, hs2⟩ := hS
      have HO := Lib.hid hO
      have xg0 : wr.cell? ⟨w1.heap.size, 0, none⟩ = some (.slice (some ⟨b, off, none⟩) n c) := by rw [g3_6.out.cell, ← hA]; rfl
      have xr0 : wr.cell? ⟨w1.heap.size + 1, 0, none⟩ = some (.int .i64 (q : Int)) := by rw [r5_6.out.cell, ← hq]; rfl
      have XR1 := Lib.hid (show wr.cell? ⟨w1.heap.size + 1, 1, none⟩ = some (.int .i64 r1) by rw [r5_6.out.cell]; rfl)
      have XR2 := Lib.hid (show wr.cell? ⟨w1.heap.size + 1, 2, none⟩ = some (.int .i64 r2) by rw [r5_6.out.cell]; rfl)
      have F0 := Lib.hid f0
      have F1 := Lib.hid f1
      have F2 := Lib.hid f2
      have F3 := Lib.hid f3
      have F4 := Lib.hid f4
      have HA2 := Lib.hid hA2
      clear hB hR hO hA hx hp hkd hq hql lj hA2 f0 f1 f2 f3 f4
      by_cases k7 : kd = 7
      · skip
        subst k7
        rw [if_pos rfl] at hs2
        replace hs1 := hs1.symm
        subst hs1
        subst hs2
        have hadd : IntKind.i64.wrap (r2 + 1) = r2 + 1 := IntWalk.i64_in _ (by omega)
        go_wp2_with fail
        clear xg0 xr0 e0
        obtain ⟨V9, hV⟩ : ∃ v, wr.drew = v := ⟨_, rfl⟩
        have BV := Lib.hid (show Below wr.heap.size wr V9 by rw [← hV]; exact (Below.refl _ _).drew)
        have HD := Lib.hid (show StepsO V9 (w1.heap.size + 1) r1 r2 b2 (o2 + j * 5) p0 r1 (r2 + 1) p3 p4 V9 by rw [← hV]; exact ⟨XR1.out, XR2.out, F0.out, F1.out, F2.out, F3.out, F4.out, Below.refl _ _⟩)
        refine wp_region_held_drew (S := StepsO V9 (w1.heap.size + 1) r1 r2 b2 (o2 + j * 5) p0 r1 (r2 + 1) p3 p4) (by kernel_rfl) ?_ (fun hHeld => ?_)
        · skip
          rw [hV]; exact HD.out
        change wpAnyH _ _ opsT14 _ _ 23 (LT14 0) _ _
        rw [hV] at hHeld ⊢
        clear hV
        refine regY tT14_0 (.slice A21 m4 c21) (fun W hSw => by unfold qT14_0; go_simp) hHeld ?_
        try simp only [pt, List.set]
        refine regY tT14_1 (.int .i64 (j : Int)) (fun W hSw => by unfold qT14_1; go_simp) hHeld ?_
        try simp only [pt, List.set]
        refine regY tT14_2 (.pointer (some ⟨b2, o2 + j * 5, none⟩)) (fun W hSw => by unfold qT14_2; rw [HA2.out]; go_simp) hHeld ?_
        try simp only [pt, List.set]
        refine regY tT14_3 (.pointer (some ⟨b2, o2 + j * 5 + 1, none⟩)) (fun W hSw => by unfold qT14_3; go_simp) hHeld ?_
        try simp only [pt, List.set]
        refine regY tT14_4 (.agg #[.int .i64 r1, .int .i64 (r2 + 1)]) (fun W hSw => by unfold qT14_4; obtain ⟨q1, q2, z0, z1, z2, z3, z4, _⟩ := hSw; go_simp) hHeld ?_
        try simp only [pt, List.set]
        refine regY tT14_5 (.pointer (some ⟨w1.heap.size + 1, 1, none⟩)) (fun W hSw => by unfold qT14_5; go_simp) hHeld ?_
        try simp only [pt, List.set]
        refine regY tT14_6 (.pointer (some ⟨w1.heap.size + 1, 1, none⟩)) (fun W hSw => by unfold qT14_6; go_simp) hHeld ?_
        try simp only [pt, List.set]
        refine regY tT14_7 (.int .i64 r1) (fun W hSw => by unfold qT14_7; obtain ⟨q1, q2, z0, z1, z2, z3, z4, _⟩ := hSw; go_simp) hHeld ?_
        try simp only [pt, List.set]
        refine regY tT14_8 (.pointer (some ⟨w1.heap.size + 1, 1, none⟩)) (fun W hSw => by unfold qT14_8; go_simp) hHeld ?_
        try simp only [pt, List.set]
        refine regY tT14_9 (.pointer (some ⟨w1.heap.size + 1, 2, none⟩)) (fun W hSw => by unfold qT14_9; go_simp) hHeld ?_
        try simp only [pt, List.set]
        refine regY tT14_10 (.int .i64 r2) (fun W hSw => by unfold qT14_10; obtain ⟨q1, q2, z0, z1, z2, z3, z4, _⟩ := hSw; go_simp) hHeld ?_
        try simp only [pt, List.set]
        refine regY tT14_11 (.int .i64 1) (fun W hSw => by unfold qT14_11; go_simp) hHeld ?_
        try simp only [pt, List.set]
        refine regY tT14_12 (.int .i64 (r2 + 1)) (fun W hSw => by unfold qT14_12; go_simp) hHeld ?_
        try simp only [pt, List.set]
        refine regY tT14_13 (.agg #[.int .i64 r1, .int .i64 (r2 + 1)]) (fun W hSw => by unfold qT14_13; go_simp) hHeld ?_
        try simp only [pt, List.set]
        refine regY tT14_14 (.bool false) (fun W hSw => by unfold qT14_14; go_simp) hHeld ?_
        try simp only [pt, List.set]
        refine regY tT14_15 (.bool false) (fun W hSw => by unfold qT14_15; go_simp) hHeld ?_
        try simp only [pt, List.set]
        refine regY tT14_16 (.slice A21 m4 c21) (fun W hSw => by unfold qT14_16; go_simp) hHeld ?_
        try simp only [pt, List.set]
        refine regY tT14_17 (.int .i64 (j : Int)) (fun W hSw => by unfold qT14_17; go_simp) hHeld ?_
        try simp only [pt, List.set]
        refine regY tT14_18 (.pointer (some ⟨b2, o2 + j * 5, none⟩)) (fun W hSw => by unfold qT14_18; rw [HA2.out]; go_simp) hHeld ?_
        try simp only [pt, List.set]
        refine regY tT14_19 (.agg #[.int .i64 p0, .int .i64 r1, .int .i64 (r2 + 1), .int .i64 p3, .int .i64 p4]) (fun W hSw => by unfold qT14_19; obtain ⟨q1, q2, z0, z1, z2, z3, z4, _⟩ := hSw; go_simp) hHeld ?_
        try simp only [pt, List.set]
        refine cT14_20 (fun K hK => ?_)
        rw [if_pos (by rfl)]
        unfold qT14_20
        go_simp
        refine (specRcOkG_is HO.out _).mono ?_
        rintro e w95 ⟨rfl, bq⟩
        refine Shut.out hK _ _ ?_ (fun hHeld => ?_)
        · exact hHeld.below bq
        clear hK K
        try simp only [pt, List.set]
        refine regY tT14_21 (.bool false) (fun W hSw => by unfold qT14_21; go_simp) hHeld ?_
        try simp only [pt, List.set]
        refine regY tT14_22 (.bool false) (fun W hSw => by unfold qT14_22; go_simp) hHeld ?_
        try simp only [pt, List.set]
        refine wpAnyH_done (by kernel_rfl) ?_ _
        have hb0 := hHeld.bel
        have hb := below_chain BV.out hb0
        clear hb0 hHeld HD BV
        have BE := Lib.hid (below_chain BL.out hb)
        clear hb
        go_wp2
        go_roundw
        case rel => exact ⟨j + 1, by omega, by go_num, BE.out⟩
        case measure => simp [intOf]; omega
      · skip
        have d7 : (kd == 7) = false := by simpa using k7
        rw [if_neg k7] at hs2
        clear k7
        replace hs1 := hs1.symm
        subst hs1
        replace hs2 := hs2.symm
        subst hs2
        have hadd : IntKind.i64.wrap r2 = r2 := IntWalk.i64_in _ (by omega)
        go_wp2_with fail
        clear xg0 xr0 e0
        obtain ⟨V9, hV⟩ : ∃ v, wr.drew = v := ⟨_, rfl⟩
        have BV := Lib.hid (show Below wr.heap.size wr V9 by rw [← hV]; exact (Below.refl _ _).drew)
        have HD := Lib.hid (show StepsO V9 (w1.heap.size + 1) r1 r2 b2 (o2 + j * 5) p0 r1 r2 p3 p4 V9 by rw [← hV]; exact ⟨XR1.out, XR2.out, F0.out, F1.out, F2.out, F3.out, F4.out, Below.refl _ _⟩)
        refine wp_region_held_drew (S := StepsO V9 (w1.heap.size + 1) r1 r2 b2 (o2 + j * 5) p0 r1 r2 p3 p4) (by kernel_rfl) ?_ (fun hHeld => ?_)
        · skip
          rw [hV]; exact HD.out
        change wpAnyH _ _ opsT14 _ _ 23 (LT14 0) _ _
        rw [hV] at hHeld ⊢
        clear hV
        refine regY tT14_0 (.slice A21 m4 c21) (fun W hSw => by unfold qT14_0; go_simp) hHeld ?_
        try simp only [pt, List.set]
        refine regY tT14_1 (.int .i64 (j : Int)) (fun W hSw => by unfold qT14_1; go_simp) hHeld ?_
        try simp only [pt, List.set]
        refine regY tT14_2 (.pointer (some ⟨b2, o2 + j * 5, none⟩)) (fun W hSw => by unfold qT14_2; rw [HA2.out]; go_simp) hHeld ?_
        try simp only [pt, List.set]
        refine regY tT14_3 (.pointer (some ⟨b2, o2 + j * 5 + 1, none⟩)) (fun W hSw => by unfold qT14_3; go_simp) hHeld ?_
        try simp only [pt, List.set]
        refine regY tT14_4 (.agg #[.int .i64 r1, .int .i64 r2]) (fun W hSw => by unfold qT14_4; obtain ⟨q1, q2, z0, z1, z2, z3, z4, _⟩ := hSw; go_simp) hHeld ?_
        try simp only [pt, List.set]
        refine regY tT14_5 (.pointer (some ⟨w1.heap.size + 1, 1, none⟩)) (fun W hSw => by unfold qT14_5; go_simp) hHeld ?_
        try simp only [pt, List.set]
        refine regY tT14_6 (.pointer (some ⟨w1.heap.size + 1, 1, none⟩)) (fun W hSw => by unfold qT14_6; go_simp) hHeld ?_
        try simp only [pt, List.set]
        refine regY tT14_7 (.int .i64 r1) (fun W hSw => by unfold qT14_7; obtain ⟨q1, q2, z0, z1, z2, z3, z4, _⟩ := hSw; go_simp) hHeld ?_
        try simp only [pt, List.set]
        refine regY tT14_8 (.pointer (some ⟨w1.heap.size + 1, 1, none⟩)) (fun W hSw => by unfold qT14_8; go_simp) hHeld ?_
        try simp only [pt, List.set]
        refine regY tT14_9 (.pointer (some ⟨w1.heap.size + 1, 2, none⟩)) (fun W hSw => by unfold qT14_9; go_simp) hHeld ?_
        try simp only [pt, List.set]
        refine regY tT14_10 (.int .i64 r2) (fun W hSw => by unfold qT14_10; obtain ⟨q1, q2, z0, z1, z2, z3, z4, _⟩ := hSw; go_simp) hHeld ?_
        try simp only [pt, List.set]
        refine regY tT14_11 (.int .i64 0) (fun W hSw => by unfold qT14_11; go_simp) hHeld ?_
        try simp only [pt, List.set]
        refine regY tT14_12 (.int .i64 r2) (fun W hSw => by unfold qT14_12; go_simp) hHeld ?_
        try simp only [pt, List.set]
        refine regY tT14_13 (.agg #[.int .i64 r1, .int .i64 r2]) (fun W hSw => by unfold qT14_13; go_simp) hHeld ?_
        try simp only [pt, List.set]
        refine regY tT14_14 (.bool false) (fun W hSw => by unfold qT14_14; go_simp) hHeld ?_
        try simp only [pt, List.set]
        refine regY tT14_15 (.bool false) (fun W hSw => by unfold qT14_15; go_simp) hHeld ?_
        try simp only [pt, List.set]
        refine regY tT14_16 (.slice A21 m4 c21) (fun W hSw => by unfold qT14_16; go_simp) hHeld ?_
        try simp only [pt, List.set]
        refine regY tT14_17 (.int .i64 (j : Int)) (fun W hSw => by unfold qT14_17; go_simp) hHeld ?_
        try simp only [pt, List.set]
        refine regY tT14_18 (.pointer (some ⟨b2, o2 + j * 5, none⟩)) (fun W hSw => by unfold qT14_18; rw [HA2.out]; go_simp) hHeld ?_
        try simp only [pt, List.set]
        refine regY tT14_19 (.agg #[.int .i64 p0, .int .i64 r1, .int .i64 r2, .int .i64 p3, .int .i64 p4]) (fun W hSw => by unfold qT14_19; obtain ⟨q1, q2, z0, z1, z2, z3, z4, _⟩ := hSw; go_simp) hHeld ?_
        try simp only [pt, List.set]
        refine cT14_20 (fun K hK => ?_)
        rw [if_pos (by rfl)]
        unfold qT14_20
        go_simp
        refine (specRcOkG_is HO.out _).mono ?_
        rintro e w95 ⟨rfl, bq⟩
        refine Shut.out hK _ _ ?_ (fun hHeld => ?_)
        · exact hHeld.below bq
        clear hK K
        try simp only [pt, List.set]
        refine regY tT14_21 (.bool false) (fun W hSw => by unfold qT14_21; go_simp) hHeld ?_
        try simp only [pt, List.set]
        refine regY tT14_22 (.bool false) (fun W hSw => by unfold qT14_22; go_simp) hHeld ?_
        try simp only [pt, List.set]
        refine wpAnyH_done (by kernel_rfl) ?_ _
        have hb0 := hHeld.bel
        have hb := below_chain BV.out hb0
        clear hb0 hHeld HD BV
        have BE := Lib.hid (below_chain BL.out hb)
        clear hb
        go_wp2
        go_roundw
        case rel => exact ⟨j + 1, by omega, by go_num, BE.out⟩
        case measure => simp [intOf]; omega
    · obtain rfl : j = m4 := by omega
      have dl : decide ((j : Int) < (j : Int)) = false := by simp
      have HK0 := Lib.hid (show kq = true → j = 0 from fun h => by rw [← M4.out, cap_none HSG.out (KQ.out.trans h)]; rfl)
      clear hlt HSG M4 BL
      go_upto_region 16 with fail
      exact rest w wr a0 len0 cap0 _ _ A n c wk cp gs r0 r1 r2 r3 r4 A21 j c21 kq _ _ _ _ _ _ _ _ _ _ _ _ _ _ _ _ _ _ _ _ _ _ _ _ _ _ _ _ _ _ _ _ _ _ _ _ _ _ _ _ _ _ _ _ _ _ _ _ _ _ _ _ _ _ _ _ _ _ _ _ _ _ _ _ _ _ _ _ _ _ _ _ _ _ _ _ _ _ _ _ _ _ _ _ _ _ _ _ _ _ _ _ _ _ _ _ _ _ _ _ _ _ _ _ _ _ _ _ _ _ _ _ _ _ _ _ _ _ _ _ _ _ _ _ _ _ _ _ _ _ _ _ _ _ _ _ _ _ _ _ _ _ _ _ _ _ _ _ _ _ _ _ _ _ _ _ _ _ _ _ _ _ _ _ _ _ _ _ _ _ _ _ _ _ _ _ _ _ _ _ _ _ hlen HC.out hn L.out OU.out KQ.out HK0.out D_6.out g3_6.out r5_6.out B6.out rfl (by assumption)
end Go.Proofs.Ytlanmkimaambgaa.fnSteps

