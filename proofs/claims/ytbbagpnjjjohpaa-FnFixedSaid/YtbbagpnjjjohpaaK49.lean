/-
  The walk of FnFixed.
-/
import Derived.Test.YtbbagpnjjjohpaaK34
import Derived.Test.YtbbagpnjjjohpaaK35
import Derived.Test.YtbbagpnjjjohpaaK8
import Derived.Test.YtbbagpnjjjohpaaK30
import Derived.Test.YtbbagpnjjjohpaaK27
import Derived.Test.YtbbagpnjjjohpaaK28
import Derived.Test.YtbbagpnjjjohpaaK32
import Derived.Test.YtbbagpnjjjohpaaK29
import Derived.Test.YtbbagpnjjjohpaaK46
import Derived.Test.YtbbagpnjjjohpaaK47
import Derived.Test.YtbbagpnjjjohpaaK48
import Derived.Test.YtbbagpnjjjohpaaK33
import Derived.Test.YtbbagpnjjjohpaaK16
import Derived.Test.YtbbagpnjjjohpaaK4
import Derived.Deep.RegionHeld3
import Derived.Deep.DeepCutAuto
import Derived.WalkArith

namespace Go.Proofs.Ytbbagpnjjjohpaa.fnFixed
open Go.RowKit Go.Proofs.Ytbbagpnjjjohpaa.hexes

set_option maxRecDepth 1000000 in
set_option maxHeartbeats 16000000 in
theorem walk (a0 : Option Addr) (len0 cap0 : Nat) (z0 : List Int) (w : World) (w0 : IsRow .u8 w a0 len0 cap0 z0) :
    Calls Try.prog 3 #[.slice a0 len0 cap0] w fun e w' => e = .returned (.bool true) ∧ Below w.heap.size w w' := by
  have hcame := came_of_row w0
  have HG := Lib.hid (fun W => big_any a0 len0 cap0 W)
  by_cases h1 : 1048576 < len0
  · have hd : decide (1048576 < (len0 : Int)) = true := by simp; omega
    clear hcame w0
    go_enter Try.func3, Try.ntmps3
    go_wp2_with (go_at_call 11; refine (HG.out _).mono ?_; rintro e w1 ⟨rfl, rfl⟩)
    go_ret
    exact ⟨rfl, Below.refl _ _⟩
  have hd : decide (1048576 < (len0 : Int)) = false := by simp; omega
  have HC := Lib.hid hcame
  have hlen : len0 ≤ 2097152 := by omega
  clear hcame w0 h1
  go_enter Try.func3, Try.ntmps3
  go_wp2_with (go_at_call 11; refine (HG.out _).mono ?_; rintro e w1 ⟨rfl, rfl⟩)
  refine (drawFix_any _ a0 len0 cap0 hlen HC.out).mono ?_
  rintro e w1 ⟨A, n, c, wk, cp, gs, ep, A5, m5, c5, rs, hn9, hl, ho4, hm5, hl5, _, rfl, hN, oR, hb⟩
  have hD := hN.nds
  obtain ⟨A5x, c5x, he5, rR⟩ := row_of oR
  simp only [Value.slice.injEq, true_and] at he5
  obtain ⟨rfl, rfl⟩ := he5
  have hR := rR.rc
  clear hN oR rR
  have sz1 := hb.size
  have B1 := Lib.hid (hb)
  clear hb
  clear HG hd
  have L := Lib.hid hl
  have OU := Lib.hid (fun x hx => Nat.le_trans (ho4 x hx) (by omega : 4 ≤ 1048576))
  have L5 := Lib.hid hl5
  have hn : n ≤ 1048576 := by omega
  have D_1 := Lib.hid hD
  have P_1 := Lib.hid hR
  clear hl ho4 hl5 hD hR
  obtain ⟨q, hfx, hql⟩ := fix_start gs wk cp ep rs
  obtain ⟨mq, hmq⟩ : ∃ m, q.length = m := ⟨_, rfl⟩
  obtain ⟨us, hus⟩ : ∃ us, outsC gs q = us := ⟨_, rfl⟩
  obtain ⟨mu, hmu⟩ : ∃ m, us.length = m := ⟨_, rfl⟩
  have l1 : mq ≤ 800000 := by rw [← hmq]; exact hql
  have l2 : mu ≤ 800000 := by rw [← hmu, ← hus]; exact Nat.le_trans (outs_len _ _) hql
  have FX := Lib.hid hfx
  have QL := Lib.hid hql
  have MQ := Lib.hid hmq
  have US := Lib.hid hus
  have MU := Lib.hid hmu
  clear hfx hql hmq hus hmu
  obtain ⟨V1, hW⟩ : ∃ z, (w1.alloc (.cells #[.slice A n c, .int .i64 wk, .int .i64 cp] 26)) = z := ⟨_, rfl⟩
  have hb : Below w1.heap.size w1 V1 := by rw [← hW]; exact ((Below.refl _ _).alloc (by first | (simp; done) | (simp; omega) | omega) _)
  have az : V1.heap.size = w1.heap.size + 1 := by rw [← hW]; simp
  have Ng3 := Lib.hid (show Blk V1 (w1.heap.size) 26 #[.slice A n c, .int .i64 wk, .int .i64 cp] by rw [← hW]; exact (Blk.new _ _ _))
  have AZV1 := Lib.hid az
  clear az
  have sz2 := hb.size
  have B2 := Lib.hid (below_chain B1.out hb)
  have D_2 := Lib.hid (D_1.out.below hb)
  have P_2 := Lib.hid (P_1.out.below hb)
  clear hb B1 D_1 P_1
  have g3_2 := Ng3
  clear Ng3
  have ltg3 : w1.heap.size < V1.heap.size := g3_2.out.lt
  have xg30 : V1.cell? ⟨w1.heap.size, 0, none⟩ = some (.slice A n c) := by rw [g3_2.out.cell]; rfl
  have xg31 : V1.cell? ⟨w1.heap.size, 1, none⟩ = some (.int .i64 wk) := by rw [g3_2.out.cell]; rfl
  have xg32 : V1.cell? ⟨w1.heap.size, 2, none⟩ = some (.int .i64 cp) := by rw [g3_2.out.cell]; rfl
  go_wp2_with fail
  clear hW xg30 xg31 xg32
  refine (implFix_any gs wk cp A n c L.out OU.out hn ep rs A5 m5 c5 L5.out (by omega) FX.out _ D_2.out P_2.out).mono ?_
  rintro e w2 hE
  obtain ⟨A6, c6, rfl, r6, hb⟩ := hE.rows rfl MQ.out
  clear hE
  have sz3 := hb.size
  have B3 := Lib.hid (below_chain B2.out hb)
  have D_3 := Lib.hid (D_2.out.below hb)
  have P_3 := Lib.hid (P_2.out.below hb)
  have g3_3 := Lib.hid (g3_2.out.below hb)
  clear hb B2 D_2 P_2 g3_2
  have X_3 := Lib.hid r6.ce
  clear r6
  go_wp2_with fail
  obtain ⟨V3, hV⟩ : ∃ v, w2.drew = v := ⟨_, rfl⟩
  have BV := Lib.hid (show Below w2.heap.size w2 V3 by rw [← hV]; exact (Below.refl _ _).drew)
  have HD := Lib.hid (show ResHeld V3 (w1.heap.size) A n c wk cp V3 by rw [← hV]; exact ⟨by show w2.cell? _ = _; rw [g3_3.out.cell]; rfl, by show w2.cell? _ = _; rw [g3_3.out.cell]; rfl, by show w2.cell? _ = _; rw [g3_3.out.cell]; rfl, Below.refl _ _⟩)
  refine wp_region_held_drew (S := ResHeld V3 (w1.heap.size) A n c wk cp) (by kernel_rfl) ?_ (fun hHeld => ?_)
  · skip
    rw [hV]; exact HD.out
  change wpAnyH _ _ opsF5X _ _ 19 (LF5X 0) _ _
  rw [hV] at hHeld ⊢
  clear hV
  refine regY tF5X_0 (.slice A6 mq c6) (fun W hSw => by unfold qF5X_0; go_simp) hHeld ?_
  try simp only [pt, List.set]
  refine regY tF5X_1 (.agg #[.slice A n c, .int .i64 wk, .int .i64 cp]) (fun W hSw => by unfold qF5X_1; obtain ⟨g0, g1, g2, _⟩ := hSw; go_simp) hHeld ?_
  try simp only [pt, List.set]
  refine regY tF5X_2 (.int .i64 ep) (fun W hSw => by unfold qF5X_2; go_simp) hHeld ?_
  try simp only [pt, List.set]
  refine regY tF5X_3 (.slice A5 m5 c5) (fun W hSw => by unfold qF5X_3; go_simp) hHeld ?_
  try simp only [pt, List.set]
  refine cF5X_4 (fun K hK => ?_)
  rw [if_pos (by rfl)]
  unfold qF5X_4
  go_simp
  refine (specFix_any gs wk cp A n c L.out OU.out hn ep rs A5 m5 c5 L5.out (by omega) FX.out _ (D_3.out.below (below_chain BV.out hHeld.bel)) (P_3.out.below (below_chain BV.out hHeld.bel))).mono ?_
  rintro e w21 hE
  obtain ⟨A20, c20, rfl, r20, bq⟩ := hE.rows rfl MQ.out
  have Y0 := Lib.hid r20.ce
  clear hE r20
  refine Shut.out hK _ _ ?_ (fun hHeld => ?_)
  · exact hHeld.below bq
  clear hK K
  try simp only [pt, List.set]
  refine cF5X_5 (fun K hK => ?_)
  rw [if_pos (by rfl)]
  unfold qF5X_5
  go_simp
  refine (sameCe2_is MQ.out (by omega) (X_3.out.below (below_chain BV.out hHeld.bel)) Y0.out).mono ?_
  rintro e w22 ⟨rfl, bq⟩
  clear Y0
  refine Shut.out hK _ _ ?_ (fun hHeld => ?_)
  · exact hHeld.below bq
  clear hK K
  try simp only [pt, List.set]
  refine regY tF5X_6 (.bool false) (fun W hSw => by unfold qF5X_6; go_simp) hHeld ?_
  try simp only [pt, List.set]
  refine regY tF5X_7 (.bool false) (fun W hSw => by unfold qF5X_7; go_simp) hHeld ?_
  try simp only [pt, List.set]
  refine regY tF5X_8 (.agg #[.slice A n c, .int .i64 wk, .int .i64 cp]) (fun W hSw => by unfold qF5X_8; obtain ⟨g0, g1, g2, _⟩ := hSw; go_simp) hHeld ?_
  try simp only [pt, List.set]
  refine regY tF5X_9 (.int .i64 ep) (fun W hSw => by unfold qF5X_9; go_simp) hHeld ?_
  try simp only [pt, List.set]
  refine regY tF5X_10 (.slice A5 m5 c5) (fun W hSw => by unfold qF5X_10; go_simp) hHeld ?_
  try simp only [pt, List.set]
  refine regY tF5X_11 (.agg #[.slice A n c, .int .i64 wk, .int .i64 cp]) (fun W hSw => by unfold qF5X_12; obtain ⟨g0, g1, g2, _⟩ := hSw; go_simp) hHeld ?_
  try simp only [pt, List.set]
  refine regY tF5X_12 (.int .i64 ep) (fun W hSw => by unfold qF5X_13; go_simp) hHeld ?_
  try simp only [pt, List.set]
  refine regY tF5X_13 (.slice A5 m5 c5) (fun W hSw => by unfold qF5X_14; go_simp) hHeld ?_
  try simp only [pt, List.set]
  refine cF5X_14 (fun K hK => ?_)
  rw [if_pos (by rfl)]
  unfold qF5X_11
  go_simp
  refine (implRes_any gs wk cp A n c L.out OU.out hn ep rs A5 m5 c5 L5.out (by omega) FX.out QL.out _ (D_3.out.below (below_chain BV.out hHeld.bel)) (P_3.out.below (below_chain BV.out hHeld.bel))).mono ?_
  rintro e w23 hE
  obtain ⟨A23, c23, rfl, r23, bq⟩ := hE.rows US.out MU.out
  have Y3 := Lib.hid r23.ce
  clear hE r23
  refine Shut.out hK _ _ ?_ (fun hHeld => ?_)
  · exact hHeld.below bq
  clear hK K
  try simp only [pt, List.set]
  refine cF5X_15 (fun K hK => ?_)
  rw [if_pos (by rfl)]
  unfold qF5X_15
  go_simp
  refine (specRes_any gs wk cp A n c L.out OU.out hn ep rs A5 m5 c5 L5.out (by omega) FX.out QL.out _ (D_3.out.below (below_chain BV.out hHeld.bel)) (P_3.out.below (below_chain BV.out hHeld.bel))).mono ?_
  rintro e w24 hE
  obtain ⟨A24, c24, rfl, r24, bq⟩ := hE.rows US.out MU.out
  have Y4 := Lib.hid r24.ce
  have Y5 := Lib.hid (Y3.out.below bq)
  clear hE r24 Y3
  refine Shut.out hK _ _ ?_ (fun hHeld => ?_)
  · exact hHeld.below bq
  clear hK K
  try simp only [pt, List.set]
  refine cF5X_16 (fun K hK => ?_)
  rw [if_pos (by rfl)]
  unfold qF5X_16
  go_simp
  refine (sameCe2_is MU.out (by omega) Y5.out Y4.out).mono ?_
  rintro e w25 ⟨rfl, bq⟩
  clear Y4 Y5
  refine Shut.out hK _ _ ?_ (fun hHeld => ?_)
  · exact hHeld.below bq
  clear hK K
  try simp only [pt, List.set]
  refine regY tF5X_17 (.bool false) (fun W hSw => by unfold qF5X_17; go_simp) hHeld ?_
  try simp only [pt, List.set]
  refine regY tF5X_18 (.bool false) (fun W hSw => by unfold qF5X_18; go_simp) hHeld ?_
  try simp only [pt, List.set]
  refine wpAnyH_done (by kernel_rfl) ?_ _
  have hb0 := hHeld.bel
  have hb := below_chain BV.out hb0
  obtain ⟨w4, hw4⟩ : ∃ z, z = w25 := ⟨_, rfl⟩
  subst hw4
  clear hb0 hHeld HD BV
  have sz4 := hb.size
  have B4 := Lib.hid (below_chain B3.out hb)
  have D_4 := Lib.hid (D_3.out.below hb)
  have P_4 := Lib.hid (P_3.out.below hb)
  have X_4 := Lib.hid (X_3.out.below hb)
  have g3_4 := Lib.hid (g3_3.out.below hb)
  clear hb B3 D_3 P_3 X_3 g3_3
  clear US MU QL l2
  go_wp2_with fail
  refine (drawCl_any _ a0 len0 cap0 hlen (HC.out.below B4.out)).mono ?_
  rintro e w5 ⟨A1, n1, c1, wk1, cp1, gs1, A8, m8, c8, zs8, hn91, hl1, ho1, hm8, hl8, rfl, hD1, hC8, hb⟩
  have sz5 := hb.size
  have B5 := Lib.hid (below_chain B4.out hb)
  have D_5 := Lib.hid (D_4.out.below hb)
  have P_5 := Lib.hid (P_4.out.below hb)
  have X_5 := Lib.hid (X_4.out.below hb)
  have g3_5 := Lib.hid (g3_4.out.below hb)
  clear hb B4 D_4 P_4 X_4 g3_4
  have L1 := Lib.hid hl1
  have OU1 := Lib.hid (fun x hx => Nat.le_trans (ho1 x hx) (by omega : 4 ≤ 1048576))
  have L8 := Lib.hid hl8
  have hn1 : n1 ≤ 1048576 := by omega
  have E_5 := Lib.hid hD1
  have Z_5 := Lib.hid hC8
  clear hl1 ho1 hl8 hD1 hC8
  obtain ⟨V5, hW⟩ : ∃ z, (w5.alloc (.cells #[.slice A1 n1 c1, .int .i64 wk1, .int .i64 cp1] 26)) = z := ⟨_, rfl⟩
  have hb : Below w5.heap.size w5 V5 := by rw [← hW]; exact ((Below.refl _ _).alloc (by first | (simp; done) | (simp; omega) | omega) _)
  have az : V5.heap.size = w5.heap.size + 1 := by rw [← hW]; simp
  have Ng7 := Lib.hid (show Blk V5 (w5.heap.size) 26 #[.slice A1 n1 c1, .int .i64 wk1, .int .i64 cp1] by rw [← hW]; exact (Blk.new _ _ _))
  have AZV5 := Lib.hid az
  clear az
  have sz6 := hb.size
  have B6 := Lib.hid (below_chain B5.out hb)
  have D_6 := Lib.hid (D_5.out.below hb)
  have P_6 := Lib.hid (P_5.out.below hb)
  have X_6 := Lib.hid (X_5.out.below hb)
  have E_6 := Lib.hid (E_5.out.below hb)
  have Z_6 := Lib.hid (Z_5.out.below hb)
  have g3_6 := Lib.hid (g3_5.out.below hb)
  clear hb B5 D_5 P_5 X_5 E_5 Z_5 g3_5
  have g7_6 := Ng7
  clear Ng7
  have ltg7 : w5.heap.size < V5.heap.size := g7_6.out.lt
  go_wp2_with fail
  clear hW
  refine (drawNw_any _ a0 len0 cap0 hlen (HC.out.below B6.out)).mono ?_
  rintro e w6 ⟨A9, m9, c9, zs9, A10, m10, c10, zs10, hm9, hl9, hm10, hl10, rfl, hC9, hC10, hb⟩
  have sz7 := hb.size
  have B7 := Lib.hid (below_chain B6.out hb)
  have D_7 := Lib.hid (D_6.out.below hb)
  have P_7 := Lib.hid (P_6.out.below hb)
  have X_7 := Lib.hid (X_6.out.below hb)
  have E_7 := Lib.hid (E_6.out.below hb)
  have Z_7 := Lib.hid (Z_6.out.below hb)
  have g3_7 := Lib.hid (g3_6.out.below hb)
  have g7_7 := Lib.hid (g7_6.out.below hb)
  clear hb B6 D_6 P_6 X_6 E_6 Z_6 g3_6 g7_6
  have L9 := Lib.hid hl9
  have L10 := Lib.hid hl10
  have M_7 := Lib.hid hC9
  have N_7 := Lib.hid hC10
  clear hl9 hl10 hC9 hC10
  go_wp2_with fail
  refine (drawIm_any _ a0 len0 cap0 hlen (HC.out.below B7.out)).mono ?_
  rintro e w7 ⟨A2, n2, c2, wk2, cp2, gs2, A12, m12, c12, zs12, x0, x1, x2, x3, _, hn92, hl2, ho2, hm12, hl12, hA12, hc12, rfl, hD2, hC12, hb⟩
  have sz8 := hb.size
  have B8 := Lib.hid (below_chain B7.out hb)
  have D_8 := Lib.hid (D_7.out.below hb)
  have P_8 := Lib.hid (P_7.out.below hb)
  have X_8 := Lib.hid (X_7.out.below hb)
  have E_8 := Lib.hid (E_7.out.below hb)
  have Z_8 := Lib.hid (Z_7.out.below hb)
  have M_8 := Lib.hid (M_7.out.below hb)
  have N_8 := Lib.hid (N_7.out.below hb)
  have g3_8 := Lib.hid (g3_7.out.below hb)
  have g7_8 := Lib.hid (g7_7.out.below hb)
  clear hb B7 D_7 P_7 X_7 E_7 Z_7 M_7 N_7 g3_7 g7_7
  have L2 := Lib.hid hl2
  have OU2 := Lib.hid (fun x hx => Nat.le_trans (ho2 x hx) (by omega : 4 ≤ 1048576))
  have L12 := Lib.hid hl12
  have HA12 := Lib.hid hA12
  have hn2 : n2 ≤ 1048576 := by omega
  have F_8 := Lib.hid hD2
  have C_8 := Lib.hid hC12
  clear hl2 ho2 hl12 hA12 hD2 hC12
  obtain ⟨⟨vs, ts⟩, him⟩ : ∃ p, impG gs2 wk2 cp2 zs12 (x0, x1, x2, x3) = p := ⟨_, rfl⟩
  obtain ⟨mv, hmv⟩ : ∃ m, vs.length = m := ⟨_, rfl⟩
  obtain ⟨mt, hmt⟩ : ∃ m, ts.length = m := ⟨_, rfl⟩
  have l3 : mv ≤ 7 := by have h := impG_best gs2 wk2 cp2 zs12 (x0, x1, x2, x3); rw [him, L12.out] at h; rw [← hmv]; exact Nat.le_trans h (by omega)
  have l4 : mt ≤ 2 := by have h := impG_more gs2 wk2 cp2 zs12 (x0, x1, x2, x3); rw [him] at h; rw [← hmt]; exact h
  have HIM := Lib.hid him
  have MV := Lib.hid hmv
  have MT := Lib.hid hmt
  clear him hmv hmt
  obtain ⟨V7, hW⟩ : ∃ z, ((w7.alloc (.cells #[.slice A2 n2 c2, .int .i64 wk2, .int .i64 cp2] 26)).alloc (.cells #[.int .i64 x0, .int .i64 x1, .int .i64 x2, .int .i64 x3] 38)) = z := ⟨_, rfl⟩
  have hb : Below w7.heap.size w7 V7 := by rw [← hW]; exact (((Below.refl _ _).alloc (by first | (simp; done) | (simp; omega) | omega) _).alloc (by first | (simp; done) | (simp; omega) | omega) _)
  have az : V7.heap.size = w7.heap.size + 2 := by rw [← hW]; simp
  have Ng11 := Lib.hid (show Blk V7 (w7.heap.size) 26 #[.slice A2 n2 c2, .int .i64 wk2, .int .i64 cp2] by rw [← hW]; exact ((Below.heap_alloc _ _ _ (by first | (simp; done) | (simp; omega))).trans (Blk.new _ _ _)))
  have Nr13 := Lib.hid (show Blk V7 (w7.heap.size + 1) 38 #[.int .i64 x0, .int .i64 x1, .int .i64 x2, .int .i64 x3] by rw [← hW]; exact ((show w7.heap.size + 1 = ((w7.alloc _)).heap.size by simp) ▸ Blk.new _ _ _))
  have AZV7 := Lib.hid az
  clear az
  have sz9 := hb.size
  have B9 := Lib.hid (below_chain B8.out hb)
  have D_9 := Lib.hid (D_8.out.below hb)
  have P_9 := Lib.hid (P_8.out.below hb)
  have X_9 := Lib.hid (X_8.out.below hb)
  have E_9 := Lib.hid (E_8.out.below hb)
  have Z_9 := Lib.hid (Z_8.out.below hb)
  have M_9 := Lib.hid (M_8.out.below hb)
  have N_9 := Lib.hid (N_8.out.below hb)
  have F_9 := Lib.hid (F_8.out.below hb)
  have C_9 := Lib.hid (C_8.out.below hb)
  have g3_9 := Lib.hid (g3_8.out.below hb)
  have g7_9 := Lib.hid (g7_8.out.below hb)
  clear hb B8 D_8 P_8 X_8 E_8 Z_8 M_8 N_8 F_8 C_8 g3_8 g7_8
  have g11_9 := Ng11
  clear Ng11
  have ltg11 : w7.heap.size < V7.heap.size := g11_9.out.lt
  have r13_9 := Nr13
  clear Nr13
  have ltr13 : w7.heap.size + 1 < V7.heap.size := r13_9.out.lt
  have xg110 : V7.cell? ⟨w7.heap.size, 0, none⟩ = some (.slice A2 n2 c2) := by rw [g11_9.out.cell]; rfl
  have xg111 : V7.cell? ⟨w7.heap.size, 1, none⟩ = some (.int .i64 wk2) := by rw [g11_9.out.cell]; rfl
  have xg112 : V7.cell? ⟨w7.heap.size, 2, none⟩ = some (.int .i64 cp2) := by rw [g11_9.out.cell]; rfl
  have xr130 : V7.cell? ⟨w7.heap.size + 1, 0, none⟩ = some (.int .i64 x0) := by rw [r13_9.out.cell]; rfl
  have xr131 : V7.cell? ⟨w7.heap.size + 1, 1, none⟩ = some (.int .i64 x1) := by rw [r13_9.out.cell]; rfl
  have xr132 : V7.cell? ⟨w7.heap.size + 1, 2, none⟩ = some (.int .i64 x2) := by rw [r13_9.out.cell]; rfl
  have xr133 : V7.cell? ⟨w7.heap.size + 1, 3, none⟩ = some (.int .i64 x3) := by rw [r13_9.out.cell]; rfl
  go_wp2_with fail
  clear hW xg110 xg111 xg112 xr130 xr131 xr132 xr133
  refine (implImp_rows HIM.out MV.out MT.out L2.out OU2.out hn2 L12.out HA12.out hc12 (by omega) _ F_9.out C_9.out (c := c2)).mono ?_
  rintro e w8 ⟨A14, c14, A15, c15, rfl, r14, t15, _, hb⟩
  have sz10 := hb.size
  have B10 := Lib.hid (below_chain B9.out hb)
  have D_10 := Lib.hid (D_9.out.below hb)
  have P_10 := Lib.hid (P_9.out.below hb)
  have X_10 := Lib.hid (X_9.out.below hb)
  have E_10 := Lib.hid (E_9.out.below hb)
  have Z_10 := Lib.hid (Z_9.out.below hb)
  have M_10 := Lib.hid (M_9.out.below hb)
  have N_10 := Lib.hid (N_9.out.below hb)
  have F_10 := Lib.hid (F_9.out.below hb)
  have C_10 := Lib.hid (C_9.out.below hb)
  have g3_10 := Lib.hid (g3_9.out.below hb)
  have g7_10 := Lib.hid (g7_9.out.below hb)
  have g11_10 := Lib.hid (g11_9.out.below hb)
  have r13_10 := Lib.hid (r13_9.out.below hb)
  clear hb B9 D_9 P_9 X_9 E_9 Z_9 M_9 N_9 F_9 C_9 g3_9 g7_9 g11_9 r13_9
  have R14_10 := Lib.hid r14.ce
  have R15_10 := Lib.hid t15.ce
  clear r14 t15
  have xg110 : w8.cell? ⟨w7.heap.size, 0, none⟩ = some (.slice A2 n2 c2) := by rw [g11_10.out.cell]; rfl
  have xg111 : w8.cell? ⟨w7.heap.size, 1, none⟩ = some (.int .i64 wk2) := by rw [g11_10.out.cell]; rfl
  have xg112 : w8.cell? ⟨w7.heap.size, 2, none⟩ = some (.int .i64 cp2) := by rw [g11_10.out.cell]; rfl
  have xr130 : w8.cell? ⟨w7.heap.size + 1, 0, none⟩ = some (.int .i64 x0) := by rw [r13_10.out.cell]; rfl
  have xr131 : w8.cell? ⟨w7.heap.size + 1, 1, none⟩ = some (.int .i64 x1) := by rw [r13_10.out.cell]; rfl
  have xr132 : w8.cell? ⟨w7.heap.size + 1, 2, none⟩ = some (.int .i64 x2) := by rw [r13_10.out.cell]; rfl
  have xr133 : w8.cell? ⟨w7.heap.size + 1, 3, none⟩ = some (.int .i64 x3) := by rw [r13_10.out.cell]; rfl
  go_wp2_with fail
  clear xg110 xg111 xg112 xr130 xr131 xr132 xr133
  refine (specImp_rows HIM.out MV.out MT.out L2.out OU2.out hn2 L12.out HA12.out hc12 (by omega) _ F_10.out C_10.out (c := c2)).mono ?_
  rintro e w9 ⟨A16, c16, A17, c17, rfl, r16, t17, _, hb⟩
  have sz11 := hb.size
  have B11 := Lib.hid (below_chain B10.out hb)
  have D_11 := Lib.hid (D_10.out.below hb)
  have P_11 := Lib.hid (P_10.out.below hb)
  have X_11 := Lib.hid (X_10.out.below hb)
  have E_11 := Lib.hid (E_10.out.below hb)
  have Z_11 := Lib.hid (Z_10.out.below hb)
  have M_11 := Lib.hid (M_10.out.below hb)
  have N_11 := Lib.hid (N_10.out.below hb)
  have F_11 := Lib.hid (F_10.out.below hb)
  have C_11 := Lib.hid (C_10.out.below hb)
  have R14_11 := Lib.hid (R14_10.out.below hb)
  have R15_11 := Lib.hid (R15_10.out.below hb)
  have g3_11 := Lib.hid (g3_10.out.below hb)
  have g7_11 := Lib.hid (g7_10.out.below hb)
  have g11_11 := Lib.hid (g11_10.out.below hb)
  have r13_11 := Lib.hid (r13_10.out.below hb)
  clear hb B10 D_10 P_10 X_10 E_10 Z_10 M_10 N_10 F_10 C_10 R14_10 R15_10 g3_10 g7_10 g11_10 r13_10
  have R16_11 := Lib.hid r16.ce
  have R17_11 := Lib.hid t17.ce
  clear r16 t17
  clear F_11
  clear C_11
  clear g11_11
  clear r13_11
  clear HIM L12 L2 OU2 HA12
  obtain ⟨cl, hcl⟩ : ∃ b, closedG gs1 wk1 cp1 zs8 = b := ⟨_, rfl⟩
  obtain ⟨nn, hnn⟩ : ∃ b, nwC zs9 zs10 = b := ⟨_, rfl⟩
  obtain ⟨os, hos⟩ : ∃ us, outsC gs1 zs8 = us := ⟨_, rfl⟩
  obtain ⟨mo, hmo⟩ : ∃ m, os.length = m := ⟨_, rfl⟩
  have l5 : mo ≤ 800000 := by rw [← hmo, ← hos]; exact Nat.le_trans (outs_len _ _) (by rw [L8.out]; exact hm8)
  have CL := Lib.hid hcl
  have NN := Lib.hid hnn
  have OS := Lib.hid hos
  have MO := Lib.hid hmo
  clear hcl hnn hos hmo
  have hcc : (cl != cl) = false := by simp
  have hnn : (nn != nn) = false := by simp
  go_wp2_with fail
  obtain ⟨V4, hV⟩ : ∃ v, w9.drew = v := ⟨_, rfl⟩
  have BV := Lib.hid (show Below w9.heap.size w9 V4 by rw [← hV]; exact (Below.refl _ _).drew)
  have HD := Lib.hid (show ResHeld V4 (w5.heap.size) A1 n1 c1 wk1 cp1 V4 by rw [← hV]; exact ⟨by show w9.cell? _ = _; rw [g7_11.out.cell]; rfl, by show w9.cell? _ = _; rw [g7_11.out.cell]; rfl, by show w9.cell? _ = _; rw [g7_11.out.cell]; rfl, Below.refl _ _⟩)
  refine wp_region_held_drew (S := ResHeld V4 (w5.heap.size) A1 n1 c1 wk1 cp1) (by kernel_rfl) ?_ (fun hHeld => ?_)
  · skip
    rw [hV]; exact HD.out
  change wpAnyH _ _ opsF12X _ _ 38 (LF12X 0) _ _
  rw [hV] at hHeld ⊢
  clear hV
  refine regY tF12X_0 (.agg #[.slice A1 n1 c1, .int .i64 wk1, .int .i64 cp1]) (fun W hSw => by unfold qF12X_0; obtain ⟨g0, g1, g2, _⟩ := hSw; go_simp) hHeld ?_
  try simp only [pt, List.set]
  refine regY tF12X_1 (.slice A8 m8 c8) (fun W hSw => by unfold qF12X_1; go_simp) hHeld ?_
  try simp only [pt, List.set]
  refine regY tF12X_2 (.agg #[.slice A1 n1 c1, .int .i64 wk1, .int .i64 cp1]) (fun W hSw => by unfold qF12X_3; obtain ⟨g0, g1, g2, _⟩ := hSw; go_simp) hHeld ?_
  try simp only [pt, List.set]
  refine regY tF12X_3 (.slice A8 m8 c8) (fun W hSw => by unfold qF12X_4; go_simp) hHeld ?_
  try simp only [pt, List.set]
  refine cF12X_4 (fun K hK => ?_)
  rw [if_pos (by rfl)]
  unfold qF12X_2
  go_simp
  refine (implClosed_is CL.out L1.out OU1.out hn1 L8.out (by omega) _ (E_11.out.below (below_chain BV.out hHeld.bel)) (Z_11.out.below (below_chain BV.out hHeld.bel))).mono ?_
  rintro e w31 ⟨rfl, bq⟩
  refine Shut.out hK _ _ ?_ (fun hHeld => ?_)
  · exact hHeld.below bq
  clear hK K
  try simp only [pt, List.set]
  refine cF12X_5 (fun K hK => ?_)
  rw [if_pos (by rfl)]
  unfold qF12X_5
  go_simp
  refine (specClosed_is CL.out L1.out OU1.out hn1 L8.out (by omega) _ (E_11.out.below (below_chain BV.out hHeld.bel)) (Z_11.out.below (below_chain BV.out hHeld.bel))).mono ?_
  rintro e w32 ⟨rfl, bq⟩
  refine Shut.out hK _ _ ?_ (fun hHeld => ?_)
  · exact hHeld.below bq
  clear hK K
  try simp only [pt, List.set]
  refine regY tF12X_6 (.bool false) (fun W hSw => by unfold qF12X_6; go_simp) hHeld ?_
  try simp only [pt, List.set]
  refine regY tF12X_7 (.bool false) (fun W hSw => by unfold qF12X_7; go_simp) hHeld ?_
  try simp only [pt, List.set]
  refine regY tF12X_8 (.slice A9 m9 c9) (fun W hSw => by unfold qF12X_8; go_simp) hHeld ?_
  try simp only [pt, List.set]
  refine regY tF12X_9 (.slice A10 m10 c10) (fun W hSw => by unfold qF12X_9; go_simp) hHeld ?_
  try simp only [pt, List.set]
  refine regY tF12X_10 (.slice A9 m9 c9) (fun W hSw => by unfold qF12X_11; go_simp) hHeld ?_
  try simp only [pt, List.set]
  refine regY tF12X_11 (.slice A10 m10 c10) (fun W hSw => by unfold qF12X_12; go_simp) hHeld ?_
  try simp only [pt, List.set]
  refine cF12X_12 (fun K hK => ?_)
  rw [if_pos (by rfl)]
  unfold qF12X_10
  go_simp
  refine (implNw_is NN.out L9.out (by omega) L10.out (by omega) _ (M_11.out.below (below_chain BV.out hHeld.bel)) (N_11.out.below (below_chain BV.out hHeld.bel))).mono ?_
  rintro e w33 ⟨rfl, bq⟩
  refine Shut.out hK _ _ ?_ (fun hHeld => ?_)
  · exact hHeld.below bq
  clear hK K
  try simp only [pt, List.set]
  refine cF12X_13 (fun K hK => ?_)
  rw [if_pos (by rfl)]
  unfold qF12X_13
  go_simp
  refine (specNw_is NN.out L9.out (by omega) L10.out (by omega) _ (M_11.out.below (below_chain BV.out hHeld.bel)) (N_11.out.below (below_chain BV.out hHeld.bel))).mono ?_
  rintro e w34 ⟨rfl, bq⟩
  refine Shut.out hK _ _ ?_ (fun hHeld => ?_)
  · exact hHeld.below bq
  clear hK K
  try simp only [pt, List.set]
  refine regY tF12X_14 (.bool false) (fun W hSw => by unfold qF12X_14; go_simp) hHeld ?_
  try simp only [pt, List.set]
  refine regY tF12X_15 (.bool false) (fun W hSw => by unfold qF12X_15; go_simp) hHeld ?_
  try simp only [pt, List.set]
  refine regY tF12X_16 (.bool false) (fun W hSw => by unfold qF12X_16; go_simp) hHeld ?_
  try simp only [pt, List.set]
  refine regY tF12X_17 (.slice A14 mv c14) (fun W hSw => by unfold qF12X_17; go_simp) hHeld ?_
  try simp only [pt, List.set]
  refine regY tF12X_18 (.slice A16 mv c16) (fun W hSw => by unfold qF12X_18; go_simp) hHeld ?_
  try simp only [pt, List.set]
  refine cF12X_19 (fun K hK => ?_)
  rw [if_pos (by rfl)]
  unfold qF12X_19
  go_simp
  refine (sameCe2_is MV.out (by omega) (R14_11.out.below (below_chain BV.out hHeld.bel)) (R16_11.out.below (below_chain BV.out hHeld.bel))).mono ?_
  rintro e w35 ⟨rfl, bq⟩
  refine Shut.out hK _ _ ?_ (fun hHeld => ?_)
  · exact hHeld.below bq
  clear hK K
  try simp only [pt, List.set]
  refine regY tF12X_20 (.bool false) (fun W hSw => by unfold qF12X_20; go_simp) hHeld ?_
  try simp only [pt, List.set]
  refine regY tF12X_21 (.bool false) (fun W hSw => by unfold qF12X_21; go_simp) hHeld ?_
  try simp only [pt, List.set]
  refine regY tF12X_22 (.bool false) (fun W hSw => by unfold qF12X_22; go_simp) hHeld ?_
  try simp only [pt, List.set]
  refine regY tF12X_23 (.slice A15 mt c15) (fun W hSw => by unfold qF12X_23; go_simp) hHeld ?_
  try simp only [pt, List.set]
  refine regY tF12X_24 (.slice A17 mt c17) (fun W hSw => by unfold qF12X_24; go_simp) hHeld ?_
  try simp only [pt, List.set]
  refine cF12X_25 (fun K hK => ?_)
  rw [if_pos (by rfl)]
  unfold qF12X_25
  go_simp
  refine (sameCe2_is MT.out (by omega) (R15_11.out.below (below_chain BV.out hHeld.bel)) (R17_11.out.below (below_chain BV.out hHeld.bel))).mono ?_
  rintro e w36 ⟨rfl, bq⟩
  refine Shut.out hK _ _ ?_ (fun hHeld => ?_)
  · exact hHeld.below bq
  clear hK K
  try simp only [pt, List.set]
  refine regY tF12X_26 (.bool false) (fun W hSw => by unfold qF12X_26; go_simp) hHeld ?_
  try simp only [pt, List.set]
  refine regY tF12X_27 (.bool false) (fun W hSw => by unfold qF12X_27; go_simp) hHeld ?_
  try simp only [pt, List.set]
  refine regY tF12X_28 (.bool false) (fun W hSw => by unfold qF12X_28; go_simp) hHeld ?_
  try simp only [pt, List.set]
  refine regY tF12X_29 (.agg #[.slice A1 n1 c1, .int .i64 wk1, .int .i64 cp1]) (fun W hSw => by unfold qF12X_29; obtain ⟨g0, g1, g2, _⟩ := hSw; go_simp) hHeld ?_
  try simp only [pt, List.set]
  refine regY tF12X_30 (.slice A8 m8 c8) (fun W hSw => by unfold qF12X_30; go_simp) hHeld ?_
  try simp only [pt, List.set]
  refine regY tF12X_31 (.agg #[.slice A1 n1 c1, .int .i64 wk1, .int .i64 cp1]) (fun W hSw => by unfold qF12X_32; obtain ⟨g0, g1, g2, _⟩ := hSw; go_simp) hHeld ?_
  try simp only [pt, List.set]
  refine regY tF12X_32 (.slice A8 m8 c8) (fun W hSw => by unfold qF12X_33; go_simp) hHeld ?_
  try simp only [pt, List.set]
  refine cF12X_33 (fun K hK => ?_)
  rw [if_pos (by rfl)]
  unfold qF12X_31
  go_simp
  refine (implOnly_any gs1 wk1 cp1 A1 n1 c1 L1.out OU1.out hn1 zs8 A8 m8 c8 L8.out (by omega) _ (E_11.out.below (below_chain BV.out hHeld.bel)) (Z_11.out.below (below_chain BV.out hHeld.bel))).mono ?_
  rintro e w37 hE
  obtain ⟨A37, c37, rfl, r37, bq⟩ := hE.rows OS.out MO.out
  have Y3 := Lib.hid r37.ce
  clear hE r37
  refine Shut.out hK _ _ ?_ (fun hHeld => ?_)
  · exact hHeld.below bq
  clear hK K
  try simp only [pt, List.set]
  refine cF12X_34 (fun K hK => ?_)
  rw [if_pos (by rfl)]
  unfold qF12X_34
  go_simp
  refine (specOuts_any gs1 wk1 cp1 A1 n1 c1 L1.out OU1.out hn1 zs8 A8 m8 c8 L8.out (by omega) _ (E_11.out.below (below_chain BV.out hHeld.bel)) (Z_11.out.below (below_chain BV.out hHeld.bel))).mono ?_
  rintro e w38 hE
  obtain ⟨A38, c38, rfl, r38, bq⟩ := hE.rows OS.out MO.out
  have Y4 := Lib.hid r38.ce
  have Y5 := Lib.hid (Y3.out.below bq)
  clear hE r38 Y3
  refine Shut.out hK _ _ ?_ (fun hHeld => ?_)
  · exact hHeld.below bq
  clear hK K
  try simp only [pt, List.set]
  refine cF12X_35 (fun K hK => ?_)
  rw [if_pos (by rfl)]
  unfold qF12X_35
  go_simp
  refine (sameCe2_is MO.out (by omega) Y5.out Y4.out).mono ?_
  rintro e w39 ⟨rfl, bq⟩
  clear Y4 Y5
  refine Shut.out hK _ _ ?_ (fun hHeld => ?_)
  · exact hHeld.below bq
  clear hK K
  try simp only [pt, List.set]
  refine regY tF12X_36 (.bool false) (fun W hSw => by unfold qF12X_36; go_simp) hHeld ?_
  try simp only [pt, List.set]
  refine regY tF12X_37 (.bool false) (fun W hSw => by unfold qF12X_37; go_simp) hHeld ?_
  try simp only [pt, List.set]
  refine wpAnyH_done (by kernel_rfl) ?_ _
  have hb0 := hHeld.bel
  have hb := below_chain BV.out hb0
  obtain ⟨w10, hw10⟩ : ∃ z, z = w39 := ⟨_, rfl⟩
  subst hw10
  clear hb0 hHeld HD BV
  clear R14_11
  clear R15_11
  clear R16_11
  clear R17_11
  clear E_11
  clear Z_11
  clear M_11
  clear N_11
  clear g7_11
  have sz12 := hb.size
  have B12 := Lib.hid (below_chain B11.out hb)
  have D_12 := Lib.hid (D_11.out.below hb)
  have P_12 := Lib.hid (P_11.out.below hb)
  have X_12 := Lib.hid (X_11.out.below hb)
  have g3_12 := Lib.hid (g3_11.out.below hb)
  clear hb B11 D_11 P_11 X_11 g3_11
  clear hcc hnn CL NN OS MO MV MT L8 L9 L10 L1 OU1
  go_upto_region 14 with fail
  exact rest w w10 a0 len0 cap0 _ A n c wk cp gs ep A5 m5 c5 rs A6 mq c6 q _ _ _ _ _ _ _ _ _ _ _ _ _ _ _ _ _ _ _ _ _ _ _ _ _ _ _ _ _ _ _ _ _ _ _ _ _ _ _ _ _ _ _ _ _ _ _ _ _ _ _ _ _ _ _ _ _ _ _ _ _ _ _ _ _ _ _ _ _ _ _ _ _ _ _ _ _ _ _ _ _ _ _ _ _ _ _ _ _ _ _ _ _ _ _ _ _ _ _ _ _ _ _ _ _ _ _ _ _ _ _ _ _ _ _ _ _ _ _ _ _ _ _ _ _ _ _ _ _ _ _ _ _ _ _ _ _ _ _ _ _ _ _ _ _ _ _ _ _ _ _ _ _ _ _ _ _ _ _ _ _ _ _ _ _ _ _ _ _ _ _ _ _ _ _ _ _ _ _ _ _ _ _ _ _ _ _ _ _ _ _ hn L.out OU.out (by omega) L5.out FX.out MQ.out l1 D_12.out g3_12.out P_12.out X_12.out B12.out rfl (by assumption)
end Go.Proofs.Ytbbagpnjjjohpaa.fnFixed

