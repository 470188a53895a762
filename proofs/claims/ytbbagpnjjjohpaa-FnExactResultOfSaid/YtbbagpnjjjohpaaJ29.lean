/-
  The reference's OutsOnly: the contract of spec.OutsOnly.
-/
import Derived.Test.YtbbagpnjjjohpaaJ28
import Derived.Test.YtbbagpnjjjohpaaJ9

namespace Go.Proofs.Ytbbagpnjjjohpaa.hexes
open Go.RowKit

set_option maxRecDepth 1000000 in
set_option maxHeartbeats 16000000 in
theorem specOuts_any (gs : List Nd) (wk cp : Int) (A : Option Addr) (n c : Nat) (hl : gs.length = n) (ho : ∀ x ∈ gs, x.2.2.2.length ≤ 1048576) (hn : n ≤ 1048576) (ces : List Ce) (A2 : Option Addr) (n2 c2 : Nat) (hl2 : ces.length = n2) (hn2 : n2 ≤ 2000000) (w : World) (h : Nds w A gs) (h2 : Ces w A2 ces) :
    Calls Try.prog 28 #[.agg #[.slice A n c, .int .i64 wk, .int .i64 cp], .slice A2 n2 c2] w (CesOut w (outsC gs ces)) := by
  have HL := Lib.hid hl
  have HO := Lib.hid ho
  have H2L := Lib.hid hl2
  have S0 := Lib.hid h
  have H2 := Lib.hid h2
  clear hl ho hl2 h h2
  obtain ⟨V, hW⟩ : ∃ z, ((w.alloc (.cells #[.slice A n c, .int .i64 wk, .int .i64 cp] 26)).alloc (.cells #[] 38)) = z := ⟨_, rfl⟩
  have hb : Below w.heap.size w V := by rw [← hW]; exact (((Below.refl _ _).alloc (by first | (simp; done) | (simp; omega) | omega) _).alloc (by first | (simp; done) | (simp; omega) | omega) _)
  have az : V.heap.size = w.heap.size + 2 := by rw [← hW]; simp
  have NG := Lib.hid (show Blk V (w.heap.size) 26 #[.slice A n c, .int .i64 wk, .int .i64 cp] by rw [← hW]; exact ((Below.heap_alloc _ _ _ (by first | (simp; done) | (simp; omega))).trans (Blk.new _ _ _)))
  have NE := Lib.hid (show Blk V (w.heap.size + 1) 38 #[] by rw [← hW]; exact ((show w.heap.size + 1 = ((w.alloc _)).heap.size by simp) ▸ Blk.new _ _ _))
  have AZV := Lib.hid az
  clear az
  have sz1 := hb.size
  have B1 := Lib.hid (hb)
  clear hb
  have G_1 := NG
  clear NG
  have ltG : w.heap.size < V.heap.size := G_1.out.lt
  have E_1 := NE
  clear NE
  have ltE : w.heap.size + 1 < V.heap.size := E_1.out.lt
  have L0 := Lib.hid (show OutSt w V gs wk cp A n c (some ⟨w.heap.size + 1, 0, none⟩) 0 0 [] from ⟨Wce.empty _ _ _ _, G_1.out, B1.out, S0.out⟩)
  go_enter Try.func28, Try.ntmps28
  go_wp2_with fail
  clear hW
  go_loopw [5, 6] (fun v i wr => ∃ (j : Nat) (AL : Option Addr) (m4 cL : Nat) (out : List Ce), j ≤ n2 ∧ i = .int .i64 (j : Int) ∧ v = .slice AL m4 cL ∧ m4 ≤ j ∧ outsC gs (ces.take j) = out ∧ OutSt w wr gs wk cp A n c AL m4 cL out) (fun _ i _ => n2 - (intOf i).toNat)
  case atStart => exact ⟨0, _, 0, 0, [], Nat.zero_le _, rfl, rfl, Nat.le_refl _, rfl, L0.out⟩
  case round =>
    obtain ⟨j, AL, m4, cL, out, hj, rfl, rfl, hmj, hout, hS⟩ := hrel
    have SR := Lib.hid hS
    have HU := Lib.hid hout
    clear hS hout
    by_cases hlt : j < n2
    · have lj : j < ces.length := by rw [H2L.out]; exact hlt
      obtain ⟨b1, o1, hA1, hb1, hall⟩ := (H2.out.below SR.out.bel) (by omega)
      obtain ⟨bx, ox, p0, p1, p2, p3, rfl, hz, e0, e1, e2, e3⟩ := (H2.out.below SR.out.bel).at lj
      obtain ⟨rfl, rfl⟩ : bx = b1 ∧ ox = o1 := by simpa using hA1
      clear hA1 hall
      have i0 : (0 : Int) ≤ (j : Int) := by omega
      have i1 : (j : Int) < (n2 : Int) := by omega
      obtain ⟨⟨k, a, b, zs⟩, hx⟩ : ∃ x, nodeAt gs p0 = x := ⟨_, rfl⟩
      obtain ⟨m, hm⟩ : ∃ m, zs.length = m := ⟨_, rfl⟩
      obtain ⟨q, hq⟩ : ∃ q, hasB gs p0 = q := ⟨_, rfl⟩
      have SX := Lib.hid (show outsC gs (ces.take (j + 1)) = out ++ (if (q && decide (k = 8)) = true then [(p0, p1, p2, p3)] else []) by rw [outs_step lj, HU.out, hz]; unfold outC; rw [hq, hx])
      have HX := Lib.hid hx
      have HM := Lib.hid hm
      have HQ := Lib.hid hq
      clear hz hx hm hq lj HU
      obtain ⟨V9, hV⟩ : ∃ v, wr.drew = v := ⟨_, rfl⟩
      have SV := Lib.hid (show OutSt w V9 gs wk cp A n c AL m4 cL out by rw [← hV]; exact SR.out.fresh ((Below.refl _ _).drew))
      have HV := Lib.hid (show OutHeld w.heap.size A n c wk cp bx (ox + j * 4) p0 p1 p2 p3 V9 by rw [← hV]; exact ⟨by show wr.cell? _ = _; rw [SR.out.g.cell]; rfl, by show wr.cell? _ = _; rw [SR.out.g.cell]; rfl, by show wr.cell? _ = _; rw [SR.out.g.cell]; rfl, e0, e1, e2, e3⟩)
      have hbx : bx < V9.heap.size := by rw [← hV]; exact hb1
      have hwV : w.heap.size < V9.heap.size := SV.out.g.lt
      clear e0 e1 e2 e3 hb1 SR
      go_wp2_with fail
      refine wp_region_held_drew (S := OutHeld w.heap.size A n c wk cp bx (ox + j * 4) p0 p1 p2 p3) (by kernel_rfl) ?_ (fun hHeld => ?_)
      · rw [hV]; exact HV.out
      change wpAnyH _ _ opsO5 _ _ 13 (#[false, false, false, false, false, false, false, false, false, false, false, false, false] : Array Bool) _ _
      rw [hV] at hHeld ⊢
      clear hV HV
      refine regY tO5_e_0 (.agg #[.slice A n c, .int .i64 wk, .int .i64 cp]) (fun W hSw => by unfold qO5_0; obtain ⟨g0, g1, g2, e0, _, _, _⟩ := hSw; go_simp) hHeld ?_
      try simp only [pt, List.set]
      refine regY tO5_0_1 (.slice (some ⟨bx, ox, none⟩) n2 c2) (fun W hSw => by unfold qO5_1; go_simp) hHeld ?_
      try simp only [pt, List.set]
      refine regY tO5_01_2 (.int .i64 (j : Int)) (fun W hSw => by unfold qO5_2; go_simp) hHeld ?_
      try simp only [pt, List.set]
      refine regY tO5_012_3 (.pointer (some ⟨bx, ox + j * 4, none⟩)) (fun W hSw => by unfold qO5_3; go_simp) hHeld ?_
      try simp only [pt, List.set]
      refine regY tO5_0123_4 (.pointer (some ⟨bx, ox + j * 4, none⟩)) (fun W hSw => by unfold qO5_4; go_simp) hHeld ?_
      try simp only [pt, List.set]
      refine regY tO5_01234_5 (.int .i64 p0) (fun W hSw => by unfold qO5_5; obtain ⟨g0, g1, g2, e0, _, _, _⟩ := hSw; go_simp) hHeld ?_
      try simp only [pt, List.set]
      refine cO5_012345_6_10 (fun K hK => ?_) (fun K hK => ?_)
      · rw [if_pos (by rfl)]
        unfold qO5_6
        go_simp
        refine (specNodeOf_row HX.out HM.out HQ.out wk cp A n c HL.out HO.out hn V9 SV.out.nds).mono ?_
        rintro e w5 ⟨An, cn, rfl, rZ, bq⟩
        clear rZ
        have T5 := Lib.hid (SV.out.fresh bq)
        have H5 := hHeld.below bq
        have z5 := bq.size
        clear bq
        refine Shut.out hK _ _ ?_ (fun hHeld => ?_)
        · exact H5
        clear hK K
        try simp only [pt, List.set]
        refine regY tO5_0123456_7 (.tuple #[.agg #[.int .i64 k, .int .i64 a, .int .i64 b, .slice An m cn], .bool q]) (fun W hSw => by unfold qO5_7; go_simp) hHeld ?_
        try simp only [pt, List.set]
        refine regY tO5_01234567_8 (.agg #[.int .i64 k, .int .i64 a, .int .i64 b, .slice An m cn]) (fun W hSw => by unfold qO5_8; go_simp) hHeld ?_
        try simp only [pt, List.set]
        refine regY tO5_012345678_9 (.bool q) (fun W hSw => by unfold qO5_9; go_simp) hHeld ?_
        try simp only [pt, List.set]
        refine cO5_0123456789__10 (fun K hK => ?_)
        rw [if_pos (by rfl)]
        unfold qO5_10
        go_simp
        obtain ⟨nb, hnb⟩ : ∃ g, g = w5.heap.size := ⟨_, rfl⟩
        rw [← hnb]
        generalize hU : World.alloc _ _ = w6
        have bU : Below w5.heap.size w5 w6 := by rw [← hU]; exact (Below.refl _ _).alloc (Nat.le_refl _) _
        have K6 := Lib.hid (show Blk w6 nb 46 #[.int .i64 0, .int .i64 0, .int .i64 0, .slice none 0 0] by rw [← hU, hnb]; exact Blk.new _ _ _)
        have T6 := Lib.hid (T5.out.fresh bU)
        have H6 := hHeld.below bU
        have n6 : w5.heap.size ≤ nb := by omega
        clear hU bU hnb
        refine Shut.out hK _ _ ?_ (fun hHeld => ?_)
        · exact H6
        clear hK K
        try simp only [pt, List.set]
        refine cO5_0123456789_10__11 (fun K hK => ?_)
        rw [if_pos (by rfl)]
        unfold qO5_11
        have l0 : w6.cell? ⟨nb, 0, none⟩ = some (.int .i64 0) := by rw [K6.out.cell]; rfl
        have l1 : w6.cell? ⟨nb, 1, none⟩ = some (.int .i64 0) := by rw [K6.out.cell]; rfl
        have l2 : w6.cell? ⟨nb, 2, none⟩ = some (.int .i64 0) := by rw [K6.out.cell]; rfl
        have l3 : w6.cell? ⟨nb, 3, none⟩ = some (.slice none 0 0) := by rw [K6.out.cell]; rfl
        have lf0 := K6.out.frozen 0
        have lf1 := K6.out.frozen 1
        have lf2 := K6.out.frozen 2
        have lf3 := K6.out.frozen 3
        go_simp
        clear l0 lf0 l1 lf1 l2 lf2 l3 lf3
        generalize hS : (((World.setCell w6 _ _).setCell _ _).setCell _ _).setCell _ _ = w7
        have gS : w6.grownBy w7 (some nb) := by rw [← hS]; exact grown_trans (grown_trans (grown_trans (grown_set _ _ _) (grown_set _ _ _)) (grown_set _ _ _)) (grown_set _ _ _)
        have K7 := Lib.hid (show Blk w7 nb 46 #[.int .i64 k, .int .i64 a, .int .i64 b, .slice An m cn] by rw [← hS]; exact (((K6.out.put 0 _).put 1 _).put 2 _).put 3 _)
        have T7 := Lib.hid (T6.out.put K6.out gS (by omega))
        have H7 := hHeld.put gS (by omega) (by omega)
        clear hS gS
        refine Shut.out hK _ _ ?_ (fun hHeld => ?_)
        · exact H7
        clear hK K
        try simp only [pn]
        refine regY tO5_0123456789_10_11_12 (.bool q) (fun W hSw => by unfold qO5_12; go_simp) hHeld ?_
        try simp only [pt, List.set]
        refine wpAnyH_done (by kernel_rfl) ?_ _
        clear hHeld
        have d0 := H7.c0
        have d1 := H7.c1
        have d2 := H7.c2
        have d3 := H7.c3
        clear SV T5 T6 H5 H6 H7 K6
        cases q with
        | false =>
          have ST2 := Lib.hid (show outsC gs (ces.take (j + 1)) = out by rw [SX.out]; simp)
          clear d0 d1 d2 d3
          go_wp2
          go_roundw
          case rel => exact ⟨j + 1, AL, m4, cL, out, by omega, by go_num, rfl, by omega, ST2.out, T7.out⟩
          case measure => simp [intOf]; omega
        | true =>
          have xk : w7.cell? ⟨nb, 0, none⟩ = some (.int .i64 k) := by rw [K7.out.cell]; rfl
          by_cases k8 : k = 8
          · have dk : (k == 8) = true := by simpa using k8
            have ST2 := Lib.hid (show outsC gs (ces.take (j + 1)) = out ++ [(p0, p1, p2, p3)] by rw [SX.out]; simp [k8])
            clear k8
            obtain ⟨U, hU⟩ : ∃ z, w7.alloc (.cells #[.int .i64 p0, .int .i64 p1, .int .i64 p2, .int .i64 p3] 38) = z := ⟨_, rfl⟩
            have hbU : Below w7.heap.size w7 U := by rw [← hU]; exact (Below.refl _ _).alloc (Nat.le_refl _) _
            have NU := Lib.hid (show Ces U (some ⟨w7.heap.size, 0, none⟩) [(p0, p1, p2, p3)] by rw [← hU]; exact ce_new _ _ _ _ _)
            have SU := Lib.hid (T7.out.fresh hbU)
            clear hbU
            go_wp2_with (at_builtin; refine wpList_append_wce rfl (.tmp 32) (.tmp 37) (by rfl) (by rfl) SU.out.l (some ⟨w7.heap.size, 0, none⟩) 1 1 [(p0, p1, p2, p3)] (by rfl) (fun h => by cases h) rfl NU.out (by omega) SU.out.bel.size ?_; intro A8 c8 w8 own8 gr8 ha8; generalize hG : wpList _ _ _ _ _ _ = GG)
            have N8 := Lib.hid (show OutSt w w8 gs wk cp A n c A8 (m4 + 1) c8 (out ++ [(p0, p1, p2, p3)]) from ⟨own8, gr8.blk SU.out.g (by decide), gr8.bel SU.out.bel (Nat.le_refl _), SU.out.n0⟩)
            clear own8 gr8 ha8 SU NU T7 K7 hU d0 d1 d2 d3 xk
            subst hG
            go_wp2
            go_roundw
            case rel => exact ⟨j + 1, A8, m4 + 1, c8, _, by omega, by go_num, rfl, by omega, ST2.out, N8.out⟩
            case measure => simp [intOf]; omega
          · have dk : (k == 8) = false := by simpa using k8
            have ST2 := Lib.hid (show outsC gs (ces.take (j + 1)) = out by rw [SX.out]; simp [k8])
            clear k8 d0 d1 d2 d3
            go_wp2
            go_roundw
            case rel => exact ⟨j + 1, AL, m4, cL, out, by omega, by go_num, rfl, by omega, ST2.out, T7.out⟩
            case measure => simp [intOf]; omega
      · rw [if_pos (by rfl)]
        unfold qO5_10
        go_simp
        obtain ⟨nb, hnb⟩ : ∃ g, g = V9.heap.size := ⟨_, rfl⟩
        rw [← hnb]
        generalize hU : World.alloc _ _ = w6
        have bU : Below V9.heap.size V9 w6 := by rw [← hU]; exact (Below.refl _ _).alloc (Nat.le_refl _) _
        have K6 := Lib.hid (show Blk w6 nb 46 #[.int .i64 0, .int .i64 0, .int .i64 0, .slice none 0 0] by rw [← hU, hnb]; exact Blk.new _ _ _)
        have T6 := Lib.hid (SV.out.fresh bU)
        have H6 := hHeld.below bU
        have n6 : V9.heap.size ≤ nb := by omega
        clear hU bU hnb
        refine Shut.out hK _ _ ?_ (fun hHeld => ?_)
        · exact H6
        clear hK K
        try simp only [pt, List.set]
        refine cO5_012345_10_6 (fun K hK => ?_)
        rw [if_pos (by rfl)]
        unfold qO5_6
        go_simp
        refine (specNodeOf_row HX.out HM.out HQ.out wk cp A n c HL.out HO.out hn w6 T6.out.nds).mono ?_
        rintro e w5 ⟨An, cn, rfl, rZ, bq⟩
        clear rZ
        have T5 := Lib.hid (T6.out.fresh bq)
        have H5 := hHeld.below bq
        have z5 := bq.size
        have K5 := Lib.hid (K6.out.below bq)
        clear bq
        refine Shut.out hK _ _ ?_ (fun hHeld => ?_)
        · exact H5
        clear hK K
        try simp only [pt, List.set]
        refine regY tO5_0123456_10_7 (.tuple #[.agg #[.int .i64 k, .int .i64 a, .int .i64 b, .slice An m cn], .bool q]) (fun W hSw => by unfold qO5_7; go_simp) hHeld ?_
        try simp only [pt, List.set]
        refine regY tO5_01234567_10_8 (.agg #[.int .i64 k, .int .i64 a, .int .i64 b, .slice An m cn]) (fun W hSw => by unfold qO5_8; go_simp) hHeld ?_
        try simp only [pt, List.set]
        refine regY tO5_012345678_10_9 (.bool q) (fun W hSw => by unfold qO5_9; go_simp) hHeld ?_
        try simp only [pt, List.set]
        refine cO5_0123456789_10__11 (fun K hK => ?_)
        rw [if_pos (by rfl)]
        unfold qO5_11
        have l0 : w5.cell? ⟨nb, 0, none⟩ = some (.int .i64 0) := by rw [K5.out.cell]; rfl
        have l1 : w5.cell? ⟨nb, 1, none⟩ = some (.int .i64 0) := by rw [K5.out.cell]; rfl
        have l2 : w5.cell? ⟨nb, 2, none⟩ = some (.int .i64 0) := by rw [K5.out.cell]; rfl
        have l3 : w5.cell? ⟨nb, 3, none⟩ = some (.slice none 0 0) := by rw [K5.out.cell]; rfl
        have lf0 := K5.out.frozen 0
        have lf1 := K5.out.frozen 1
        have lf2 := K5.out.frozen 2
        have lf3 := K5.out.frozen 3
        go_simp
        clear l0 lf0 l1 lf1 l2 lf2 l3 lf3
        generalize hS : (((World.setCell w5 _ _).setCell _ _).setCell _ _).setCell _ _ = w7
        have gS : w5.grownBy w7 (some nb) := by rw [← hS]; exact grown_trans (grown_trans (grown_trans (grown_set _ _ _) (grown_set _ _ _)) (grown_set _ _ _)) (grown_set _ _ _)
        have K7 := Lib.hid (show Blk w7 nb 46 #[.int .i64 k, .int .i64 a, .int .i64 b, .slice An m cn] by rw [← hS]; exact (((K5.out.put 0 _).put 1 _).put 2 _).put 3 _)
        have T7 := Lib.hid (T5.out.put K5.out gS (by omega))
        have H7 := hHeld.put gS (by omega) (by omega)
        clear hS gS
        refine Shut.out hK _ _ ?_ (fun hHeld => ?_)
        · exact H7
        clear hK K
        try simp only [pn]
        refine regY tO5_0123456789_10_11_12 (.bool q) (fun W hSw => by unfold qO5_12; go_simp) hHeld ?_
        try simp only [pt, List.set]
        refine wpAnyH_done (by kernel_rfl) ?_ _
        clear hHeld
        have d0 := H7.c0
        have d1 := H7.c1
        have d2 := H7.c2
        have d3 := H7.c3
        clear SV T5 T6 H5 H6 H7 K5 K6
        cases q with
        | false =>
          have ST2 := Lib.hid (show outsC gs (ces.take (j + 1)) = out by rw [SX.out]; simp)
          clear d0 d1 d2 d3
          go_wp2
          go_roundw
          case rel => exact ⟨j + 1, AL, m4, cL, out, by omega, by go_num, rfl, by omega, ST2.out, T7.out⟩
          case measure => simp [intOf]; omega
        | true =>
          have xk : w7.cell? ⟨nb, 0, none⟩ = some (.int .i64 k) := by rw [K7.out.cell]; rfl
          by_cases k8 : k = 8
          · have dk : (k == 8) = true := by simpa using k8
            have ST2 := Lib.hid (show outsC gs (ces.take (j + 1)) = out ++ [(p0, p1, p2, p3)] by rw [SX.out]; simp [k8])
            clear k8
            obtain ⟨U, hU⟩ : ∃ z, w7.alloc (.cells #[.int .i64 p0, .int .i64 p1, .int .i64 p2, .int .i64 p3] 38) = z := ⟨_, rfl⟩
            have hbU : Below w7.heap.size w7 U := by rw [← hU]; exact (Below.refl _ _).alloc (Nat.le_refl _) _
            have NU := Lib.hid (show Ces U (some ⟨w7.heap.size, 0, none⟩) [(p0, p1, p2, p3)] by rw [← hU]; exact ce_new _ _ _ _ _)
            have SU := Lib.hid (T7.out.fresh hbU)
            clear hbU
            go_wp2_with (at_builtin; refine wpList_append_wce rfl (.tmp 32) (.tmp 37) (by rfl) (by rfl) SU.out.l (some ⟨w7.heap.size, 0, none⟩) 1 1 [(p0, p1, p2, p3)] (by rfl) (fun h => by cases h) rfl NU.out (by omega) SU.out.bel.size ?_; intro A8 c8 w8 own8 gr8 ha8; generalize hG : wpList _ _ _ _ _ _ = GG)
            have N8 := Lib.hid (show OutSt w w8 gs wk cp A n c A8 (m4 + 1) c8 (out ++ [(p0, p1, p2, p3)]) from ⟨own8, gr8.blk SU.out.g (by decide), gr8.bel SU.out.bel (Nat.le_refl _), SU.out.n0⟩)
            clear own8 gr8 ha8 SU NU T7 K7 hU d0 d1 d2 d3 xk
            subst hG
            go_wp2
            go_roundw
            case rel => exact ⟨j + 1, A8, m4 + 1, c8, _, by omega, by go_num, rfl, by omega, ST2.out, N8.out⟩
            case measure => simp [intOf]; omega
          · have dk : (k == 8) = false := by simpa using k8
            have ST2 := Lib.hid (show outsC gs (ces.take (j + 1)) = out by rw [SX.out]; simp [k8])
            clear k8 d0 d1 d2 d3
            go_wp2
            go_roundw
            case rel => exact ⟨j + 1, AL, m4, cL, out, by omega, by go_num, rfl, by omega, ST2.out, T7.out⟩
            case measure => simp [intOf]; omega
    · obtain rfl : j = n2 := by omega
      have HE := Lib.hid (show outsC gs ces = out by rw [← HU.out, List.take_of_length_le (Nat.le_of_eq H2L.out)])
      have dl : decide (j < j) = false := by simp
      clear hlt
      go_wp2
      go_ret
      exact ⟨AL, cL, m4, by rw [HE.out]; exact SR.out.l.1, rfl, by rw [HE.out]; exact SR.out.l, SR.out.bel⟩
end Go.Proofs.Ytbbagpnjjjohpaa.hexes

