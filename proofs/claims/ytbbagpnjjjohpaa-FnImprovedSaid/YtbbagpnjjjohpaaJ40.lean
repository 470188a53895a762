/-
  spec.l08Any.
-/
import Derived.Test.YtbbagpnjjjohpaaJ34
import Derived.Test.YtbbagpnjjjohpaaJ35
import Derived.Test.YtbbagpnjjjohpaaJ38
import Derived.Test.YtbbagpnjjjohpaaJ39
import Derived.Deep.AppendLies

namespace Go.Proofs.Ytbbagpnjjjohpaa.hexes
open Go.RowKit

/-- The length of a slice that is held. -/
def slLen : Option Value → Nat
  | some (.slice _ n _) => n
  | _ => 0

set_option maxRecDepth 100000 in
set_option maxHeartbeats 16000000 in
theorem graphAny_draw (w : World) (c : Nat) (A : Option Addr) (len cap : Nat) (hlen : len ≤ 2097152) (hcur : Cursor w c A len cap) :
    Calls Try.prog 53 #[.pointer (some ⟨c, 0, none⟩)] w (GaEnd w c A len cap) := by
  obtain ⟨i0, hi, hz0, hz1, hz2⟩ := info_parts isinfo
  have hc := hcur.lt
  have HC := Lib.hid hcur
  clear hcur
  go_enter Try.func53, Try.ntmps53
  go_wp2_with fail
  generalize hW : w.alloc _ = W
  have bW : Below w.heap.size w W := by rw [← hW]; exact (Below.refl _ _).alloc (Nat.le_refl _) _
  have r0 : Blk W w.heap.size 26 #[.slice none 0 0, .int .i64 0, .int .i64 0] := by rw [← hW]; exact Blk.new _ _ _
  refine (graph_draw W c A len cap hlen (HC.out.belowD bW)).mono ?_
  rintro e w1 ⟨A1, n, c1, wk, cp, vs, h6, h7, hvl, rfl, ho, hi1, h2, hnd, hc1, g1⟩
  have C1 := Lib.hid hc1
  have G1 := Lib.hid (grown_trans (row := some c) (grown_below (grown_refl w (some c)) bW) g1)
  have R1 := Lib.hid (r0.grown g1 (by simp; omega))
  have z1 : w.heap.size < w1.heap.size := R1.out.lt
  have O1 := Lib.hid (own_base ho bW.size)
  have I1 := Lib.hid (fun v hv => (hi1 v hv).lower (b' := w) bW.size)
  have ND := Lib.hid hnd
  have H2 := Lib.hid h2
  have VL := Lib.hid hvl
  obtain ⟨A1', c1', he, hf⟩ := own_form ho
  simp only [Value.slice.injEq, true_and] at he
  obtain ⟨rfl, rfl⟩ := he
  obtain ⟨g, rfl⟩ := hf (by omega)
  clear hc1 g1 r0 bW hW ho hi1 hnd h2 hvl hf
  go_upto_region 2 with fail
  generalize hU : w1.alloc _ = U
  have bU : Below w1.heap.size w1 U := by rw [← hU]; exact (Below.refl _ _).alloc (Nat.le_refl _) _
  obtain ⟨x, hx⟩ : ∃ x, w1.heap.size = x := ⟨_, rfl⟩
  have S0 := Lib.hid (show GdSt w U c A len cap w.heap.size x (some ⟨g, 0, none⟩) n c1 wk cp vs from ⟨HC.out, Nat.le_refl _, by have := G1.out.size; omega, by omega, C1.out.belowD bU, grown_below G1.out bU, R1.out.below bU, by rw [← hU, ← hx]; exact Blk.new _ _ _, own_below O1.out bU, VL.out, fun v hv => (I1.out v hv).below bU⟩)
  rw [hx]
  clear bU hU C1 G1 R1 O1 I1 hx
  have x0 : U.cell? ⟨x, 0, none⟩ = some (.slice (some ⟨g, 0, none⟩) n c1) := by rw [S0.out.kx.cell]; rfl
  go_wp2_with fail
  clear x0
  refine (below_any n (by omega) (by omega) U c A len cap hlen S0.out.cur).mono ?_
  rintro e w2 ⟨k, hk, rfl, hc2, g2⟩
  have S1 := Lib.hid (S0.out.draw hc2 g2)
  clear hc2 g2 S0
  go_wp2_with fail
  refine (below_any 12 (by omega) (by omega) w2 c A len cap hlen S1.out.cur).mono ?_
  rintro e w3 ⟨t, ht, rfl, hc2, g2⟩
  have S2 := Lib.hid (S1.out.draw hc2 g2)
  clear hc2 g2 S1
  have k0 : (0 : Int) ≤ (k : Int) := by omega
  have k1 : (k : Int) < (n : Int) := by omega
  have kv : k < vs.length := by rw [VL.out]; exact hk
  by_cases t0 : t = 0
  · subst t0
    go_wp2_with fail
    obtain ⟨w4, hw4⟩ : ∃ z, w3.drew = z := ⟨_, rfl⟩
    have S4 := Lib.hid (show GdSt w w4 c A len cap w.heap.size x (some ⟨g, 0, none⟩) n c1 wk cp vs by rw [← hw4]; exact S2.out.drew)
    refine wp_region_held_drew (S := (fun W' => W'.cell? ⟨x, 0, none⟩ = some (.slice (some ⟨g, 0, none⟩) n c1))) (by kernel_rfl) ?_ (fun hHeld => ?_)
    · rw [hw4]; (show _ = _; rw [S4.out.kx.cell]; rfl)
    change wpAnyH _ _ opsG5 _ _ 7 (#[false, false, false, false, false, false, false] : Array Bool) _ _
    rw [hw4] at hHeld ⊢
    clear hw4 S2
    refine regY tG5_e_0 (.pointer (some ⟨x, 0, none⟩)) (fun W hSw => by unfold qG5_0; go_simp) hHeld ?_
    try simp only [pt, List.set]
    refine regY tG5_0_1 (.slice (some ⟨g, 0, none⟩) n c1) (fun W hSw => by unfold qG5_1; have h5 : W.cell? ⟨x, 0, none⟩ = some (.slice (some ⟨g, 0, none⟩) n c1) := hSw; go_simp) hHeld ?_
    try simp only [pt, List.set]
    refine regY tG5_01_2 (.int .i64 (k : Int)) (fun W hSw => by unfold qG5_2; go_simp) hHeld ?_
    try simp only [pt, List.set]
    refine regY tG5_012_3 (.pointer (some ⟨c, 0, none⟩)) (fun W hSw => by unfold qG5_3; go_simp) hHeld ?_
    try simp only [pt, List.set]
    refine cG5_0123_4 (fun K hK => ?_)
    rw [if_pos (by rfl)]
    unfold qG5_4
    go_simp
    refine (nodeAny_draw w4 c A len cap hlen S4.out.cur).mono ?_
    rintro e v1 ⟨nk, na, nb, A2, m, c2, ys, _, _, _, _, hm, hy, rfl, hyo, hcn, gn⟩
    have Tv1 := Lib.hid (S4.out.draw hcn gn)
    have IN := Lib.hid (show Inn w v1 (nk, na, nb, A2, m, c2) from ⟨by show m ≤ 4; omega, ys, hy, own_base hyo S4.out.gr.size⟩)
    clear hcn gn hyo hy
    refine Shut.out hK _ _ ?_ (fun hHeld => ?_)
    · (show _ = _; rw [Tv1.out.kx.cell]; rfl)
    clear hK K
    try simp only [pt, List.set]
    refine regY tG5_01234_5 (.pointer (some ⟨g, k * 4, none⟩)) (fun W hSw => by unfold qG5_5; go_simp) hHeld ?_
    try simp only [pt, List.set]
    refine cG5_012345_6 (fun K hK => ?_)
    rw [if_pos (by rfl)]
    unfold qG5_6
    obtain ⟨vn0, n0⟩ : ∃ u, v1.cell? ⟨g, k * 4, none⟩ = some u := ⟨_, by rw [Tv1.out.row.cellAt (k * 4) (by omega)]; exact List.getElem?_eq_getElem (by rw [Tv1.out.row.1]; omega)⟩
    have fn0 := Tv1.out.row.frozenAt (k * 4)
    obtain ⟨vn1, n1⟩ : ∃ u, v1.cell? ⟨g, k * 4 + 1, none⟩ = some u := ⟨_, by rw [Tv1.out.row.cellAt (k * 4 + 1) (by omega)]; exact List.getElem?_eq_getElem (by rw [Tv1.out.row.1]; omega)⟩
    have fn1 := Tv1.out.row.frozenAt (k * 4 + 1)
    obtain ⟨vn2, n2⟩ : ∃ u, v1.cell? ⟨g, k * 4 + 2, none⟩ = some u := ⟨_, by rw [Tv1.out.row.cellAt (k * 4 + 2) (by omega)]; exact List.getElem?_eq_getElem (by rw [Tv1.out.row.1]; omega)⟩
    have fn2 := Tv1.out.row.frozenAt (k * 4 + 2)
    obtain ⟨vn3, n3⟩ : ∃ u, v1.cell? ⟨g, k * 4 + 3, none⟩ = some u := ⟨_, by rw [Tv1.out.row.cellAt (k * 4 + 3) (by omega)]; exact List.getElem?_eq_getElem (by rw [Tv1.out.row.1]; omega)⟩
    have fn3 := Tv1.out.row.frozenAt (k * 4 + 3)
    go_simp
    clear n0 fn0 n1 fn1 n2 fn2 n3 fn3
    generalize hV : (((v1.setCell _ _).setCell _ _).setCell _ _).setCell _ _ = v2
    have Tv2 := Lib.hid (show GdSt w v2 c A len cap w.heap.size x (some ⟨g, 0, none⟩) n c1 wk cp (vs.set k (nk, na, nb, A2, m, c2)) by rw [← hV]; exact Tv1.out.node k nk na nb A2 m c2 IN.out)
    clear hV
    refine Shut.out hK _ _ ?_ (fun hHeld => ?_)
    · (show _ = _; rw [Tv2.out.kx.cell]; rfl)
    clear hK K
    try simp only [pn]
    refine wpAnyH_done (by kernel_rfl) ?_ _
    clear hHeld
    go_upto_region 17 with fail
    have x0 : v2.cell? ⟨x, 0, none⟩ = some (.slice (some ⟨g, 0, none⟩) n c1) := by rw [Tv2.out.kx.cell]; rfl
    have x1 : v2.cell? ⟨x, 1, none⟩ = some (.int .i64 wk) := by rw [Tv2.out.kx.cell]; rfl
    have x2 : v2.cell? ⟨x, 2, none⟩ = some (.int .i64 cp) := by rw [Tv2.out.kx.cell]; rfl
    have y0 : v2.cell? ⟨w.heap.size, 0, none⟩ = some (.slice none 0 0) := by rw [Tv2.out.kr.cell]; rfl
    have yf0 := Tv2.out.kr.frozen 0
    have y1 : v2.cell? ⟨w.heap.size, 1, none⟩ = some (.int .i64 0) := by rw [Tv2.out.kr.cell]; rfl
    have yf1 := Tv2.out.kr.frozen 1
    have y2 : v2.cell? ⟨w.heap.size, 2, none⟩ = some (.int .i64 0) := by rw [Tv2.out.kr.cell]; rfl
    have yf2 := Tv2.out.kr.frozen 2
    go_wp2_with fail
    generalize hWf : ((v2.setCell _ _).setCell _ _).setCell _ _ = Wf
    obtain ⟨kf, of, jf, cf, gf⟩ := Tv2.out.fin hWf
    obtain ⟨gs, hgl, hgo, hgn⟩ := ndsF_of of Tv2.out.vl jf
    have e0 : Wf.cell? ⟨w.heap.size, 0, none⟩ = some (.slice (some ⟨g, 0, none⟩) n c1) := by rw [kf.cell]; rfl
    have e1 : Wf.cell? ⟨w.heap.size, 1, none⟩ = some (.int .i64 wk) := by rw [kf.cell]; rfl
    have e2 : Wf.cell? ⟨w.heap.size, 2, none⟩ = some (.int .i64 cp) := by rw [kf.cell]; rfl
    exact bodyPost_ret (v := .agg #[.slice (some ⟨g, 0, none⟩) n c1, .int .i64 wk, .int .i64 cp]) (by simp [results, Try.results53, go_sem, e0, e1, e2]) rfl ⟨(some ⟨g, 0, none⟩), n, c1, wk, cp, gs, by omega, hgl, hgo, rfl, hgn, cf, gf⟩
  have d0 : ((t : Int) == 0) = false := by simp; omega
  by_cases t1 : t = 1
  · subst t1
    go_wp2_with fail
    generalize hV : w3.alloc _ = V
    have bV : Below w3.heap.size w3 V := by rw [← hV]; exact (Below.refl _ _).alloc (Nat.le_refl _) _
    have P := (show Blk V w3.heap.size 3 (([0, 4, 5, -1] : List Int).map fun n => Value.int .i64 n).toArray by rw [← hV]; exact Blk.new _ _ _)
    have SV := Lib.hid (S2.out.fresh bV)
    have hcu := S2.out.cur.lt
    refine (pickInt_any V c w3.heap.size A len cap 4 [0, 4, 5, -1] rfl (by omega) (by omega) hlen SV.out.cur (by omega) P).mono ?_
    rintro e w4 ⟨v, hv, rfl, hc3, g3⟩
    have S3 := Lib.hid (SV.out.draw hc3 g3)
    clear hc3 g3 bV P hV hv SV hcu S2
    have x1 : w4.cell? ⟨x, 1, none⟩ = some (.int .i64 wk) := by rw [S3.out.kx.cell]; rfl
    have xf1 := S3.out.kx.frozen 1
    go_upto_region 17 with fail
    clear x1 xf1
    generalize hV : w4.setCell _ _ = V4
    have S5 := Lib.hid (show GdSt w V4 c A len cap w.heap.size x (some ⟨g, 0, none⟩) n c1 v cp vs by rw [← hV]; exact S3.out.put1 v)
    clear hV S3
    have x0 : V4.cell? ⟨x, 0, none⟩ = some (.slice (some ⟨g, 0, none⟩) n c1) := by rw [S5.out.kx.cell]; rfl
    have x1 : V4.cell? ⟨x, 1, none⟩ = some (.int .i64 v) := by rw [S5.out.kx.cell]; rfl
    have x2 : V4.cell? ⟨x, 2, none⟩ = some (.int .i64 cp) := by rw [S5.out.kx.cell]; rfl
    have y0 : V4.cell? ⟨w.heap.size, 0, none⟩ = some (.slice none 0 0) := by rw [S5.out.kr.cell]; rfl
    have yf0 := S5.out.kr.frozen 0
    have y1 : V4.cell? ⟨w.heap.size, 1, none⟩ = some (.int .i64 0) := by rw [S5.out.kr.cell]; rfl
    have yf1 := S5.out.kr.frozen 1
    have y2 : V4.cell? ⟨w.heap.size, 2, none⟩ = some (.int .i64 0) := by rw [S5.out.kr.cell]; rfl
    have yf2 := S5.out.kr.frozen 2
    go_wp2_with fail
    generalize hWf : ((V4.setCell _ _).setCell _ _).setCell _ _ = Wf
    obtain ⟨kf, of, jf, cf, gf⟩ := S5.out.fin hWf
    obtain ⟨gs, hgl, hgo, hgn⟩ := ndsF_of of S5.out.vl jf
    have e0 : Wf.cell? ⟨w.heap.size, 0, none⟩ = some (.slice (some ⟨g, 0, none⟩) n c1) := by rw [kf.cell]; rfl
    have e1 : Wf.cell? ⟨w.heap.size, 1, none⟩ = some (.int .i64 v) := by rw [kf.cell]; rfl
    have e2 : Wf.cell? ⟨w.heap.size, 2, none⟩ = some (.int .i64 cp) := by rw [kf.cell]; rfl
    exact bodyPost_ret (v := .agg #[.slice (some ⟨g, 0, none⟩) n c1, .int .i64 v, .int .i64 cp]) (by simp [results, Try.results53, go_sem, e0, e1, e2]) rfl ⟨(some ⟨g, 0, none⟩), n, c1, v, cp, gs, by omega, hgl, hgo, rfl, hgn, cf, gf⟩
  have d1 : ((t : Int) == 1) = false := by simp; omega
  by_cases t2 : t = 2
  · subst t2
    go_wp2_with fail
    generalize hV : w3.alloc _ = V
    have bV : Below w3.heap.size w3 V := by rw [← hV]; exact (Below.refl _ _).alloc (Nat.le_refl _) _
    have P := (show Blk V w3.heap.size 3 (([0, 4, 5, -1] : List Int).map fun n => Value.int .i64 n).toArray by rw [← hV]; exact Blk.new _ _ _)
    have SV := Lib.hid (S2.out.fresh bV)
    have hcu := S2.out.cur.lt
    refine (pickInt_any V c w3.heap.size A len cap 4 [0, 4, 5, -1] rfl (by omega) (by omega) hlen SV.out.cur (by omega) P).mono ?_
    rintro e w4 ⟨v, hv, rfl, hc3, g3⟩
    have S3 := Lib.hid (SV.out.draw hc3 g3)
    clear hc3 g3 bV P hV hv SV hcu S2
    have x2 : w4.cell? ⟨x, 2, none⟩ = some (.int .i64 cp) := by rw [S3.out.kx.cell]; rfl
    have xf2 := S3.out.kx.frozen 2
    go_upto_region 17 with fail
    clear x2 xf2
    generalize hV : w4.setCell _ _ = V4
    have S5 := Lib.hid (show GdSt w V4 c A len cap w.heap.size x (some ⟨g, 0, none⟩) n c1 wk v vs by rw [← hV]; exact S3.out.put2 v)
    clear hV S3
    have x0 : V4.cell? ⟨x, 0, none⟩ = some (.slice (some ⟨g, 0, none⟩) n c1) := by rw [S5.out.kx.cell]; rfl
    have x1 : V4.cell? ⟨x, 1, none⟩ = some (.int .i64 wk) := by rw [S5.out.kx.cell]; rfl
    have x2 : V4.cell? ⟨x, 2, none⟩ = some (.int .i64 v) := by rw [S5.out.kx.cell]; rfl
    have y0 : V4.cell? ⟨w.heap.size, 0, none⟩ = some (.slice none 0 0) := by rw [S5.out.kr.cell]; rfl
    have yf0 := S5.out.kr.frozen 0
    have y1 : V4.cell? ⟨w.heap.size, 1, none⟩ = some (.int .i64 0) := by rw [S5.out.kr.cell]; rfl
    have yf1 := S5.out.kr.frozen 1
    have y2 : V4.cell? ⟨w.heap.size, 2, none⟩ = some (.int .i64 0) := by rw [S5.out.kr.cell]; rfl
    have yf2 := S5.out.kr.frozen 2
    go_wp2_with fail
    generalize hWf : ((V4.setCell _ _).setCell _ _).setCell _ _ = Wf
    obtain ⟨kf, of, jf, cf, gf⟩ := S5.out.fin hWf
    obtain ⟨gs, hgl, hgo, hgn⟩ := ndsF_of of S5.out.vl jf
    have e0 : Wf.cell? ⟨w.heap.size, 0, none⟩ = some (.slice (some ⟨g, 0, none⟩) n c1) := by rw [kf.cell]; rfl
    have e1 : Wf.cell? ⟨w.heap.size, 1, none⟩ = some (.int .i64 wk) := by rw [kf.cell]; rfl
    have e2 : Wf.cell? ⟨w.heap.size, 2, none⟩ = some (.int .i64 v) := by rw [kf.cell]; rfl
    exact bodyPost_ret (v := .agg #[.slice (some ⟨g, 0, none⟩) n c1, .int .i64 wk, .int .i64 v]) (by simp [results, Try.results53, go_sem, e0, e1, e2]) rfl ⟨(some ⟨g, 0, none⟩), n, c1, wk, v, gs, by omega, hgl, hgo, rfl, hgn, cf, gf⟩
  have d2 : ((t : Int) == 2) = false := by simp; omega
  by_cases t3 : t = 3
  · subst t3
    obtain ⟨⟨q0, q1, q2, A2, m, c2⟩, hv⟩ : ∃ v, vs[k] = v := ⟨_, rfl⟩
    have hm2 : m ≤ 2 := by have := H2.out vs[k] (List.getElem_mem kv); rw [hv] at this; exact this
    have HV := Lib.hid hv
    clear hv
    go_wp2_with fail
    obtain ⟨w4, hw4⟩ : ∃ z, w3.drew = z := ⟨_, rfl⟩
    have S4 := Lib.hid (show GdSt w w4 c A len cap w.heap.size x (some ⟨g, 0, none⟩) n c1 wk cp vs by rw [← hw4]; exact S2.out.drew)
    refine wp_region_held_drew (S := (fun W' => W'.cell? ⟨x, 0, none⟩ = some (.slice (some ⟨g, 0, none⟩) n c1))) (by kernel_rfl) ?_ (fun hHeld => ?_)
    · rw [hw4]; (show _ = _; rw [S4.out.kx.cell]; rfl)
    change wpAnyH _ _ opsG11 _ _ 17 (#[false, false, false, false, false, false, false, false, false, false, false, false, false, false, false, false, false] : Array Bool) _ _
    rw [hw4] at hHeld ⊢
    clear hw4 S2
    refine regY tG11_e_0 (.pointer (some ⟨x, 0, none⟩)) (fun W hSw => by unfold qG11_0; go_simp) hHeld ?_
    try simp only [pt, List.set]
    refine regY tG11_0_1 (.slice (some ⟨g, 0, none⟩) n c1) (fun W hSw => by unfold qG11_1; have h5 : W.cell? ⟨x, 0, none⟩ = some (.slice (some ⟨g, 0, none⟩) n c1) := hSw; go_simp) hHeld ?_
    try simp only [pt, List.set]
    refine regY tG11_01_2 (.int .i64 (k : Int)) (fun W hSw => by unfold qG11_2; go_simp) hHeld ?_
    try simp only [pt, List.set]
    refine regY tG11_012_3 (.pointer (some ⟨x, 0, none⟩)) (fun W hSw => by unfold qG11_3; go_simp) hHeld ?_
    try simp only [pt, List.set]
    refine regY tG11_0123_4 (.slice (some ⟨g, 0, none⟩) n c1) (fun W hSw => by unfold qG11_4; have h5 : W.cell? ⟨x, 0, none⟩ = some (.slice (some ⟨g, 0, none⟩) n c1) := hSw; go_simp) hHeld ?_
    try simp only [pt, List.set]
    refine regY tG11_01234_5 (.int .i64 (k : Int)) (fun W hSw => by unfold qG11_5; go_simp) hHeld ?_
    try simp only [pt, List.set]
    refine regY tG11_012345_6 (.pointer (some ⟨g, k * 4, none⟩)) (fun W hSw => by unfold qG11_6; go_simp) hHeld ?_
    try simp only [pt, List.set]
    refine regY tG11_0123456_7 (.pointer (some ⟨g, k * 4 + 3, none⟩)) (fun W hSw => by unfold qG11_7; go_simp) hHeld ?_
    try simp only [pt, List.set]
    refine regY tG11_01234567_9 (.pointer (some ⟨c, 0, none⟩)) (fun W hSw => by unfold qG11_9; go_simp) hHeld ?_
    try simp only [pt, List.set]
    refine cG11_012345679_8_10 (fun K hK => ?_) (fun K hK => ?_)
    · rw [if_pos (by rfl)]
      unfold qG11_8
      have l3 : w4.cell? ⟨g, k * 4 + 3, none⟩ = some (.slice A2 m c2) := by have e3 := (nvCells_at vs k kv).2.2.2; rw [HV.out] at e3; rw [S4.out.row.cellAt (k * 4 + 3) (by omega)]; exact e3
      go_simp
      clear l3
      refine Shut.out hK _ _ ?_ (fun hHeld => ?_)
      · exact hHeld
      clear hK K
      try simp only [pt, List.set]
      refine cG11_0123456789__10 (fun K hK => ?_)
      rw [if_pos (by rfl)]
      unfold qG11_10
      go_simp
      refine (below_any 9 (by omega) (by omega) w4 c A len cap hlen S4.out.cur).mono ?_
      rintro e v1 ⟨y2, hy2, rfl, hcn, gn⟩
      have Tv1 := Lib.hid (S4.out.draw hcn gn)
      clear hcn gn
      obtain ⟨p, hp⟩ : ∃ p : Int, (y2 : Int) - 1 = p := ⟨_, rfl⟩
      have mp : IntKind.i64.wrap p = p := IntWalk.i64_in _ (by omega)
      refine Shut.out hK _ _ ?_ (fun hHeld => ?_)
      · (show _ = _; rw [Tv1.out.kx.cell]; rfl)
      clear hK K
      try simp only [pt, List.set]
      refine regY tG11_0123456789_10_11 (.int .i64 p) (fun W hSw => by unfold qG11_11; go_simp) hHeld ?_
      try simp only [pt, List.set]
      refine cG11_0123456789_10_11__12 (fun K hK => ?_)
      rw [if_pos (by rfl)]
      unfold qG11_12
      go_simp
      generalize hV : World.alloc _ _ = v2
      have hbv : Below v1.heap.size v1 v2 := by rw [← hV]; exact (Below.refl _ _).alloc (Nat.le_refl _) _
      have NB := Lib.hid (show Blk v2 v1.heap.size 3 #[.int .i64 p] by rw [← hV]; exact Blk.new _ _ _)
      have Tv2 := Lib.hid (Tv1.out.fresh hbv)
      clear hbv hV
      refine Shut.out hK _ _ ?_ (fun hHeld => ?_)
      · (show _ = _; rw [Tv2.out.kx.cell]; rfl)
      clear hK K
      try simp only [pt, List.set]
      refine cG11_0123456789_10_11_12__13 (fun K hK => ?_)
      obtain ⟨_, zs, hzl, hzo⟩ := Tv2.out.inn vs[k] (List.getElem_mem kv)
      rw [HV.out] at hzl hzo
      have HZL := Lib.hid hzl
      have ZO := Lib.hid (show v2.ownsRow w.heap.size 3 1 (.slice A2 m c2) m (isCells zs) from hzo)
      clear hzl hzo
      refine step_append_lies _ (by rfl) _ _ 44 (by rfl) w.heap.size 3 i0 (.int .i64 0) 1 8 Try.underlying44 hi hz0 hz1 hz2 rfl (by decide) _ m _ (by rfl) ZO.out ⟨v1.heap.size, 0, none⟩ 1 1 [.int .i64 p] (by rfl) rfl (World.news_of_block NB.out) (by simp [Value.oneCell']) (by decide) (by unfold maxLen; omega) (by omega) Tv2.out.gr.size _ rfl ?_
      intro g4 cap4 v3 OA GA _ _
      have OA := Lib.hid OA
      have GA := Lib.hid (show v2.grownBy v3 (ob vs[k]) by rw [HV.out]; exact GA)
      have AR := Lib.hid (Tv2.out.appRow kv GA.out)
      refine Shut.out hK _ _ ?_ (fun hHeld => ?_)
      · (show _ = _; rw [AR.out.2.cell]; rfl)
      clear hK K
      simp only [qG11_13, Act.put, List.setIfInBounds_toArray, List.set_cons_zero, List.set_cons_succ]
      refine regY tG11_0123456789_10_11_12_13_14 (.pointer (some ⟨g, k * 4, none⟩)) (fun W hSw => by unfold qG11_14; go_simp) hHeld ?_
      try simp only [pt, List.set]
      refine regY tG11_0123456789_10_11_12_13_14_15 (.pointer (some ⟨g, k * 4 + 3, none⟩)) (fun W hSw => by unfold qG11_15; go_simp) hHeld ?_
      try simp only [pt, List.set]
      refine cG11_0123456789_10_11_12_13_14_15__16 (fun K hK => ?_)
      rw [if_pos (by rfl)]
      unfold qG11_16
      obtain ⟨vn3, n3⟩ : ∃ u, v3.cell? ⟨g, k * 4 + 3, none⟩ = some u := ⟨_, by rw [AR.out.1.cellAt (k * 4 + 3) (by omega)]; exact List.getElem?_eq_getElem (by rw [AR.out.1.1]; omega)⟩
      have fn3 := AR.out.1.frozenAt (k * 4 + 3)
      go_simp
      clear n3 fn3
      generalize hV : v3.setCell _ _ = v4
      have Tv4 := Lib.hid (show GdSt w v4 c A len cap w.heap.size x (some ⟨g, 0, none⟩) n c1 wk cp (vs.set k (vs[k].1, vs[k].2.1, vs[k].2.2.1, some ⟨g4, 0, none⟩, m + 1, cap4)) by rw [← hV]; exact Tv2.out.appOuts ND.out kv GA.out (m := m + 1) (ys := zs ++ [p]) (by omega) (by simp [HZL.out]) (by have q := OA.out; have e : isCells (zs ++ [p]) = isCells zs ++ [.int .i64 p] := (by simp [isCells]); rw [e]; exact q))
      clear hV OA GA AR NB
      refine Shut.out hK _ _ ?_ (fun hHeld => ?_)
      · (show _ = _; rw [Tv4.out.kx.cell]; rfl)
      clear hK K
      try simp only [pn]
      refine wpAnyH_done (by kernel_rfl) ?_ _
      clear hHeld
      go_upto_region 17 with fail
      have x0 : v4.cell? ⟨x, 0, none⟩ = some (.slice (some ⟨g, 0, none⟩) n c1) := by rw [Tv4.out.kx.cell]; rfl
      have x1 : v4.cell? ⟨x, 1, none⟩ = some (.int .i64 wk) := by rw [Tv4.out.kx.cell]; rfl
      have x2 : v4.cell? ⟨x, 2, none⟩ = some (.int .i64 cp) := by rw [Tv4.out.kx.cell]; rfl
      have y0 : v4.cell? ⟨w.heap.size, 0, none⟩ = some (.slice none 0 0) := by rw [Tv4.out.kr.cell]; rfl
      have yf0 := Tv4.out.kr.frozen 0
      have y1 : v4.cell? ⟨w.heap.size, 1, none⟩ = some (.int .i64 0) := by rw [Tv4.out.kr.cell]; rfl
      have yf1 := Tv4.out.kr.frozen 1
      have y2 : v4.cell? ⟨w.heap.size, 2, none⟩ = some (.int .i64 0) := by rw [Tv4.out.kr.cell]; rfl
      have yf2 := Tv4.out.kr.frozen 2
      go_wp2_with fail
      generalize hWf : ((v4.setCell _ _).setCell _ _).setCell _ _ = Wf
      obtain ⟨kf, of, jf, cf, gf⟩ := Tv4.out.fin hWf
      obtain ⟨gs, hgl, hgo, hgn⟩ := ndsF_of of Tv4.out.vl jf
      have e0 : Wf.cell? ⟨w.heap.size, 0, none⟩ = some (.slice (some ⟨g, 0, none⟩) n c1) := by rw [kf.cell]; rfl
      have e1 : Wf.cell? ⟨w.heap.size, 1, none⟩ = some (.int .i64 wk) := by rw [kf.cell]; rfl
      have e2 : Wf.cell? ⟨w.heap.size, 2, none⟩ = some (.int .i64 cp) := by rw [kf.cell]; rfl
      exact bodyPost_ret (v := .agg #[.slice (some ⟨g, 0, none⟩) n c1, .int .i64 wk, .int .i64 cp]) (by simp [results, Try.results53, go_sem, e0, e1, e2]) rfl ⟨(some ⟨g, 0, none⟩), n, c1, wk, cp, gs, by omega, hgl, hgo, rfl, hgn, cf, gf⟩
    · rw [if_pos (by rfl)]
      unfold qG11_10
      go_simp
      refine (below_any 9 (by omega) (by omega) w4 c A len cap hlen S4.out.cur).mono ?_
      rintro e v5 ⟨y2, hy2, rfl, hcn, gn⟩
      have Tv5 := Lib.hid (S4.out.draw hcn gn)
      clear hcn gn
      obtain ⟨p, hp⟩ : ∃ p : Int, (y2 : Int) - 1 = p := ⟨_, rfl⟩
      have mp : IntKind.i64.wrap p = p := IntWalk.i64_in _ (by omega)
      refine Shut.out hK _ _ ?_ (fun hHeld => ?_)
      · (show _ = _; rw [Tv5.out.kx.cell]; rfl)
      clear hK K
      try simp only [pt, List.set]
      refine regY tG11_012345679_10_11 (.int .i64 p) (fun W hSw => by unfold qG11_11; go_simp) hHeld ?_
      try simp only [pt, List.set]
      refine cG11_012345679_10_11_8_12 (fun K hK => ?_) (fun K hK => ?_)
      · rw [if_pos (by rfl)]
        unfold qG11_8
        have l3 : v5.cell? ⟨g, k * 4 + 3, none⟩ = some (.slice A2 m c2) := by have e3 := (nvCells_at vs k kv).2.2.2; rw [HV.out] at e3; rw [Tv5.out.row.cellAt (k * 4 + 3) (by omega)]; exact e3
        go_simp
        clear l3
        refine Shut.out hK _ _ ?_ (fun hHeld => ?_)
        · exact hHeld
        clear hK K
        try simp only [pt, List.set]
        refine cG11_0123456789_10_11__12 (fun K hK => ?_)
        rw [if_pos (by rfl)]
        unfold qG11_12
        go_simp
        generalize hV : World.alloc _ _ = v6
        have hbv : Below v5.heap.size v5 v6 := by rw [← hV]; exact (Below.refl _ _).alloc (Nat.le_refl _) _
        have NB := Lib.hid (show Blk v6 v5.heap.size 3 #[.int .i64 p] by rw [← hV]; exact Blk.new _ _ _)
        have Tv6 := Lib.hid (Tv5.out.fresh hbv)
        clear hbv hV
        refine Shut.out hK _ _ ?_ (fun hHeld => ?_)
        · (show _ = _; rw [Tv6.out.kx.cell]; rfl)
        clear hK K
        try simp only [pt, List.set]
        refine cG11_0123456789_10_11_12__13 (fun K hK => ?_)
        obtain ⟨_, zs, hzl, hzo⟩ := Tv6.out.inn vs[k] (List.getElem_mem kv)
        rw [HV.out] at hzl hzo
        have HZL := Lib.hid hzl
        have ZO := Lib.hid (show v6.ownsRow w.heap.size 3 1 (.slice A2 m c2) m (isCells zs) from hzo)
        clear hzl hzo
        refine step_append_lies _ (by rfl) _ _ 44 (by rfl) w.heap.size 3 i0 (.int .i64 0) 1 8 Try.underlying44 hi hz0 hz1 hz2 rfl (by decide) _ m _ (by rfl) ZO.out ⟨v5.heap.size, 0, none⟩ 1 1 [.int .i64 p] (by rfl) rfl (World.news_of_block NB.out) (by simp [Value.oneCell']) (by decide) (by unfold maxLen; omega) (by omega) Tv6.out.gr.size _ rfl ?_
        intro g4 cap4 v7 OA GA _ _
        have OA := Lib.hid OA
        have GA := Lib.hid (show v6.grownBy v7 (ob vs[k]) by rw [HV.out]; exact GA)
        have AR := Lib.hid (Tv6.out.appRow kv GA.out)
        refine Shut.out hK _ _ ?_ (fun hHeld => ?_)
        · (show _ = _; rw [AR.out.2.cell]; rfl)
        clear hK K
        simp only [qG11_13, Act.put, List.setIfInBounds_toArray, List.set_cons_zero, List.set_cons_succ]
        refine regY tG11_0123456789_10_11_12_13_14 (.pointer (some ⟨g, k * 4, none⟩)) (fun W hSw => by unfold qG11_14; go_simp) hHeld ?_
        try simp only [pt, List.set]
        refine regY tG11_0123456789_10_11_12_13_14_15 (.pointer (some ⟨g, k * 4 + 3, none⟩)) (fun W hSw => by unfold qG11_15; go_simp) hHeld ?_
        try simp only [pt, List.set]
        refine cG11_0123456789_10_11_12_13_14_15__16 (fun K hK => ?_)
        rw [if_pos (by rfl)]
        unfold qG11_16
        obtain ⟨vn3, n3⟩ : ∃ u, v7.cell? ⟨g, k * 4 + 3, none⟩ = some u := ⟨_, by rw [AR.out.1.cellAt (k * 4 + 3) (by omega)]; exact List.getElem?_eq_getElem (by rw [AR.out.1.1]; omega)⟩
        have fn3 := AR.out.1.frozenAt (k * 4 + 3)
        go_simp
        clear n3 fn3
        generalize hV : v7.setCell _ _ = v8
        have Tv8 := Lib.hid (show GdSt w v8 c A len cap w.heap.size x (some ⟨g, 0, none⟩) n c1 wk cp (vs.set k (vs[k].1, vs[k].2.1, vs[k].2.2.1, some ⟨g4, 0, none⟩, m + 1, cap4)) by rw [← hV]; exact Tv6.out.appOuts ND.out kv GA.out (m := m + 1) (ys := zs ++ [p]) (by omega) (by simp [HZL.out]) (by have q := OA.out; have e : isCells (zs ++ [p]) = isCells zs ++ [.int .i64 p] := (by simp [isCells]); rw [e]; exact q))
        clear hV OA GA AR NB
        refine Shut.out hK _ _ ?_ (fun hHeld => ?_)
        · (show _ = _; rw [Tv8.out.kx.cell]; rfl)
        clear hK K
        try simp only [pn]
        refine wpAnyH_done (by kernel_rfl) ?_ _
        clear hHeld
        go_upto_region 17 with fail
        have x0 : v8.cell? ⟨x, 0, none⟩ = some (.slice (some ⟨g, 0, none⟩) n c1) := by rw [Tv8.out.kx.cell]; rfl
        have x1 : v8.cell? ⟨x, 1, none⟩ = some (.int .i64 wk) := by rw [Tv8.out.kx.cell]; rfl
        have x2 : v8.cell? ⟨x, 2, none⟩ = some (.int .i64 cp) := by rw [Tv8.out.kx.cell]; rfl
        have y0 : v8.cell? ⟨w.heap.size, 0, none⟩ = some (.slice none 0 0) := by rw [Tv8.out.kr.cell]; rfl
        have yf0 := Tv8.out.kr.frozen 0
        have y1 : v8.cell? ⟨w.heap.size, 1, none⟩ = some (.int .i64 0) := by rw [Tv8.out.kr.cell]; rfl
        have yf1 := Tv8.out.kr.frozen 1
        have y2 : v8.cell? ⟨w.heap.size, 2, none⟩ = some (.int .i64 0) := by rw [Tv8.out.kr.cell]; rfl
        have yf2 := Tv8.out.kr.frozen 2
        go_wp2_with fail
        generalize hWf : ((v8.setCell _ _).setCell _ _).setCell _ _ = Wf
        obtain ⟨kf, of, jf, cf, gf⟩ := Tv8.out.fin hWf
        obtain ⟨gs, hgl, hgo, hgn⟩ := ndsF_of of Tv8.out.vl jf
        have e0 : Wf.cell? ⟨w.heap.size, 0, none⟩ = some (.slice (some ⟨g, 0, none⟩) n c1) := by rw [kf.cell]; rfl
        have e1 : Wf.cell? ⟨w.heap.size, 1, none⟩ = some (.int .i64 wk) := by rw [kf.cell]; rfl
        have e2 : Wf.cell? ⟨w.heap.size, 2, none⟩ = some (.int .i64 cp) := by rw [kf.cell]; rfl
        exact bodyPost_ret (v := .agg #[.slice (some ⟨g, 0, none⟩) n c1, .int .i64 wk, .int .i64 cp]) (by simp [results, Try.results53, go_sem, e0, e1, e2]) rfl ⟨(some ⟨g, 0, none⟩), n, c1, wk, cp, gs, by omega, hgl, hgo, rfl, hgn, cf, gf⟩
      · rw [if_pos (by rfl)]
        unfold qG11_12
        go_simp
        generalize hV : World.alloc _ _ = v9
        have hbv : Below v5.heap.size v5 v9 := by rw [← hV]; exact (Below.refl _ _).alloc (Nat.le_refl _) _
        have NB := Lib.hid (show Blk v9 v5.heap.size 3 #[.int .i64 p] by rw [← hV]; exact Blk.new _ _ _)
        have Tv9 := Lib.hid (Tv5.out.fresh hbv)
        clear hbv hV
        refine Shut.out hK _ _ ?_ (fun hHeld => ?_)
        · (show _ = _; rw [Tv9.out.kx.cell]; rfl)
        clear hK K
        try simp only [pt, List.set]
        refine cG11_012345679_10_11_12_8 (fun K hK => ?_)
        rw [if_pos (by rfl)]
        unfold qG11_8
        have l3 : v9.cell? ⟨g, k * 4 + 3, none⟩ = some (.slice A2 m c2) := by have e3 := (nvCells_at vs k kv).2.2.2; rw [HV.out] at e3; rw [Tv9.out.row.cellAt (k * 4 + 3) (by omega)]; exact e3
        go_simp
        clear l3
        refine Shut.out hK _ _ ?_ (fun hHeld => ?_)
        · exact hHeld
        clear hK K
        try simp only [pt, List.set]
        refine cG11_0123456789_10_11_12__13 (fun K hK => ?_)
        obtain ⟨_, zs, hzl, hzo⟩ := Tv9.out.inn vs[k] (List.getElem_mem kv)
        rw [HV.out] at hzl hzo
        have HZL := Lib.hid hzl
        have ZO := Lib.hid (show v9.ownsRow w.heap.size 3 1 (.slice A2 m c2) m (isCells zs) from hzo)
        clear hzl hzo
        refine step_append_lies _ (by rfl) _ _ 44 (by rfl) w.heap.size 3 i0 (.int .i64 0) 1 8 Try.underlying44 hi hz0 hz1 hz2 rfl (by decide) _ m _ (by rfl) ZO.out ⟨v5.heap.size, 0, none⟩ 1 1 [.int .i64 p] (by rfl) rfl (World.news_of_block NB.out) (by simp [Value.oneCell']) (by decide) (by unfold maxLen; omega) (by omega) Tv9.out.gr.size _ rfl ?_
        intro g4 cap4 v10 OA GA _ _
        have OA := Lib.hid OA
        have GA := Lib.hid (show v9.grownBy v10 (ob vs[k]) by rw [HV.out]; exact GA)
        have AR := Lib.hid (Tv9.out.appRow kv GA.out)
        refine Shut.out hK _ _ ?_ (fun hHeld => ?_)
        · (show _ = _; rw [AR.out.2.cell]; rfl)
        clear hK K
        simp only [qG11_13, Act.put, List.setIfInBounds_toArray, List.set_cons_zero, List.set_cons_succ]
        refine regY tG11_0123456789_10_11_12_13_14 (.pointer (some ⟨g, k * 4, none⟩)) (fun W hSw => by unfold qG11_14; go_simp) hHeld ?_
        try simp only [pt, List.set]
        refine regY tG11_0123456789_10_11_12_13_14_15 (.pointer (some ⟨g, k * 4 + 3, none⟩)) (fun W hSw => by unfold qG11_15; go_simp) hHeld ?_
        try simp only [pt, List.set]
        refine cG11_0123456789_10_11_12_13_14_15__16 (fun K hK => ?_)
        rw [if_pos (by rfl)]
        unfold qG11_16
        obtain ⟨vn3, n3⟩ : ∃ u, v10.cell? ⟨g, k * 4 + 3, none⟩ = some u := ⟨_, by rw [AR.out.1.cellAt (k * 4 + 3) (by omega)]; exact List.getElem?_eq_getElem (by rw [AR.out.1.1]; omega)⟩
        have fn3 := AR.out.1.frozenAt (k * 4 + 3)
        go_simp
        clear n3 fn3
        generalize hV : v10.setCell _ _ = v11
        have Tv11 := Lib.hid (show GdSt w v11 c A len cap w.heap.size x (some ⟨g, 0, none⟩) n c1 wk cp (vs.set k (vs[k].1, vs[k].2.1, vs[k].2.2.1, some ⟨g4, 0, none⟩, m + 1, cap4)) by rw [← hV]; exact Tv9.out.appOuts ND.out kv GA.out (m := m + 1) (ys := zs ++ [p]) (by omega) (by simp [HZL.out]) (by have q := OA.out; have e : isCells (zs ++ [p]) = isCells zs ++ [.int .i64 p] := (by simp [isCells]); rw [e]; exact q))
        clear hV OA GA AR NB
        refine Shut.out hK _ _ ?_ (fun hHeld => ?_)
        · (show _ = _; rw [Tv11.out.kx.cell]; rfl)
        clear hK K
        try simp only [pn]
        refine wpAnyH_done (by kernel_rfl) ?_ _
        clear hHeld
        go_upto_region 17 with fail
        have x0 : v11.cell? ⟨x, 0, none⟩ = some (.slice (some ⟨g, 0, none⟩) n c1) := by rw [Tv11.out.kx.cell]; rfl
        have x1 : v11.cell? ⟨x, 1, none⟩ = some (.int .i64 wk) := by rw [Tv11.out.kx.cell]; rfl
        have x2 : v11.cell? ⟨x, 2, none⟩ = some (.int .i64 cp) := by rw [Tv11.out.kx.cell]; rfl
        have y0 : v11.cell? ⟨w.heap.size, 0, none⟩ = some (.slice none 0 0) := by rw [Tv11.out.kr.cell]; rfl
        have yf0 := Tv11.out.kr.frozen 0
        have y1 : v11.cell? ⟨w.heap.size, 1, none⟩ = some (.int .i64 0) := by rw [Tv11.out.kr.cell]; rfl
        have yf1 := Tv11.out.kr.frozen 1
        have y2 : v11.cell? ⟨w.heap.size, 2, none⟩ = some (.int .i64 0) := by rw [Tv11.out.kr.cell]; rfl
        have yf2 := Tv11.out.kr.frozen 2
        go_wp2_with fail
        generalize hWf : ((v11.setCell _ _).setCell _ _).setCell _ _ = Wf
        obtain ⟨kf, of, jf, cf, gf⟩ := Tv11.out.fin hWf
        obtain ⟨gs, hgl, hgo, hgn⟩ := ndsF_of of Tv11.out.vl jf
        have e0 : Wf.cell? ⟨w.heap.size, 0, none⟩ = some (.slice (some ⟨g, 0, none⟩) n c1) := by rw [kf.cell]; rfl
        have e1 : Wf.cell? ⟨w.heap.size, 1, none⟩ = some (.int .i64 wk) := by rw [kf.cell]; rfl
        have e2 : Wf.cell? ⟨w.heap.size, 2, none⟩ = some (.int .i64 cp) := by rw [kf.cell]; rfl
        exact bodyPost_ret (v := .agg #[.slice (some ⟨g, 0, none⟩) n c1, .int .i64 wk, .int .i64 cp]) (by simp [results, Try.results53, go_sem, e0, e1, e2]) rfl ⟨(some ⟨g, 0, none⟩), n, c1, wk, cp, gs, by omega, hgl, hgo, rfl, hgn, cf, gf⟩
  have d3 : ((t : Int) == 3) = false := by simp; omega
  by_cases t4 : t = 4
  · subst t4
    clear k0 k1 kv hk ND H2 VL
    go_wp2
    go_loopw [] (fun wr => ∃ (n : Nat) (A1 : Option Addr) (c1 : Nat) (vs : List Nv), 6 ≤ n ∧ n ≤ 9 ∧ GdSt w wr c A len cap w.heap.size x A1 n c1 wk cp vs) (fun wr => 9 - slLen (wr.cell? ⟨x, 0, none⟩))
    case atStart => exact ⟨n, _, c1, vs, h6, by omega, S2.out⟩
    case round =>
      obtain ⟨n, A1, c1, vs, h6, h9, hS⟩ := hrel
      have SR := Lib.hid hS
      obtain ⟨A1', c1', he, hf⟩ := own_form hS.row
      simp only [Value.slice.injEq, true_and] at he
      obtain ⟨rfl, rfl⟩ := he
      obtain ⟨g, rfl⟩ := hf (by omega)
      clear hS hf S2
      go_wp2_with fail
      obtain ⟨w4, hw4⟩ : ∃ z, wr.drew = z := ⟨_, rfl⟩
      have S4 := Lib.hid (show GdSt w w4 c A len cap w.heap.size x (some ⟨g, 0, none⟩) n c1 wk cp vs by rw [← hw4]; exact SR.out.drew)
      refine wp_region_held_drew (S := (fun W' => W'.cell? ⟨x, 0, none⟩ = some (.slice (some ⟨g, 0, none⟩) n c1))) (by kernel_rfl) ?_ (fun hHeld => ?_)
      · rw [hw4]; (show _ = _; rw [S4.out.kx.cell]; rfl)
      change wpAnyH _ _ opsG13 _ _ 7 (#[false, false, false, false, false, false, false] : Array Bool) _ _
      rw [hw4] at hHeld ⊢
      clear hw4
      refine regY tG13_e_0 (.pointer (some ⟨x, 0, none⟩)) (fun W hSw => by unfold qG13_0; go_simp) hHeld ?_
      try simp only [pt, List.set]
      refine regY tG13_0_1 (.slice (some ⟨g, 0, none⟩) n c1) (fun W hSw => by unfold qG13_1; have h5 : W.cell? ⟨x, 0, none⟩ = some (.slice (some ⟨g, 0, none⟩) n c1) := hSw; go_simp) hHeld ?_
      try simp only [pt, List.set]
      refine regY tG13_01_2 (.int .i64 (n : Int)) (fun W hSw => by unfold qG13_2; go_simp) hHeld ?_
      try simp only [pt, List.set]
      refine regY tG13_012_3 (.pointer (some ⟨c, 0, none⟩)) (fun W hSw => by unfold qG13_3; go_simp) hHeld ?_
      try simp only [pt, List.set]
      refine cG13_0123_4 (fun K hK => ?_)
      rw [if_pos (by rfl)]
      unfold qG13_4
      go_simp
      refine (below_any 2 (by omega) (by omega) w4 c A len cap hlen S4.out.cur).mono ?_
      rintro e v1 ⟨y2, hy2, rfl, hcn, gn⟩
      have Tv1 := Lib.hid (S4.out.draw hcn gn)
      clear hcn gn
      obtain ⟨q8, hq8⟩ : ∃ p : Int, 8 + (y2 : Int) = p := ⟨_, rfl⟩
      have mq8 : IntKind.i64.wrap q8 = q8 := IntWalk.i64_in _ (by omega)
      obtain ⟨ql, hql⟩ : ∃ q, decide ((n : Int) < q8) = q := ⟨_, rfl⟩
      refine Shut.out hK _ _ ?_ (fun hHeld => ?_)
      · (show _ = _; rw [Tv1.out.kx.cell]; rfl)
      clear hK K
      try simp only [pt, List.set]
      refine regY tG13_01234_5 (.int .i64 q8) (fun W hSw => by unfold qG13_5; go_simp) hHeld ?_
      try simp only [pt, List.set]
      refine regY tG13_012345_6 (.bool ql) (fun W hSw => by unfold qG13_6; go_simp) hHeld ?_
      try simp only [pt, List.set]
      refine wpAnyH_done (by kernel_rfl) ?_ _
      clear hHeld
      cases ql with
      | false =>
        clear hq8 mq8 hql
        go_upto_region 17 with fail
        have x0 : v1.cell? ⟨x, 0, none⟩ = some (.slice (some ⟨g, 0, none⟩) n c1) := by rw [Tv1.out.kx.cell]; rfl
        have x1 : v1.cell? ⟨x, 1, none⟩ = some (.int .i64 wk) := by rw [Tv1.out.kx.cell]; rfl
        have x2 : v1.cell? ⟨x, 2, none⟩ = some (.int .i64 cp) := by rw [Tv1.out.kx.cell]; rfl
        have y0 : v1.cell? ⟨w.heap.size, 0, none⟩ = some (.slice none 0 0) := by rw [Tv1.out.kr.cell]; rfl
        have yf0 := Tv1.out.kr.frozen 0
        have y1 : v1.cell? ⟨w.heap.size, 1, none⟩ = some (.int .i64 0) := by rw [Tv1.out.kr.cell]; rfl
        have yf1 := Tv1.out.kr.frozen 1
        have y2 : v1.cell? ⟨w.heap.size, 2, none⟩ = some (.int .i64 0) := by rw [Tv1.out.kr.cell]; rfl
        have yf2 := Tv1.out.kr.frozen 2
        go_wp2_with fail
        generalize hWf : ((v1.setCell _ _).setCell _ _).setCell _ _ = Wf
        obtain ⟨kf, of, jf, cf, gf⟩ := Tv1.out.fin hWf
        obtain ⟨gs, hgl, hgo, hgn⟩ := ndsF_of of Tv1.out.vl jf
        have e0 : Wf.cell? ⟨w.heap.size, 0, none⟩ = some (.slice (some ⟨g, 0, none⟩) n c1) := by rw [kf.cell]; rfl
        have e1 : Wf.cell? ⟨w.heap.size, 1, none⟩ = some (.int .i64 wk) := by rw [kf.cell]; rfl
        have e2 : Wf.cell? ⟨w.heap.size, 2, none⟩ = some (.int .i64 cp) := by rw [kf.cell]; rfl
        exact bodyPost_ret (v := .agg #[.slice (some ⟨g, 0, none⟩) n c1, .int .i64 wk, .int .i64 cp]) (by simp [results, Try.results53, go_sem, e0, e1, e2]) rfl ⟨(some ⟨g, 0, none⟩), n, c1, wk, cp, gs, by omega, hgl, hgo, rfl, hgn, cf, gf⟩
      | true =>
        have hn8 : n ≤ 8 := by have := of_decide_eq_true hql; omega
        clear hq8 mq8 hql
        obtain ⟨U2, hU⟩ : ∃ z, v1.alloc (.cells #[.int .i64 8, .int .i64 0, .int .i64 0, .slice none 0 0] 46) = z := ⟨_, rfl⟩
        have bU : Below v1.heap.size v1 U2 := by rw [← hU]; exact (Below.refl _ _).alloc (Nat.le_refl _) _
        have KU := Lib.hid (show Blk U2 v1.heap.size 46 (nvCells [(8, 0, 0, none, 0, 0)]).toArray by rw [← hU]; exact Blk.new _ _ _)
        have SU := Lib.hid (Tv1.out.fresh bU)
        have sU := bU.size
        have gU := SU.out.gr.size
        have x0 : v1.cell? ⟨x, 0, none⟩ = some (.slice (some ⟨g, 0, none⟩) n c1) := by rw [Tv1.out.kx.cell]; rfl
        clear bU
        go_wp2_with (at_builtin; refine wpList_append_nd rfl (.tmp 62) (.tmp 64) (by rfl) w.heap.size _ n vs (by rfl) SU.out.row v1.heap.size (8, 0, 0, none, 0, 0) (by rfl) KU.out (by omega) gU ?_; intro v8 w16 own8 gr8; generalize hG : wpList _ _ _ _ _ _ = G)
        obtain ⟨A7, c7, rfl, S2⟩ := SU.out.app own8 gr8 (inn_nil _ _ _ _ _)
        have kx8 := SU.out.kx.grown gr8 (Ne.symm (own_type SU.out.row SU.out.kx (by decide)))
        have z0 : w16.cell? ⟨x, 0, none⟩ = some (.slice (some ⟨g, 0, none⟩) n c1) := by rw [kx8.cell]; rfl
        have zf0 := kx8.frozen 0
        have S3 := Lib.hid S2
        clear own8 gr8 kx8 S2 SU x0 hU Tv1
        subst hG
        go_wp2
        have xn := S3.out.kx.cell 0
        have x9 : slLen (wr.cell? ⟨x, 0, none⟩) = n := by rw [SR.out.kx.cell]; rfl
        go_roundw
        case rel => exact ⟨n + 1, A7, c7, _, by omega, by omega, S3.out⟩
        case measure => (rw [x9, xn]; simp [slLen]; omega)
  have d4 : ((t : Int) == 4) = false := by simp; omega
  by_cases t5 : t = 5
  · subst t5
    have x0 : w3.cell? ⟨x, 0, none⟩ = some (.slice (some ⟨g, 0, none⟩) n c1) := by rw [S2.out.kx.cell]; rfl
    have xf0 := S2.out.kx.frozen 0
    have x1 : w3.cell? ⟨x, 1, none⟩ = some (.int .i64 wk) := by rw [S2.out.kx.cell]; rfl
    have x2 : w3.cell? ⟨x, 2, none⟩ = some (.int .i64 cp) := by rw [S2.out.kx.cell]; rfl
    have hcap : n ≤ c1 := own_cap S2.out.row
    have kc : (k : Int) ≤ (c1 : Int) := by omega
    go_upto_region 17 with fail
    clear x0 x1 x2 xf0
    obtain ⟨hcs, hgs, hks, hrs, his⟩ := S2.out.store 0 (.slice (some ⟨g, 0, none⟩) k c1)
    have kxs := S2.out.kx.put 0 (.slice (some ⟨g, 0, none⟩) k c1)
    generalize hV : w3.setCell _ _ = V at hcs hgs hks hrs his kxs ⊢
    have x0 : V.cell? ⟨x, 0, none⟩ = some (.slice (some ⟨g, 0, none⟩) k c1) := by rw [kxs.cell]; rfl
    have x1 : V.cell? ⟨x, 1, none⟩ = some (.int .i64 wk) := by rw [kxs.cell]; rfl
    have x2 : V.cell? ⟨x, 2, none⟩ = some (.int .i64 cp) := by rw [kxs.cell]; rfl
    have y0 : V.cell? ⟨w.heap.size, 0, none⟩ = some (.slice none 0 0) := by rw [hks.cell]; rfl
    have yf0 := hks.frozen 0
    have y1 : V.cell? ⟨w.heap.size, 1, none⟩ = some (.int .i64 0) := by rw [hks.cell]; rfl
    have yf1 := hks.frozen 1
    have y2 : V.cell? ⟨w.heap.size, 2, none⟩ = some (.int .i64 0) := by rw [hks.cell]; rfl
    have yf2 := hks.frozen 2
    have CS := Lib.hid hcs
    have GS := Lib.hid hgs
    have KS := Lib.hid hks
    have RS := Lib.hid hrs
    have IS := Lib.hid his
    clear hcs hgs hks hrs his kxs hV
    go_wp2_with fail
    generalize hWf : ((V.setCell _ _).setCell _ _).setCell _ _ = Wf
    obtain ⟨kf, of, jf, cf, gf⟩ := gfin HC.out (Nat.le_refl _) CS.out GS.out KS.out RS.out IS.out hWf
    obtain ⟨gs, hgl, hgo, hgn⟩ := ndsF_of of S2.out.vl jf
    have e0 : Wf.cell? ⟨w.heap.size, 0, none⟩ = some (.slice (some ⟨g, 0, none⟩) k c1) := by rw [kf.cell]; rfl
    have e1 : Wf.cell? ⟨w.heap.size, 1, none⟩ = some (.int .i64 wk) := by rw [kf.cell]; rfl
    have e2 : Wf.cell? ⟨w.heap.size, 2, none⟩ = some (.int .i64 cp) := by rw [kf.cell]; rfl
    exact bodyPost_ret (v := .agg #[.slice (some ⟨g, 0, none⟩) k c1, .int .i64 wk, .int .i64 cp]) (by simp [results, Try.results53, go_sem, e0, e1, e2]) rfl ⟨_, k, c1, wk, cp, gs.take k, by omega, by simp; omega, fun x hx => hgo x (List.mem_of_mem_take hx), rfl, hgn.take k, cf, gf⟩
  have d5 : ((t : Int) == 5) = false := by simp; omega
  go_upto_region 17 with fail
  have x0 : w3.cell? ⟨x, 0, none⟩ = some (.slice (some ⟨g, 0, none⟩) n c1) := by rw [S2.out.kx.cell]; rfl
  have x1 : w3.cell? ⟨x, 1, none⟩ = some (.int .i64 wk) := by rw [S2.out.kx.cell]; rfl
  have x2 : w3.cell? ⟨x, 2, none⟩ = some (.int .i64 cp) := by rw [S2.out.kx.cell]; rfl
  have y0 : w3.cell? ⟨w.heap.size, 0, none⟩ = some (.slice none 0 0) := by rw [S2.out.kr.cell]; rfl
  have yf0 := S2.out.kr.frozen 0
  have y1 : w3.cell? ⟨w.heap.size, 1, none⟩ = some (.int .i64 0) := by rw [S2.out.kr.cell]; rfl
  have yf1 := S2.out.kr.frozen 1
  have y2 : w3.cell? ⟨w.heap.size, 2, none⟩ = some (.int .i64 0) := by rw [S2.out.kr.cell]; rfl
  have yf2 := S2.out.kr.frozen 2
  go_wp2_with fail
  generalize hWf : ((w3.setCell _ _).setCell _ _).setCell _ _ = Wf
  obtain ⟨kf, of, jf, cf, gf⟩ := S2.out.fin hWf
  obtain ⟨gs, hgl, hgo, hgn⟩ := ndsF_of of S2.out.vl jf
  have e0 : Wf.cell? ⟨w.heap.size, 0, none⟩ = some (.slice (some ⟨g, 0, none⟩) n c1) := by rw [kf.cell]; rfl
  have e1 : Wf.cell? ⟨w.heap.size, 1, none⟩ = some (.int .i64 wk) := by rw [kf.cell]; rfl
  have e2 : Wf.cell? ⟨w.heap.size, 2, none⟩ = some (.int .i64 cp) := by rw [kf.cell]; rfl
  exact bodyPost_ret (v := .agg #[.slice (some ⟨g, 0, none⟩) n c1, .int .i64 wk, .int .i64 cp]) (by simp [results, Try.results53, go_sem, e0, e1, e2]) rfl ⟨(some ⟨g, 0, none⟩), n, c1, wk, cp, gs, by omega, hgl, hgo, rfl, hgn, cf, gf⟩

end Go.Proofs.Ytbbagpnjjjohpaa.hexes

