/-
  spec.l07Any.
-/
import Derived.Test.YtbbagpnjjjohpaaJ36
import Derived.Test.YtbbagpnjjjohpaaJ37

namespace Go.Proofs.Ytbbagpnjjjohpaa.hexes
open Go.RowKit

set_option maxRecDepth 100000 in
set_option maxHeartbeats 8000000 in
theorem nodeAny_draw (w : World) (c : Nat) (A : Option Addr) (len cap : Nat) (hlen : len ≤ 2097152) (hcur : Cursor w c A len cap) :
    Calls Try.prog 83 #[.pointer (some ⟨c, 0, none⟩)] w (NdEnd 3 w c A len cap) := by
  obtain ⟨i0, hi, hz0, hz1, hz2⟩ := info_parts isinfo
  have hc := hcur.lt
  have HC := Lib.hid hcur
  clear hcur
  go_enter Try.func83, Try.ntmps83
  go_wp2_with fail
  generalize hW : w.alloc _ = W
  have bW : Below w.heap.size w W := by rw [← hW]; exact (Below.refl _ _).alloc (Nat.le_refl _) _
  have r0 : Blk W w.heap.size 46 #[.int .i64 0, .int .i64 0, .int .i64 0, .slice none 0 0] := by rw [← hW]; exact Blk.new _ _ _
  refine (node_draw W c A len cap hlen (HC.out.belowD bW)).mono ?_
  rintro e w1 ⟨k, a, bb, A1, n, c1, zs, jk, ja, jb, jz, hn, hl, rfl, ho, hc1, g1⟩
  have C1 := Lib.hid hc1
  have G1 := Lib.hid (grown_trans (row := some c) (grown_below (grown_refl w (some c)) bW) g1)
  have R1 := Lib.hid (r0.grown g1 (by simp; omega))
  have O1 := Lib.hid (own_base ho bW.size)
  have z1 : w.heap.size < w1.heap.size := R1.out.lt
  have JK := Lib.hid jk
  have JA := Lib.hid ja
  have JB := Lib.hid jb
  have JZ := Lib.hid jz
  have HL := Lib.hid hl
  clear hc1 g1 r0 bW hW ho jk ja jb jz hl
  go_wp2_with fail
  generalize hU : w1.alloc _ = U
  have bU : Below w1.heap.size w1 U := by rw [← hU]; exact (Below.refl _ _).alloc (Nat.le_refl _) _
  have S0 := Lib.hid (show NdSt w U c A len cap w.heap.size w1.heap.size k a bb A1 n c1 zs from ⟨HC.out, Nat.le_refl _, G1.out.size, by omega, C1.out.belowD bU, grown_below G1.out bU, R1.out.below bU, by rw [← hU]; exact Blk.new _ _ _, own_below O1.out bU⟩)
  clear bU hU C1 G1 R1 O1
  refine (below_any 12 (by omega) (by omega) U c A len cap hlen S0.out.cur).mono ?_
  rintro e w2 ⟨t, ht, rfl, hc2, g2⟩
  have S1 := Lib.hid (S0.out.draw hc2 g2)
  clear hc2 g2 S0
  by_cases t0 : t = 0
  · subst t0
    go_wp2_with fail
    refine (below_any 11 (by omega) (by omega) w2 c A len cap hlen S1.out.cur).mono ?_
    rintro e w3 ⟨y, hy, rfl, hc3, g3⟩
    have S2 := Lib.hid (S1.out.draw hc3 g3)
    obtain ⟨v, hv⟩ : ∃ v : Int, (y : Int) - 1 = v := ⟨_, rfl⟩
    have mv : IntKind.i64.wrap v = v := IntWalk.i64_in _ (by omega)
    have WV := Lib.hid (show K64 v by unfold K64; omega)
    clear hc3 g3
    have y0 : w3.cell? ⟨w1.heap.size, 0, none⟩ = some (.int .i64 k) := by rw [S2.out.kx.cell]; rfl
    have yf0 := S2.out.kx.frozen 0
    have y1 : w3.cell? ⟨w1.heap.size, 1, none⟩ = some (.int .i64 a) := by rw [S2.out.kx.cell]; rfl
    have y2 : w3.cell? ⟨w1.heap.size, 2, none⟩ = some (.int .i64 bb) := by rw [S2.out.kx.cell]; rfl
    have y3 : w3.cell? ⟨w1.heap.size, 3, none⟩ = some (.slice A1 n c1) := by rw [S2.out.kx.cell]; rfl
    go_upto_region 11 with fail
    clear y0 y1 y2 y3 yf0
    generalize hV : w3.setCell _ _ = V3
    have S5 := Lib.hid (show NdSt w V3 c A len cap w.heap.size w1.heap.size v a bb A1 n c1 zs by rw [← hV]; exact S2.out.put0 _)
    clear hV
    have x0 : V3.cell? ⟨w1.heap.size, 0, none⟩ = some (.int .i64 v) := by rw [S5.out.kx.cell]; rfl
    have x1 : V3.cell? ⟨w1.heap.size, 1, none⟩ = some (.int .i64 a) := by rw [S5.out.kx.cell]; rfl
    have x2 : V3.cell? ⟨w1.heap.size, 2, none⟩ = some (.int .i64 bb) := by rw [S5.out.kx.cell]; rfl
    have x3 : V3.cell? ⟨w1.heap.size, 3, none⟩ = some (.slice A1 n c1) := by rw [S5.out.kx.cell]; rfl
    have y0 : V3.cell? ⟨w.heap.size, 0, none⟩ = some (.int .i64 0) := by rw [S5.out.kr.cell]; rfl
    have yf0 := S5.out.kr.frozen 0
    have y1 : V3.cell? ⟨w.heap.size, 1, none⟩ = some (.int .i64 0) := by rw [S5.out.kr.cell]; rfl
    have yf1 := S5.out.kr.frozen 1
    have y2 : V3.cell? ⟨w.heap.size, 2, none⟩ = some (.int .i64 0) := by rw [S5.out.kr.cell]; rfl
    have yf2 := S5.out.kr.frozen 2
    have y3 : V3.cell? ⟨w.heap.size, 3, none⟩ = some (.slice none 0 0) := by rw [S5.out.kr.cell]; rfl
    have yf3 := S5.out.kr.frozen 3
    go_wp2_with fail
    generalize hWf : ((((V3.setCell _ _).setCell _ _).setCell _ _).setCell _ _) = Wf
    obtain ⟨kf, of, cf, gf⟩ := S5.out.fin hWf
    have e0 : Wf.cell? ⟨w.heap.size, 0, none⟩ = some (.int .i64 v) := by rw [kf.cell]; rfl
    have e1 : Wf.cell? ⟨w.heap.size, 1, none⟩ = some (.int .i64 a) := by rw [kf.cell]; rfl
    have e2 : Wf.cell? ⟨w.heap.size, 2, none⟩ = some (.int .i64 bb) := by rw [kf.cell]; rfl
    have e3 : Wf.cell? ⟨w.heap.size, 3, none⟩ = some (.slice A1 n c1) := by rw [kf.cell]; rfl
    exact bodyPost_ret (v := .agg #[.int .i64 v, .int .i64 a, .int .i64 bb, .slice A1 n c1]) (by simp [results, Try.results83, go_sem, e0, e1, e2, e3]) rfl ⟨v, a, bb, A1, n, c1, zs, WV.out, JA.out, JB.out, JZ.out, by omega, HL.out, rfl, of, cf, gf⟩
  have d0 : ((t : Int) == 0) = false := by simp; omega
  by_cases t1 : t = 1
  · subst t1
    go_wp2_with fail
    generalize hV : w2.alloc _ = V
    have bV : Below w2.heap.size w2 V := by rw [← hV]; exact (Below.refl _ _).alloc (Nat.le_refl _) _
    have P := (show Blk V w2.heap.size 3 (([-1, 0, 1000, 100, 11] : List Int).map fun n => Value.int .i64 n).toArray by rw [← hV]; exact Blk.new _ _ _)
    have SV := Lib.hid (S1.out.fresh bV)
    have hcu := S1.out.cur.lt
    refine (pickInt_any V c w2.heap.size A len cap 5 [-1, 0, 1000, 100, 11] rfl (by omega) (by omega) hlen SV.out.cur (by omega) P).mono ?_
    rintro e w3 ⟨v, hv, rfl, hc3, g3⟩
    have S2 := Lib.hid (SV.out.draw hc3 g3)
    have WV := Lib.hid (show K64 v by
      simp only [List.mem_cons, List.not_mem_nil, or_false] at hv
      unfold K64
      omega)
    clear hc3 g3 bV P hV hv SV hcu
    have y0 : w3.cell? ⟨w1.heap.size, 0, none⟩ = some (.int .i64 k) := by rw [S2.out.kx.cell]; rfl
    have y1 : w3.cell? ⟨w1.heap.size, 1, none⟩ = some (.int .i64 a) := by rw [S2.out.kx.cell]; rfl
    have yf1 := S2.out.kx.frozen 1
    have y2 : w3.cell? ⟨w1.heap.size, 2, none⟩ = some (.int .i64 bb) := by rw [S2.out.kx.cell]; rfl
    have y3 : w3.cell? ⟨w1.heap.size, 3, none⟩ = some (.slice A1 n c1) := by rw [S2.out.kx.cell]; rfl
    go_upto_region 11 with fail
    clear y0 y1 y2 y3 yf1
    generalize hV : w3.setCell _ _ = V3
    have S5 := Lib.hid (show NdSt w V3 c A len cap w.heap.size w1.heap.size k v bb A1 n c1 zs by rw [← hV]; exact S2.out.put1 _)
    clear hV
    have x0 : V3.cell? ⟨w1.heap.size, 0, none⟩ = some (.int .i64 k) := by rw [S5.out.kx.cell]; rfl
    have x1 : V3.cell? ⟨w1.heap.size, 1, none⟩ = some (.int .i64 v) := by rw [S5.out.kx.cell]; rfl
    have x2 : V3.cell? ⟨w1.heap.size, 2, none⟩ = some (.int .i64 bb) := by rw [S5.out.kx.cell]; rfl
    have x3 : V3.cell? ⟨w1.heap.size, 3, none⟩ = some (.slice A1 n c1) := by rw [S5.out.kx.cell]; rfl
    have y0 : V3.cell? ⟨w.heap.size, 0, none⟩ = some (.int .i64 0) := by rw [S5.out.kr.cell]; rfl
    have yf0 := S5.out.kr.frozen 0
    have y1 : V3.cell? ⟨w.heap.size, 1, none⟩ = some (.int .i64 0) := by rw [S5.out.kr.cell]; rfl
    have yf1 := S5.out.kr.frozen 1
    have y2 : V3.cell? ⟨w.heap.size, 2, none⟩ = some (.int .i64 0) := by rw [S5.out.kr.cell]; rfl
    have yf2 := S5.out.kr.frozen 2
    have y3 : V3.cell? ⟨w.heap.size, 3, none⟩ = some (.slice none 0 0) := by rw [S5.out.kr.cell]; rfl
    have yf3 := S5.out.kr.frozen 3
    go_wp2_with fail
    generalize hWf : ((((V3.setCell _ _).setCell _ _).setCell _ _).setCell _ _) = Wf
    obtain ⟨kf, of, cf, gf⟩ := S5.out.fin hWf
    have e0 : Wf.cell? ⟨w.heap.size, 0, none⟩ = some (.int .i64 k) := by rw [kf.cell]; rfl
    have e1 : Wf.cell? ⟨w.heap.size, 1, none⟩ = some (.int .i64 v) := by rw [kf.cell]; rfl
    have e2 : Wf.cell? ⟨w.heap.size, 2, none⟩ = some (.int .i64 bb) := by rw [kf.cell]; rfl
    have e3 : Wf.cell? ⟨w.heap.size, 3, none⟩ = some (.slice A1 n c1) := by rw [kf.cell]; rfl
    exact bodyPost_ret (v := .agg #[.int .i64 k, .int .i64 v, .int .i64 bb, .slice A1 n c1]) (by simp [results, Try.results83, go_sem, e0, e1, e2, e3]) rfl ⟨k, v, bb, A1, n, c1, zs, JK.out, WV.out, JB.out, JZ.out, by omega, HL.out, rfl, of, cf, gf⟩
  have d1 : ((t : Int) == 1) = false := by simp; omega
  by_cases t2 : t = 2
  · subst t2
    go_wp2_with fail
    generalize hV : w2.alloc _ = V
    have bV : Below w2.heap.size w2 V := by rw [← hV]; exact (Below.refl _ _).alloc (Nat.le_refl _) _
    have P := (show Blk V w2.heap.size 3 (([-1, 1, 3] : List Int).map fun n => Value.int .i64 n).toArray by rw [← hV]; exact Blk.new _ _ _)
    have SV := Lib.hid (S1.out.fresh bV)
    have hcu := S1.out.cur.lt
    refine (pickInt_any V c w2.heap.size A len cap 3 [-1, 1, 3] rfl (by omega) (by omega) hlen SV.out.cur (by omega) P).mono ?_
    rintro e w3 ⟨v, hv, rfl, hc3, g3⟩
    have S2 := Lib.hid (SV.out.draw hc3 g3)
    have WV := Lib.hid (show K64 v by
      simp only [List.mem_cons, List.not_mem_nil, or_false] at hv
      unfold K64
      omega)
    clear hc3 g3 bV P hV hv SV hcu
    have y0 : w3.cell? ⟨w1.heap.size, 0, none⟩ = some (.int .i64 k) := by rw [S2.out.kx.cell]; rfl
    have y1 : w3.cell? ⟨w1.heap.size, 1, none⟩ = some (.int .i64 a) := by rw [S2.out.kx.cell]; rfl
    have y2 : w3.cell? ⟨w1.heap.size, 2, none⟩ = some (.int .i64 bb) := by rw [S2.out.kx.cell]; rfl
    have yf2 := S2.out.kx.frozen 2
    have y3 : w3.cell? ⟨w1.heap.size, 3, none⟩ = some (.slice A1 n c1) := by rw [S2.out.kx.cell]; rfl
    go_upto_region 11 with fail
    clear y0 y1 y2 y3 yf2
    generalize hV : w3.setCell _ _ = V3
    have S5 := Lib.hid (show NdSt w V3 c A len cap w.heap.size w1.heap.size k a v A1 n c1 zs by rw [← hV]; exact S2.out.put2 _)
    clear hV
    have x0 : V3.cell? ⟨w1.heap.size, 0, none⟩ = some (.int .i64 k) := by rw [S5.out.kx.cell]; rfl
    have x1 : V3.cell? ⟨w1.heap.size, 1, none⟩ = some (.int .i64 a) := by rw [S5.out.kx.cell]; rfl
    have x2 : V3.cell? ⟨w1.heap.size, 2, none⟩ = some (.int .i64 v) := by rw [S5.out.kx.cell]; rfl
    have x3 : V3.cell? ⟨w1.heap.size, 3, none⟩ = some (.slice A1 n c1) := by rw [S5.out.kx.cell]; rfl
    have y0 : V3.cell? ⟨w.heap.size, 0, none⟩ = some (.int .i64 0) := by rw [S5.out.kr.cell]; rfl
    have yf0 := S5.out.kr.frozen 0
    have y1 : V3.cell? ⟨w.heap.size, 1, none⟩ = some (.int .i64 0) := by rw [S5.out.kr.cell]; rfl
    have yf1 := S5.out.kr.frozen 1
    have y2 : V3.cell? ⟨w.heap.size, 2, none⟩ = some (.int .i64 0) := by rw [S5.out.kr.cell]; rfl
    have yf2 := S5.out.kr.frozen 2
    have y3 : V3.cell? ⟨w.heap.size, 3, none⟩ = some (.slice none 0 0) := by rw [S5.out.kr.cell]; rfl
    have yf3 := S5.out.kr.frozen 3
    go_wp2_with fail
    generalize hWf : ((((V3.setCell _ _).setCell _ _).setCell _ _).setCell _ _) = Wf
    obtain ⟨kf, of, cf, gf⟩ := S5.out.fin hWf
    have e0 : Wf.cell? ⟨w.heap.size, 0, none⟩ = some (.int .i64 k) := by rw [kf.cell]; rfl
    have e1 : Wf.cell? ⟨w.heap.size, 1, none⟩ = some (.int .i64 a) := by rw [kf.cell]; rfl
    have e2 : Wf.cell? ⟨w.heap.size, 2, none⟩ = some (.int .i64 v) := by rw [kf.cell]; rfl
    have e3 : Wf.cell? ⟨w.heap.size, 3, none⟩ = some (.slice A1 n c1) := by rw [kf.cell]; rfl
    exact bodyPost_ret (v := .agg #[.int .i64 k, .int .i64 a, .int .i64 v, .slice A1 n c1]) (by simp [results, Try.results83, go_sem, e0, e1, e2, e3]) rfl ⟨k, a, v, A1, n, c1, zs, JK.out, JA.out, WV.out, JZ.out, by omega, HL.out, rfl, of, cf, gf⟩
  have d2 : ((t : Int) == 2) = false := by simp; omega
  by_cases t3 : t = 3
  · subst t3
    go_wp2_with fail
    obtain ⟨w3, hw3⟩ : ∃ z, w2.drew = z := ⟨_, rfl⟩
    have S4 := Lib.hid (show NdSt w w3 c A len cap w.heap.size w1.heap.size k a bb A1 n c1 zs by rw [← hw3]; exact S1.out.drew)
    refine wp_region_held_drew (S := fun _ => True) (by kernel_rfl) ?_ (fun hHeld => ?_)
    · exact trivial
    change wpAnyH _ _ opsN10 _ _ 9 (#[false, false, false, false, false, false, false, false, false] : Array Bool) _ _
    rw [hw3]
    clear hw3 S1
    refine regY tN10_e_0 (.pointer (some ⟨w1.heap.size, 3, none⟩)) (fun W hSw => by unfold qN10_0; go_simp) hHeld ?_
    try simp only [pt, List.set]
    refine regY tN10_0_2 (.pointer (some ⟨c, 0, none⟩)) (fun W hSw => by unfold qN10_2; go_simp) hHeld ?_
    try simp only [pt, List.set]
    refine cN10_02_13 (fun K hK => ?_) (fun K hK => ?_)
    · rw [if_pos (by rfl)]
      unfold qN10_1
      have l3 : w3.cell? ⟨w1.heap.size, 3, none⟩ = some (.slice A1 n c1) := by rw [S4.out.kx.cell]; rfl
      go_simp
      clear l3
      refine Shut.out hK _ _ ?_ (fun hHeld => ?_)
      · exact trivial
      clear hK K
      try simp only [pt, List.set]
      refine cN10_012_3 (fun K hK => ?_)
      rw [if_pos (by rfl)]
      unfold qN10_3
      go_simp
      generalize hV : World.alloc _ _ = v1
      have hbv : Below w3.heap.size w3 v1 := by rw [← hV]; exact (Below.refl _ _).alloc (Nat.le_refl _) _
      have PB := Lib.hid (show Blk v1 w3.heap.size 3 (([1, 7, 8, -1] : List Int).map fun n => Value.int .i64 n).toArray by rw [← hV]; exact Blk.new _ _ _)
      have T1 := Lib.hid (S4.out.fresh hbv)
      have pl : w3.heap.size < v1.heap.size := PB.out.lt
      clear hbv hV
      refine Shut.out hK _ _ ?_ (fun hHeld => ?_)
      · exact trivial
      clear hK K
      try simp only [pt, List.set]
      refine cN10_0123_4 (fun K hK => ?_)
      rw [if_pos (by rfl)]
      unfold qN10_4
      go_simp
      refine (pickInt_any v1 c w3.heap.size A len cap 4 [1, 7, 8, -1] rfl (by omega) (by omega) hlen T1.out.cur (by have := S4.out.cur.lt; omega) PB.out).mono ?_
      rintro e v2 ⟨p, hv, rfl, hcn, gn⟩
      have T2 := Lib.hid (T1.out.draw hcn gn)
      have WV := Lib.hid (show K64 p by
        simp only [List.mem_cons, List.not_mem_nil, or_false] at hv
        unfold K64
        omega)
      clear hv PB pl
      clear hcn gn
      refine Shut.out hK _ _ ?_ (fun hHeld => ?_)
      · exact trivial
      clear hK K
      try simp only [pt, List.set]
      refine cN10_01234_5 (fun K hK => ?_)
      rw [if_pos (by rfl)]
      unfold qN10_5
      go_simp
      generalize hV : World.alloc _ _ = v3
      have hbv : Below v2.heap.size v2 v3 := by rw [← hV]; exact (Below.refl _ _).alloc (Nat.le_refl _) _
      have NB := Lib.hid (show Blk v3 v2.heap.size 3 #[.int .i64 p] by rw [← hV]; exact Blk.new _ _ _)
      have T3 := Lib.hid (T2.out.fresh hbv)
      clear hbv hV
      refine Shut.out hK _ _ ?_ (fun hHeld => ?_)
      · exact trivial
      clear hK K
      try simp only [pt, List.set]
      refine cN10_012345_6 (fun K hK => ?_)
      refine step_append_lies _ (by rfl) _ _ 44 (by rfl) w.heap.size 3 i0 (.int .i64 0) 1 8 Try.underlying44 hi hz0 hz1 hz2 rfl (by decide) _ (n) _ (by rfl) T3.out.row ⟨v2.heap.size, 0, none⟩ 1 1 [.int .i64 p] (by rfl) rfl (World.news_of_block NB.out) (by simp [Value.oneCell']) (by decide) (by unfold maxLen; omega) (by omega) T3.out.gr.size _ rfl ?_
      intro g4 cap4 v4 OA GA _ _
      have OA := Lib.hid OA
      have GA := Lib.hid GA
      refine Shut.out hK _ _ ?_ (fun hHeld => ?_)
      · exact trivial
      clear hK K
      simp only [qN10_6, Act.put, List.setIfInBounds_toArray, List.set_cons_zero, List.set_cons_succ]
      refine regY tN10_0123456_7 (.pointer (some ⟨w1.heap.size, 3, none⟩)) (fun W hSw => by unfold qN10_7; go_simp) hHeld ?_
      try simp only [pt, List.set]
      refine cN10_01234567_8 (fun K hK => ?_)
      rw [if_pos (by rfl)]
      unfold qN10_8
      obtain ⟨A2, c2, he, SN⟩ := T3.out.app OA.out GA.out
      simp only [Value.slice.injEq, true_and] at he
      obtain ⟨rfl, rfl⟩ := he
      have kxo := T3.out.kx.grown GA.out (Ne.symm (own_type T3.out.row T3.out.kx (by decide)))
      have l3 : v4.cell? ⟨w1.heap.size, 3, none⟩ = some (.slice A1 n c1) := by rw [kxo.cell]; rfl
      have lf3 := kxo.frozen 3
      go_simp
      generalize hV : v4.setCell _ _ = v5 at SN ⊢
      have T5 := Lib.hid SN
      clear l3 lf3 kxo hV SN OA GA NB
      refine Shut.out hK _ _ ?_ (fun hHeld => ?_)
      · exact trivial
      clear hK K
      try simp only [pn]
      refine wpAnyH_done (by kernel_rfl) ?_ _
      clear hHeld
      have HZ2 := Lib.hid (show ∀ z ∈ zs ++ [p], K64 z from fun z hz => by
        rcases List.mem_append.1 hz with h | h
        · exact JZ.out z h
        · obtain rfl : z = p := by simpa using h
          exact WV.out)
      have HL2 := Lib.hid (show (zs ++ [p]).length = n + 1 by simp [HL.out])
      have x0 : v5.cell? ⟨w1.heap.size, 0, none⟩ = some (.int .i64 k) := by rw [T5.out.kx.cell]; rfl
      have x1 : v5.cell? ⟨w1.heap.size, 1, none⟩ = some (.int .i64 a) := by rw [T5.out.kx.cell]; rfl
      have x2 : v5.cell? ⟨w1.heap.size, 2, none⟩ = some (.int .i64 bb) := by rw [T5.out.kx.cell]; rfl
      have x3 : v5.cell? ⟨w1.heap.size, 3, none⟩ = some (.slice (some ⟨g4, 0, none⟩) (n + 1) cap4) := by rw [T5.out.kx.cell]; rfl
      have y0 : v5.cell? ⟨w.heap.size, 0, none⟩ = some (.int .i64 0) := by rw [T5.out.kr.cell]; rfl
      have yf0 := T5.out.kr.frozen 0
      have y1 : v5.cell? ⟨w.heap.size, 1, none⟩ = some (.int .i64 0) := by rw [T5.out.kr.cell]; rfl
      have yf1 := T5.out.kr.frozen 1
      have y2 : v5.cell? ⟨w.heap.size, 2, none⟩ = some (.int .i64 0) := by rw [T5.out.kr.cell]; rfl
      have yf2 := T5.out.kr.frozen 2
      have y3 : v5.cell? ⟨w.heap.size, 3, none⟩ = some (.slice none 0 0) := by rw [T5.out.kr.cell]; rfl
      have yf3 := T5.out.kr.frozen 3
      go_wp2_with fail
      generalize hWf : ((((v5.setCell _ _).setCell _ _).setCell _ _).setCell _ _) = Wf
      obtain ⟨kf, of, cf, gf⟩ := T5.out.fin hWf
      have e0 : Wf.cell? ⟨w.heap.size, 0, none⟩ = some (.int .i64 k) := by rw [kf.cell]; rfl
      have e1 : Wf.cell? ⟨w.heap.size, 1, none⟩ = some (.int .i64 a) := by rw [kf.cell]; rfl
      have e2 : Wf.cell? ⟨w.heap.size, 2, none⟩ = some (.int .i64 bb) := by rw [kf.cell]; rfl
      have e3 : Wf.cell? ⟨w.heap.size, 3, none⟩ = some (.slice (some ⟨g4, 0, none⟩) (n + 1) cap4) := by rw [kf.cell]; rfl
      exact bodyPost_ret (v := .agg #[.int .i64 k, .int .i64 a, .int .i64 bb, .slice (some ⟨g4, 0, none⟩) (n + 1) cap4]) (by simp [results, Try.results83, go_sem, e0, e1, e2, e3]) rfl ⟨k, a, bb, (some ⟨g4, 0, none⟩), (n + 1), cap4, (zs ++ [p]), JK.out, JA.out, JB.out, HZ2.out, by omega, HL2.out, rfl, of, cf, gf⟩
    · rw [if_pos (by rfl)]
      unfold qN10_3
      go_simp
      generalize hV : World.alloc _ _ = v1
      have hbv : Below w3.heap.size w3 v1 := by rw [← hV]; exact (Below.refl _ _).alloc (Nat.le_refl _) _
      have PB := Lib.hid (show Blk v1 w3.heap.size 3 (([1, 7, 8, -1] : List Int).map fun n => Value.int .i64 n).toArray by rw [← hV]; exact Blk.new _ _ _)
      have T1 := Lib.hid (S4.out.fresh hbv)
      have pl : w3.heap.size < v1.heap.size := PB.out.lt
      clear hbv hV
      refine Shut.out hK _ _ ?_ (fun hHeld => ?_)
      · exact trivial
      clear hK K
      try simp only [pt, List.set]
      refine cN10_023_14 (fun K hK => ?_) (fun K hK => ?_)
      · rw [if_pos (by rfl)]
        unfold qN10_1
        have l3 : v1.cell? ⟨w1.heap.size, 3, none⟩ = some (.slice A1 n c1) := by rw [T1.out.kx.cell]; rfl
        go_simp
        clear l3
        refine Shut.out hK _ _ ?_ (fun hHeld => ?_)
        · exact trivial
        clear hK K
        try simp only [pt, List.set]
        refine cN10_0123_4 (fun K hK => ?_)
        rw [if_pos (by rfl)]
        unfold qN10_4
        go_simp
        refine (pickInt_any v1 c w3.heap.size A len cap 4 [1, 7, 8, -1] rfl (by omega) (by omega) hlen T1.out.cur (by have := S4.out.cur.lt; omega) PB.out).mono ?_
        rintro e v2 ⟨p, hv, rfl, hcn, gn⟩
        have T2 := Lib.hid (T1.out.draw hcn gn)
        have WV := Lib.hid (show K64 p by
          simp only [List.mem_cons, List.not_mem_nil, or_false] at hv
          unfold K64
          omega)
        clear hv PB pl
        clear hcn gn
        refine Shut.out hK _ _ ?_ (fun hHeld => ?_)
        · exact trivial
        clear hK K
        try simp only [pt, List.set]
        refine cN10_01234_5 (fun K hK => ?_)
        rw [if_pos (by rfl)]
        unfold qN10_5
        go_simp
        generalize hV : World.alloc _ _ = v3
        have hbv : Below v2.heap.size v2 v3 := by rw [← hV]; exact (Below.refl _ _).alloc (Nat.le_refl _) _
        have NB := Lib.hid (show Blk v3 v2.heap.size 3 #[.int .i64 p] by rw [← hV]; exact Blk.new _ _ _)
        have T3 := Lib.hid (T2.out.fresh hbv)
        clear hbv hV
        refine Shut.out hK _ _ ?_ (fun hHeld => ?_)
        · exact trivial
        clear hK K
        try simp only [pt, List.set]
        refine cN10_012345_6 (fun K hK => ?_)
        refine step_append_lies _ (by rfl) _ _ 44 (by rfl) w.heap.size 3 i0 (.int .i64 0) 1 8 Try.underlying44 hi hz0 hz1 hz2 rfl (by decide) _ (n) _ (by rfl) T3.out.row ⟨v2.heap.size, 0, none⟩ 1 1 [.int .i64 p] (by rfl) rfl (World.news_of_block NB.out) (by simp [Value.oneCell']) (by decide) (by unfold maxLen; omega) (by omega) T3.out.gr.size _ rfl ?_
        intro g4 cap4 v4 OA GA _ _
        have OA := Lib.hid OA
        have GA := Lib.hid GA
        refine Shut.out hK _ _ ?_ (fun hHeld => ?_)
        · exact trivial
        clear hK K
        simp only [qN10_6, Act.put, List.setIfInBounds_toArray, List.set_cons_zero, List.set_cons_succ]
        refine regY tN10_0123456_7 (.pointer (some ⟨w1.heap.size, 3, none⟩)) (fun W hSw => by unfold qN10_7; go_simp) hHeld ?_
        try simp only [pt, List.set]
        refine cN10_01234567_8 (fun K hK => ?_)
        rw [if_pos (by rfl)]
        unfold qN10_8
        obtain ⟨A2, c2, he, SN⟩ := T3.out.app OA.out GA.out
        simp only [Value.slice.injEq, true_and] at he
        obtain ⟨rfl, rfl⟩ := he
        have kxo := T3.out.kx.grown GA.out (Ne.symm (own_type T3.out.row T3.out.kx (by decide)))
        have l3 : v4.cell? ⟨w1.heap.size, 3, none⟩ = some (.slice A1 n c1) := by rw [kxo.cell]; rfl
        have lf3 := kxo.frozen 3
        go_simp
        generalize hV : v4.setCell _ _ = v5 at SN ⊢
        have T5 := Lib.hid SN
        clear l3 lf3 kxo hV SN OA GA NB
        refine Shut.out hK _ _ ?_ (fun hHeld => ?_)
        · exact trivial
        clear hK K
        try simp only [pn]
        refine wpAnyH_done (by kernel_rfl) ?_ _
        clear hHeld
        have HZ2 := Lib.hid (show ∀ z ∈ zs ++ [p], K64 z from fun z hz => by
          rcases List.mem_append.1 hz with h | h
          · exact JZ.out z h
          · obtain rfl : z = p := by simpa using h
            exact WV.out)
        have HL2 := Lib.hid (show (zs ++ [p]).length = n + 1 by simp [HL.out])
        have x0 : v5.cell? ⟨w1.heap.size, 0, none⟩ = some (.int .i64 k) := by rw [T5.out.kx.cell]; rfl
        have x1 : v5.cell? ⟨w1.heap.size, 1, none⟩ = some (.int .i64 a) := by rw [T5.out.kx.cell]; rfl
        have x2 : v5.cell? ⟨w1.heap.size, 2, none⟩ = some (.int .i64 bb) := by rw [T5.out.kx.cell]; rfl
        have x3 : v5.cell? ⟨w1.heap.size, 3, none⟩ = some (.slice (some ⟨g4, 0, none⟩) (n + 1) cap4) := by rw [T5.out.kx.cell]; rfl
        have y0 : v5.cell? ⟨w.heap.size, 0, none⟩ = some (.int .i64 0) := by rw [T5.out.kr.cell]; rfl
        have yf0 := T5.out.kr.frozen 0
        have y1 : v5.cell? ⟨w.heap.size, 1, none⟩ = some (.int .i64 0) := by rw [T5.out.kr.cell]; rfl
        have yf1 := T5.out.kr.frozen 1
        have y2 : v5.cell? ⟨w.heap.size, 2, none⟩ = some (.int .i64 0) := by rw [T5.out.kr.cell]; rfl
        have yf2 := T5.out.kr.frozen 2
        have y3 : v5.cell? ⟨w.heap.size, 3, none⟩ = some (.slice none 0 0) := by rw [T5.out.kr.cell]; rfl
        have yf3 := T5.out.kr.frozen 3
        go_wp2_with fail
        generalize hWf : ((((v5.setCell _ _).setCell _ _).setCell _ _).setCell _ _) = Wf
        obtain ⟨kf, of, cf, gf⟩ := T5.out.fin hWf
        have e0 : Wf.cell? ⟨w.heap.size, 0, none⟩ = some (.int .i64 k) := by rw [kf.cell]; rfl
        have e1 : Wf.cell? ⟨w.heap.size, 1, none⟩ = some (.int .i64 a) := by rw [kf.cell]; rfl
        have e2 : Wf.cell? ⟨w.heap.size, 2, none⟩ = some (.int .i64 bb) := by rw [kf.cell]; rfl
        have e3 : Wf.cell? ⟨w.heap.size, 3, none⟩ = some (.slice (some ⟨g4, 0, none⟩) (n + 1) cap4) := by rw [kf.cell]; rfl
        exact bodyPost_ret (v := .agg #[.int .i64 k, .int .i64 a, .int .i64 bb, .slice (some ⟨g4, 0, none⟩) (n + 1) cap4]) (by simp [results, Try.results83, go_sem, e0, e1, e2, e3]) rfl ⟨k, a, bb, (some ⟨g4, 0, none⟩), (n + 1), cap4, (zs ++ [p]), JK.out, JA.out, JB.out, HZ2.out, by omega, HL2.out, rfl, of, cf, gf⟩
      · rw [if_pos (by rfl)]
        unfold qN10_4
        go_simp
        refine (pickInt_any v1 c w3.heap.size A len cap 4 [1, 7, 8, -1] rfl (by omega) (by omega) hlen T1.out.cur (by have := S4.out.cur.lt; omega) PB.out).mono ?_
        rintro e v2 ⟨p, hv, rfl, hcn, gn⟩
        have T2 := Lib.hid (T1.out.draw hcn gn)
        have WV := Lib.hid (show K64 p by
          simp only [List.mem_cons, List.not_mem_nil, or_false] at hv
          unfold K64
          omega)
        clear hv PB pl
        clear hcn gn
        refine Shut.out hK _ _ ?_ (fun hHeld => ?_)
        · exact trivial
        clear hK K
        try simp only [pt, List.set]
        refine cN10_0234_15 (fun K hK => ?_) (fun K hK => ?_)
        · rw [if_pos (by rfl)]
          unfold qN10_1
          have l3 : v2.cell? ⟨w1.heap.size, 3, none⟩ = some (.slice A1 n c1) := by rw [T2.out.kx.cell]; rfl
          go_simp
          clear l3
          refine Shut.out hK _ _ ?_ (fun hHeld => ?_)
          · exact trivial
          clear hK K
          try simp only [pt, List.set]
          refine cN10_01234_5 (fun K hK => ?_)
          rw [if_pos (by rfl)]
          unfold qN10_5
          go_simp
          generalize hV : World.alloc _ _ = v3
          have hbv : Below v2.heap.size v2 v3 := by rw [← hV]; exact (Below.refl _ _).alloc (Nat.le_refl _) _
          have NB := Lib.hid (show Blk v3 v2.heap.size 3 #[.int .i64 p] by rw [← hV]; exact Blk.new _ _ _)
          have T3 := Lib.hid (T2.out.fresh hbv)
          clear hbv hV
          refine Shut.out hK _ _ ?_ (fun hHeld => ?_)
          · exact trivial
          clear hK K
          try simp only [pt, List.set]
          refine cN10_012345_6 (fun K hK => ?_)
          refine step_append_lies _ (by rfl) _ _ 44 (by rfl) w.heap.size 3 i0 (.int .i64 0) 1 8 Try.underlying44 hi hz0 hz1 hz2 rfl (by decide) _ (n) _ (by rfl) T3.out.row ⟨v2.heap.size, 0, none⟩ 1 1 [.int .i64 p] (by rfl) rfl (World.news_of_block NB.out) (by simp [Value.oneCell']) (by decide) (by unfold maxLen; omega) (by omega) T3.out.gr.size _ rfl ?_
          intro g4 cap4 v4 OA GA _ _
          have OA := Lib.hid OA
          have GA := Lib.hid GA
          refine Shut.out hK _ _ ?_ (fun hHeld => ?_)
          · exact trivial
          clear hK K
          simp only [qN10_6, Act.put, List.setIfInBounds_toArray, List.set_cons_zero, List.set_cons_succ]
          refine regY tN10_0123456_7 (.pointer (some ⟨w1.heap.size, 3, none⟩)) (fun W hSw => by unfold qN10_7; go_simp) hHeld ?_
          try simp only [pt, List.set]
          refine cN10_01234567_8 (fun K hK => ?_)
          rw [if_pos (by rfl)]
          unfold qN10_8
          obtain ⟨A2, c2, he, SN⟩ := T3.out.app OA.out GA.out
          simp only [Value.slice.injEq, true_and] at he
          obtain ⟨rfl, rfl⟩ := he
          have kxo := T3.out.kx.grown GA.out (Ne.symm (own_type T3.out.row T3.out.kx (by decide)))
          have l3 : v4.cell? ⟨w1.heap.size, 3, none⟩ = some (.slice A1 n c1) := by rw [kxo.cell]; rfl
          have lf3 := kxo.frozen 3
          go_simp
          generalize hV : v4.setCell _ _ = v5 at SN ⊢
          have T5 := Lib.hid SN
          clear l3 lf3 kxo hV SN OA GA NB
          refine Shut.out hK _ _ ?_ (fun hHeld => ?_)
          · exact trivial
          clear hK K
          try simp only [pn]
          refine wpAnyH_done (by kernel_rfl) ?_ _
          clear hHeld
          have HZ2 := Lib.hid (show ∀ z ∈ zs ++ [p], K64 z from fun z hz => by
            rcases List.mem_append.1 hz with h | h
            · exact JZ.out z h
            · obtain rfl : z = p := by simpa using h
              exact WV.out)
          have HL2 := Lib.hid (show (zs ++ [p]).length = n + 1 by simp [HL.out])
          have x0 : v5.cell? ⟨w1.heap.size, 0, none⟩ = some (.int .i64 k) := by rw [T5.out.kx.cell]; rfl
          have x1 : v5.cell? ⟨w1.heap.size, 1, none⟩ = some (.int .i64 a) := by rw [T5.out.kx.cell]; rfl
          have x2 : v5.cell? ⟨w1.heap.size, 2, none⟩ = some (.int .i64 bb) := by rw [T5.out.kx.cell]; rfl
          have x3 : v5.cell? ⟨w1.heap.size, 3, none⟩ = some (.slice (some ⟨g4, 0, none⟩) (n + 1) cap4) := by rw [T5.out.kx.cell]; rfl
          have y0 : v5.cell? ⟨w.heap.size, 0, none⟩ = some (.int .i64 0) := by rw [T5.out.kr.cell]; rfl
          have yf0 := T5.out.kr.frozen 0
          have y1 : v5.cell? ⟨w.heap.size, 1, none⟩ = some (.int .i64 0) := by rw [T5.out.kr.cell]; rfl
          have yf1 := T5.out.kr.frozen 1
          have y2 : v5.cell? ⟨w.heap.size, 2, none⟩ = some (.int .i64 0) := by rw [T5.out.kr.cell]; rfl
          have yf2 := T5.out.kr.frozen 2
          have y3 : v5.cell? ⟨w.heap.size, 3, none⟩ = some (.slice none 0 0) := by rw [T5.out.kr.cell]; rfl
          have yf3 := T5.out.kr.frozen 3
          go_wp2_with fail
          generalize hWf : ((((v5.setCell _ _).setCell _ _).setCell _ _).setCell _ _) = Wf
          obtain ⟨kf, of, cf, gf⟩ := T5.out.fin hWf
          have e0 : Wf.cell? ⟨w.heap.size, 0, none⟩ = some (.int .i64 k) := by rw [kf.cell]; rfl
          have e1 : Wf.cell? ⟨w.heap.size, 1, none⟩ = some (.int .i64 a) := by rw [kf.cell]; rfl
          have e2 : Wf.cell? ⟨w.heap.size, 2, none⟩ = some (.int .i64 bb) := by rw [kf.cell]; rfl
          have e3 : Wf.cell? ⟨w.heap.size, 3, none⟩ = some (.slice (some ⟨g4, 0, none⟩) (n + 1) cap4) := by rw [kf.cell]; rfl
          exact bodyPost_ret (v := .agg #[.int .i64 k, .int .i64 a, .int .i64 bb, .slice (some ⟨g4, 0, none⟩) (n + 1) cap4]) (by simp [results, Try.results83, go_sem, e0, e1, e2, e3]) rfl ⟨k, a, bb, (some ⟨g4, 0, none⟩), (n + 1), cap4, (zs ++ [p]), JK.out, JA.out, JB.out, HZ2.out, by omega, HL2.out, rfl, of, cf, gf⟩
        · rw [if_pos (by rfl)]
          unfold qN10_5
          go_simp
          generalize hV : World.alloc _ _ = v3
          have hbv : Below v2.heap.size v2 v3 := by rw [← hV]; exact (Below.refl _ _).alloc (Nat.le_refl _) _
          have NB := Lib.hid (show Blk v3 v2.heap.size 3 #[.int .i64 p] by rw [← hV]; exact Blk.new _ _ _)
          have T3 := Lib.hid (T2.out.fresh hbv)
          clear hbv hV
          refine Shut.out hK _ _ ?_ (fun hHeld => ?_)
          · exact trivial
          clear hK K
          try simp only [pt, List.set]
          refine cN10_02345_1 (fun K hK => ?_)
          rw [if_pos (by rfl)]
          unfold qN10_1
          have l3 : v3.cell? ⟨w1.heap.size, 3, none⟩ = some (.slice A1 n c1) := by rw [T3.out.kx.cell]; rfl
          go_simp
          clear l3
          refine Shut.out hK _ _ ?_ (fun hHeld => ?_)
          · exact trivial
          clear hK K
          try simp only [pt, List.set]
          refine cN10_012345_6 (fun K hK => ?_)
          refine step_append_lies _ (by rfl) _ _ 44 (by rfl) w.heap.size 3 i0 (.int .i64 0) 1 8 Try.underlying44 hi hz0 hz1 hz2 rfl (by decide) _ (n) _ (by rfl) T3.out.row ⟨v2.heap.size, 0, none⟩ 1 1 [.int .i64 p] (by rfl) rfl (World.news_of_block NB.out) (by simp [Value.oneCell']) (by decide) (by unfold maxLen; omega) (by omega) T3.out.gr.size _ rfl ?_
          intro g4 cap4 v4 OA GA _ _
          have OA := Lib.hid OA
          have GA := Lib.hid GA
          refine Shut.out hK _ _ ?_ (fun hHeld => ?_)
          · exact trivial
          clear hK K
          simp only [qN10_6, Act.put, List.setIfInBounds_toArray, List.set_cons_zero, List.set_cons_succ]
          refine regY tN10_0123456_7 (.pointer (some ⟨w1.heap.size, 3, none⟩)) (fun W hSw => by unfold qN10_7; go_simp) hHeld ?_
          try simp only [pt, List.set]
          refine cN10_01234567_8 (fun K hK => ?_)
          rw [if_pos (by rfl)]
          unfold qN10_8
          obtain ⟨A2, c2, he, SN⟩ := T3.out.app OA.out GA.out
          simp only [Value.slice.injEq, true_and] at he
          obtain ⟨rfl, rfl⟩ := he
          have kxo := T3.out.kx.grown GA.out (Ne.symm (own_type T3.out.row T3.out.kx (by decide)))
          have l3 : v4.cell? ⟨w1.heap.size, 3, none⟩ = some (.slice A1 n c1) := by rw [kxo.cell]; rfl
          have lf3 := kxo.frozen 3
          go_simp
          generalize hV : v4.setCell _ _ = v5 at SN ⊢
          have T5 := Lib.hid SN
          clear l3 lf3 kxo hV SN OA GA NB
          refine Shut.out hK _ _ ?_ (fun hHeld => ?_)
          · exact trivial
          clear hK K
          try simp only [pn]
          refine wpAnyH_done (by kernel_rfl) ?_ _
          clear hHeld
          have HZ2 := Lib.hid (show ∀ z ∈ zs ++ [p], K64 z from fun z hz => by
            rcases List.mem_append.1 hz with h | h
            · exact JZ.out z h
            · obtain rfl : z = p := by simpa using h
              exact WV.out)
          have HL2 := Lib.hid (show (zs ++ [p]).length = n + 1 by simp [HL.out])
          have x0 : v5.cell? ⟨w1.heap.size, 0, none⟩ = some (.int .i64 k) := by rw [T5.out.kx.cell]; rfl
          have x1 : v5.cell? ⟨w1.heap.size, 1, none⟩ = some (.int .i64 a) := by rw [T5.out.kx.cell]; rfl
          have x2 : v5.cell? ⟨w1.heap.size, 2, none⟩ = some (.int .i64 bb) := by rw [T5.out.kx.cell]; rfl
          have x3 : v5.cell? ⟨w1.heap.size, 3, none⟩ = some (.slice (some ⟨g4, 0, none⟩) (n + 1) cap4) := by rw [T5.out.kx.cell]; rfl
          have y0 : v5.cell? ⟨w.heap.size, 0, none⟩ = some (.int .i64 0) := by rw [T5.out.kr.cell]; rfl
          have yf0 := T5.out.kr.frozen 0
          have y1 : v5.cell? ⟨w.heap.size, 1, none⟩ = some (.int .i64 0) := by rw [T5.out.kr.cell]; rfl
          have yf1 := T5.out.kr.frozen 1
          have y2 : v5.cell? ⟨w.heap.size, 2, none⟩ = some (.int .i64 0) := by rw [T5.out.kr.cell]; rfl
          have yf2 := T5.out.kr.frozen 2
          have y3 : v5.cell? ⟨w.heap.size, 3, none⟩ = some (.slice none 0 0) := by rw [T5.out.kr.cell]; rfl
          have yf3 := T5.out.kr.frozen 3
          go_wp2_with fail
          generalize hWf : ((((v5.setCell _ _).setCell _ _).setCell _ _).setCell _ _) = Wf
          obtain ⟨kf, of, cf, gf⟩ := T5.out.fin hWf
          have e0 : Wf.cell? ⟨w.heap.size, 0, none⟩ = some (.int .i64 k) := by rw [kf.cell]; rfl
          have e1 : Wf.cell? ⟨w.heap.size, 1, none⟩ = some (.int .i64 a) := by rw [kf.cell]; rfl
          have e2 : Wf.cell? ⟨w.heap.size, 2, none⟩ = some (.int .i64 bb) := by rw [kf.cell]; rfl
          have e3 : Wf.cell? ⟨w.heap.size, 3, none⟩ = some (.slice (some ⟨g4, 0, none⟩) (n + 1) cap4) := by rw [kf.cell]; rfl
          exact bodyPost_ret (v := .agg #[.int .i64 k, .int .i64 a, .int .i64 bb, .slice (some ⟨g4, 0, none⟩) (n + 1) cap4]) (by simp [results, Try.results83, go_sem, e0, e1, e2, e3]) rfl ⟨k, a, bb, (some ⟨g4, 0, none⟩), (n + 1), cap4, (zs ++ [p]), JK.out, JA.out, JB.out, HZ2.out, by omega, HL2.out, rfl, of, cf, gf⟩
  have d3 : ((t : Int) == 3) = false := by simp; omega
  have x0 : w2.cell? ⟨w1.heap.size, 0, none⟩ = some (.int .i64 k) := by rw [S1.out.kx.cell]; rfl
  have x1 : w2.cell? ⟨w1.heap.size, 1, none⟩ = some (.int .i64 a) := by rw [S1.out.kx.cell]; rfl
  have x2 : w2.cell? ⟨w1.heap.size, 2, none⟩ = some (.int .i64 bb) := by rw [S1.out.kx.cell]; rfl
  have x3 : w2.cell? ⟨w1.heap.size, 3, none⟩ = some (.slice A1 n c1) := by rw [S1.out.kx.cell]; rfl
  have y0 : w2.cell? ⟨w.heap.size, 0, none⟩ = some (.int .i64 0) := by rw [S1.out.kr.cell]; rfl
  have yf0 := S1.out.kr.frozen 0
  have y1 : w2.cell? ⟨w.heap.size, 1, none⟩ = some (.int .i64 0) := by rw [S1.out.kr.cell]; rfl
  have yf1 := S1.out.kr.frozen 1
  have y2 : w2.cell? ⟨w.heap.size, 2, none⟩ = some (.int .i64 0) := by rw [S1.out.kr.cell]; rfl
  have yf2 := S1.out.kr.frozen 2
  have y3 : w2.cell? ⟨w.heap.size, 3, none⟩ = some (.slice none 0 0) := by rw [S1.out.kr.cell]; rfl
  have yf3 := S1.out.kr.frozen 3
  go_wp2_with fail
  generalize hWf : ((((w2.setCell _ _).setCell _ _).setCell _ _).setCell _ _) = Wf
  obtain ⟨kf, of, cf, gf⟩ := S1.out.fin hWf
  have e0 : Wf.cell? ⟨w.heap.size, 0, none⟩ = some (.int .i64 k) := by rw [kf.cell]; rfl
  have e1 : Wf.cell? ⟨w.heap.size, 1, none⟩ = some (.int .i64 a) := by rw [kf.cell]; rfl
  have e2 : Wf.cell? ⟨w.heap.size, 2, none⟩ = some (.int .i64 bb) := by rw [kf.cell]; rfl
  have e3 : Wf.cell? ⟨w.heap.size, 3, none⟩ = some (.slice A1 n c1) := by rw [kf.cell]; rfl
  exact bodyPost_ret (v := .agg #[.int .i64 k, .int .i64 a, .int .i64 bb, .slice A1 n c1]) (by simp [results, Try.results83, go_sem, e0, e1, e2, e3]) rfl ⟨k, a, bb, A1, n, c1, zs, JK.out, JA.out, JB.out, JZ.out, by omega, HL.out, rfl, of, cf, gf⟩

end Go.Proofs.Ytbbagpnjjjohpaa.hexes

