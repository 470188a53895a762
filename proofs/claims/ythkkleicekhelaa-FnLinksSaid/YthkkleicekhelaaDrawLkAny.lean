/-
  spec.l06Any.
-/
import Derived.Test.YthkkleicekhelaaDrawLk
import Derived.Test.YthkkleicekhelaaRegQ
namespace Go.Proofs.Ythkkleicekhelaa.hexes
open Go.RowKit

set_option maxRecDepth 100000 in
set_option maxHeartbeats 16000000 in
theorem linkAny_draw (w : World) (c : Nat) (A : Option Addr) (len cap : Nat) (hlen : len ≤ 2097152) (hcur : Cursor w c A len cap) :
    Calls Try.prog 41 #[.pointer (some ⟨c, 0, none⟩)] w (LkEnd 9 2000000000 w c A len cap) := by
  obtain ⟨i0, hi, hz0, hz1, hz2⟩ := info_parts rcinfo
  have hc := hcur.lt
  have HC := Lib.hid hcur
  clear hcur
  go_enter Try.func41, Try.ntmps41
  go_wp2_with fail
  generalize hW : w.alloc _ = W
  have bW : Below w.heap.size w W := by rw [← hW]; exact (Below.refl _ _).alloc (Nat.le_refl _) _
  have r0 : Blk W w.heap.size 26 #[.int .i64 0, .slice none 0 0, .int .i64 0, .int .i64 0, .int .i64 0, .int .i64 0] := by rw [← hW]; exact Blk.new _ _ _
  refine (link_draw W c A len cap hlen (HC.out.belowD bW)).mono ?_
  rintro e w1 ⟨p, a, bb, s, g, A1, n, c1, zs, hn, hl, jp, ja, jb, js, jg, rfl, ho, hc1, g1⟩
  have C1 := Lib.hid hc1
  have G1 := Lib.hid (grown_trans (row := some c) (grown_below (grown_refl w (some c)) bW) g1)
  have R1 := Lib.hid (r0.grown g1 (by simp; omega))
  have O1 := Lib.hid (own_base ho bW.size)
  have z1 : w.heap.size < w1.heap.size := R1.out.lt
  have HL := Lib.hid hl
  clear hc1 g1 r0 bW hW ho hl
  go_wp2_with fail
  generalize hU : w1.alloc _ = U
  have bU : Below w1.heap.size w1 U := by rw [← hU]; exact (Below.refl _ _).alloc (Nat.le_refl _) _
  have S0 := Lib.hid (show LkSt w U c A len cap w.heap.size w1.heap.size p a bb s g A1 n c1 zs from ⟨HC.out, Nat.le_refl _, G1.out.size, by omega, C1.out.belowD bU, grown_below G1.out bU, R1.out.below bU, by rw [← hU]; exact Blk.new _ _ _, own_below O1.out bU⟩)
  clear bU hU C1 G1 R1 O1
  refine (below_any 14 (by omega) (by omega) U c A len cap hlen S0.out.cur).mono ?_
  rintro e w2 ⟨t, ht, rfl, hc2, g2⟩
  have S1 := Lib.hid (S0.out.draw hc2 g2)
  clear hc2 g2 S0
  by_cases t0 : t = 0
  · subst t0
    go_wp2_with fail
    refine (below_any 6 (by omega) (by omega) w2 c A len cap hlen S1.out.cur).mono ?_
    rintro e w3 ⟨y, hy, rfl, hc3, g3⟩
    have S2 := Lib.hid (S1.out.draw hc3 g3)
    obtain ⟨v, hv⟩ : ∃ v : Int, (y : Int) - 1 = v := ⟨_, rfl⟩
    have mv : IntKind.i64.wrap v = v := IntWalk.i64_in _ (by omega)
    have vb : -1 ≤ v ∧ v ≤ 5 := by omega
    clear hc3 g3
    have y0 : w3.cell? ⟨w1.heap.size, 0, none⟩ = some (.int .i64 p) := by rw [S2.out.kx.cell]; rfl
    have y1 : w3.cell? ⟨w1.heap.size, 1, none⟩ = some (.slice A1 n c1) := by rw [S2.out.kx.cell]; rfl
    have y2 : w3.cell? ⟨w1.heap.size, 2, none⟩ = some (.int .i64 a) := by rw [S2.out.kx.cell]; rfl
    have yf2 := S2.out.kx.frozen 2
    have y3 : w3.cell? ⟨w1.heap.size, 3, none⟩ = some (.int .i64 bb) := by rw [S2.out.kx.cell]; rfl
    have y4 : w3.cell? ⟨w1.heap.size, 4, none⟩ = some (.int .i64 s) := by rw [S2.out.kx.cell]; rfl
    have y5 : w3.cell? ⟨w1.heap.size, 5, none⟩ = some (.int .i64 g) := by rw [S2.out.kx.cell]; rfl
    go_upto_region 14 with fail
    clear y0 y1 y2 y3 y4 y5 yf2
    generalize hV : w3.setCell _ _ = V3
    have S5 := Lib.hid (show LkSt w V3 c A len cap w.heap.size w1.heap.size p v bb s g A1 n c1 zs by rw [← hV]; exact S2.out.put2 _)
    clear hV
    have x0 : V3.cell? ⟨w1.heap.size, 0, none⟩ = some (.int .i64 p) := by rw [S5.out.kx.cell]; rfl
    have x1 : V3.cell? ⟨w1.heap.size, 1, none⟩ = some (.slice A1 n c1) := by rw [S5.out.kx.cell]; rfl
    have x2 : V3.cell? ⟨w1.heap.size, 2, none⟩ = some (.int .i64 v) := by rw [S5.out.kx.cell]; rfl
    have x3 : V3.cell? ⟨w1.heap.size, 3, none⟩ = some (.int .i64 bb) := by rw [S5.out.kx.cell]; rfl
    have x4 : V3.cell? ⟨w1.heap.size, 4, none⟩ = some (.int .i64 s) := by rw [S5.out.kx.cell]; rfl
    have x5 : V3.cell? ⟨w1.heap.size, 5, none⟩ = some (.int .i64 g) := by rw [S5.out.kx.cell]; rfl
    have y0 : V3.cell? ⟨w.heap.size, 0, none⟩ = some (.int .i64 0) := by rw [S5.out.kr.cell]; rfl
    have yf0 := S5.out.kr.frozen 0
    have y1 : V3.cell? ⟨w.heap.size, 1, none⟩ = some (.slice none 0 0) := by rw [S5.out.kr.cell]; rfl
    have yf1 := S5.out.kr.frozen 1
    have y2 : V3.cell? ⟨w.heap.size, 2, none⟩ = some (.int .i64 0) := by rw [S5.out.kr.cell]; rfl
    have yf2 := S5.out.kr.frozen 2
    have y3 : V3.cell? ⟨w.heap.size, 3, none⟩ = some (.int .i64 0) := by rw [S5.out.kr.cell]; rfl
    have yf3 := S5.out.kr.frozen 3
    have y4 : V3.cell? ⟨w.heap.size, 4, none⟩ = some (.int .i64 0) := by rw [S5.out.kr.cell]; rfl
    have yf4 := S5.out.kr.frozen 4
    have y5 : V3.cell? ⟨w.heap.size, 5, none⟩ = some (.int .i64 0) := by rw [S5.out.kr.cell]; rfl
    have yf5 := S5.out.kr.frozen 5
    go_wp2_with fail
    generalize hWf : ((((((V3.setCell _ _).setCell _ _).setCell _ _).setCell _ _).setCell _ _).setCell _ _) = Wf
    obtain ⟨kf, of, cf, gf⟩ := S5.out.fin hWf
    have e0 : Wf.cell? ⟨w.heap.size, 0, none⟩ = some (.int .i64 p) := by rw [kf.cell]; rfl
    have e1 : Wf.cell? ⟨w.heap.size, 1, none⟩ = some (.slice A1 n c1) := by rw [kf.cell]; rfl
    have e2 : Wf.cell? ⟨w.heap.size, 2, none⟩ = some (.int .i64 v) := by rw [kf.cell]; rfl
    have e3 : Wf.cell? ⟨w.heap.size, 3, none⟩ = some (.int .i64 bb) := by rw [kf.cell]; rfl
    have e4 : Wf.cell? ⟨w.heap.size, 4, none⟩ = some (.int .i64 s) := by rw [kf.cell]; rfl
    have e5 : Wf.cell? ⟨w.heap.size, 5, none⟩ = some (.int .i64 g) := by rw [kf.cell]; rfl
    exact bodyPost_ret (v := .agg #[.int .i64 p, .slice A1 n c1, .int .i64 v, .int .i64 bb, .int .i64 s, .int .i64 g]) (by simp [results, Try.results41, go_sem, e0, e1, e2, e3, e4, e5]) rfl ⟨p, v, bb, s, g, A1, n, c1, zs, by omega, HL.out, ⟨by omega, by omega⟩, ⟨by omega, by omega⟩, ⟨by omega, by omega⟩, ⟨by omega, by omega⟩, ⟨by omega, by omega⟩, rfl, of, cf, gf⟩
  have d0 : ((t : Int) == 0) = false := by simp; omega
  by_cases t1 : t = 1
  · subst t1
    go_wp2_with fail
    refine (below_any 6 (by omega) (by omega) w2 c A len cap hlen S1.out.cur).mono ?_
    rintro e w3 ⟨y, hy, rfl, hc3, g3⟩
    have S2 := Lib.hid (S1.out.draw hc3 g3)
    obtain ⟨v, hv⟩ : ∃ v : Int, (y : Int) - 1 = v := ⟨_, rfl⟩
    have mv : IntKind.i64.wrap v = v := IntWalk.i64_in _ (by omega)
    have vb : -1 ≤ v ∧ v ≤ 5 := by omega
    clear hc3 g3
    have y0 : w3.cell? ⟨w1.heap.size, 0, none⟩ = some (.int .i64 p) := by rw [S2.out.kx.cell]; rfl
    have y1 : w3.cell? ⟨w1.heap.size, 1, none⟩ = some (.slice A1 n c1) := by rw [S2.out.kx.cell]; rfl
    have y2 : w3.cell? ⟨w1.heap.size, 2, none⟩ = some (.int .i64 a) := by rw [S2.out.kx.cell]; rfl
    have y3 : w3.cell? ⟨w1.heap.size, 3, none⟩ = some (.int .i64 bb) := by rw [S2.out.kx.cell]; rfl
    have yf3 := S2.out.kx.frozen 3
    have y4 : w3.cell? ⟨w1.heap.size, 4, none⟩ = some (.int .i64 s) := by rw [S2.out.kx.cell]; rfl
    have y5 : w3.cell? ⟨w1.heap.size, 5, none⟩ = some (.int .i64 g) := by rw [S2.out.kx.cell]; rfl
    go_upto_region 14 with fail
    clear y0 y1 y2 y3 y4 y5 yf3
    generalize hV : w3.setCell _ _ = V3
    have S5 := Lib.hid (show LkSt w V3 c A len cap w.heap.size w1.heap.size p a v s g A1 n c1 zs by rw [← hV]; exact S2.out.put3 _)
    clear hV
    have x0 : V3.cell? ⟨w1.heap.size, 0, none⟩ = some (.int .i64 p) := by rw [S5.out.kx.cell]; rfl
    have x1 : V3.cell? ⟨w1.heap.size, 1, none⟩ = some (.slice A1 n c1) := by rw [S5.out.kx.cell]; rfl
    have x2 : V3.cell? ⟨w1.heap.size, 2, none⟩ = some (.int .i64 a) := by rw [S5.out.kx.cell]; rfl
    have x3 : V3.cell? ⟨w1.heap.size, 3, none⟩ = some (.int .i64 v) := by rw [S5.out.kx.cell]; rfl
    have x4 : V3.cell? ⟨w1.heap.size, 4, none⟩ = some (.int .i64 s) := by rw [S5.out.kx.cell]; rfl
    have x5 : V3.cell? ⟨w1.heap.size, 5, none⟩ = some (.int .i64 g) := by rw [S5.out.kx.cell]; rfl
    have y0 : V3.cell? ⟨w.heap.size, 0, none⟩ = some (.int .i64 0) := by rw [S5.out.kr.cell]; rfl
    have yf0 := S5.out.kr.frozen 0
    have y1 : V3.cell? ⟨w.heap.size, 1, none⟩ = some (.slice none 0 0) := by rw [S5.out.kr.cell]; rfl
    have yf1 := S5.out.kr.frozen 1
    have y2 : V3.cell? ⟨w.heap.size, 2, none⟩ = some (.int .i64 0) := by rw [S5.out.kr.cell]; rfl
    have yf2 := S5.out.kr.frozen 2
    have y3 : V3.cell? ⟨w.heap.size, 3, none⟩ = some (.int .i64 0) := by rw [S5.out.kr.cell]; rfl
    have yf3 := S5.out.kr.frozen 3
    have y4 : V3.cell? ⟨w.heap.size, 4, none⟩ = some (.int .i64 0) := by rw [S5.out.kr.cell]; rfl
    have yf4 := S5.out.kr.frozen 4
    have y5 : V3.cell? ⟨w.heap.size, 5, none⟩ = some (.int .i64 0) := by rw [S5.out.kr.cell]; rfl
    have yf5 := S5.out.kr.frozen 5
    go_wp2_with fail
    generalize hWf : ((((((V3.setCell _ _).setCell _ _).setCell _ _).setCell _ _).setCell _ _).setCell _ _) = Wf
    obtain ⟨kf, of, cf, gf⟩ := S5.out.fin hWf
    have e0 : Wf.cell? ⟨w.heap.size, 0, none⟩ = some (.int .i64 p) := by rw [kf.cell]; rfl
    have e1 : Wf.cell? ⟨w.heap.size, 1, none⟩ = some (.slice A1 n c1) := by rw [kf.cell]; rfl
    have e2 : Wf.cell? ⟨w.heap.size, 2, none⟩ = some (.int .i64 a) := by rw [kf.cell]; rfl
    have e3 : Wf.cell? ⟨w.heap.size, 3, none⟩ = some (.int .i64 v) := by rw [kf.cell]; rfl
    have e4 : Wf.cell? ⟨w.heap.size, 4, none⟩ = some (.int .i64 s) := by rw [kf.cell]; rfl
    have e5 : Wf.cell? ⟨w.heap.size, 5, none⟩ = some (.int .i64 g) := by rw [kf.cell]; rfl
    exact bodyPost_ret (v := .agg #[.int .i64 p, .slice A1 n c1, .int .i64 a, .int .i64 v, .int .i64 s, .int .i64 g]) (by simp [results, Try.results41, go_sem, e0, e1, e2, e3, e4, e5]) rfl ⟨p, a, v, s, g, A1, n, c1, zs, by omega, HL.out, ⟨by omega, by omega⟩, ⟨by omega, by omega⟩, ⟨by omega, by omega⟩, ⟨by omega, by omega⟩, ⟨by omega, by omega⟩, rfl, of, cf, gf⟩
  have d1 : ((t : Int) == 1) = false := by simp; omega
  by_cases t2 : t = 2
  · subst t2
    go_wp2_with fail
    generalize hV : w2.alloc _ = V
    have bV : Below w2.heap.size w2 V := by rw [← hV]; exact (Below.refl _ _).alloc (Nat.le_refl _) _
    have P := (show Blk V w2.heap.size 3 (([-1, 0, 1000000000, 1000000001] : List Int).map fun n => Value.int .i64 n).toArray by rw [← hV]; exact Blk.new _ _ _)
    have SV := Lib.hid (S1.out.fresh bV)
    have hcu := S1.out.cur.lt
    refine (pickInt_any V c w2.heap.size A len cap 4 [-1, 0, 1000000000, 1000000001] rfl (by omega) (by omega) hlen SV.out.cur (by omega) P).mono ?_
    rintro e w3 ⟨v, hv, rfl, hc3, g3⟩
    have S2 := Lib.hid (SV.out.draw hc3 g3)
    have vb : -1 ≤ v ∧ v ≤ 1000000001 := by
      simp only [List.mem_cons, List.not_mem_nil, or_false] at hv
      omega
    clear hc3 g3 bV P hV hv SV hcu
    have y0 : w3.cell? ⟨w1.heap.size, 0, none⟩ = some (.int .i64 p) := by rw [S2.out.kx.cell]; rfl
    have y1 : w3.cell? ⟨w1.heap.size, 1, none⟩ = some (.slice A1 n c1) := by rw [S2.out.kx.cell]; rfl
    have y2 : w3.cell? ⟨w1.heap.size, 2, none⟩ = some (.int .i64 a) := by rw [S2.out.kx.cell]; rfl
    have y3 : w3.cell? ⟨w1.heap.size, 3, none⟩ = some (.int .i64 bb) := by rw [S2.out.kx.cell]; rfl
    have y4 : w3.cell? ⟨w1.heap.size, 4, none⟩ = some (.int .i64 s) := by rw [S2.out.kx.cell]; rfl
    have yf4 := S2.out.kx.frozen 4
    have y5 : w3.cell? ⟨w1.heap.size, 5, none⟩ = some (.int .i64 g) := by rw [S2.out.kx.cell]; rfl
    go_upto_region 14 with fail
    clear y0 y1 y2 y3 y4 y5 yf4
    generalize hV : w3.setCell _ _ = V3
    have S5 := Lib.hid (show LkSt w V3 c A len cap w.heap.size w1.heap.size p a bb v g A1 n c1 zs by rw [← hV]; exact S2.out.put4 _)
    clear hV
    have x0 : V3.cell? ⟨w1.heap.size, 0, none⟩ = some (.int .i64 p) := by rw [S5.out.kx.cell]; rfl
    have x1 : V3.cell? ⟨w1.heap.size, 1, none⟩ = some (.slice A1 n c1) := by rw [S5.out.kx.cell]; rfl
    have x2 : V3.cell? ⟨w1.heap.size, 2, none⟩ = some (.int .i64 a) := by rw [S5.out.kx.cell]; rfl
    have x3 : V3.cell? ⟨w1.heap.size, 3, none⟩ = some (.int .i64 bb) := by rw [S5.out.kx.cell]; rfl
    have x4 : V3.cell? ⟨w1.heap.size, 4, none⟩ = some (.int .i64 v) := by rw [S5.out.kx.cell]; rfl
    have x5 : V3.cell? ⟨w1.heap.size, 5, none⟩ = some (.int .i64 g) := by rw [S5.out.kx.cell]; rfl
    have y0 : V3.cell? ⟨w.heap.size, 0, none⟩ = some (.int .i64 0) := by rw [S5.out.kr.cell]; rfl
    have yf0 := S5.out.kr.frozen 0
    have y1 : V3.cell? ⟨w.heap.size, 1, none⟩ = some (.slice none 0 0) := by rw [S5.out.kr.cell]; rfl
    have yf1 := S5.out.kr.frozen 1
    have y2 : V3.cell? ⟨w.heap.size, 2, none⟩ = some (.int .i64 0) := by rw [S5.out.kr.cell]; rfl
    have yf2 := S5.out.kr.frozen 2
    have y3 : V3.cell? ⟨w.heap.size, 3, none⟩ = some (.int .i64 0) := by rw [S5.out.kr.cell]; rfl
    have yf3 := S5.out.kr.frozen 3
    have y4 : V3.cell? ⟨w.heap.size, 4, none⟩ = some (.int .i64 0) := by rw [S5.out.kr.cell]; rfl
    have yf4 := S5.out.kr.frozen 4
    have y5 : V3.cell? ⟨w.heap.size, 5, none⟩ = some (.int .i64 0) := by rw [S5.out.kr.cell]; rfl
    have yf5 := S5.out.kr.frozen 5
    go_wp2_with fail
    generalize hWf : ((((((V3.setCell _ _).setCell _ _).setCell _ _).setCell _ _).setCell _ _).setCell _ _) = Wf
    obtain ⟨kf, of, cf, gf⟩ := S5.out.fin hWf
    have e0 : Wf.cell? ⟨w.heap.size, 0, none⟩ = some (.int .i64 p) := by rw [kf.cell]; rfl
    have e1 : Wf.cell? ⟨w.heap.size, 1, none⟩ = some (.slice A1 n c1) := by rw [kf.cell]; rfl
    have e2 : Wf.cell? ⟨w.heap.size, 2, none⟩ = some (.int .i64 a) := by rw [kf.cell]; rfl
    have e3 : Wf.cell? ⟨w.heap.size, 3, none⟩ = some (.int .i64 bb) := by rw [kf.cell]; rfl
    have e4 : Wf.cell? ⟨w.heap.size, 4, none⟩ = some (.int .i64 v) := by rw [kf.cell]; rfl
    have e5 : Wf.cell? ⟨w.heap.size, 5, none⟩ = some (.int .i64 g) := by rw [kf.cell]; rfl
    exact bodyPost_ret (v := .agg #[.int .i64 p, .slice A1 n c1, .int .i64 a, .int .i64 bb, .int .i64 v, .int .i64 g]) (by simp [results, Try.results41, go_sem, e0, e1, e2, e3, e4, e5]) rfl ⟨p, a, bb, v, g, A1, n, c1, zs, by omega, HL.out, ⟨by omega, by omega⟩, ⟨by omega, by omega⟩, ⟨by omega, by omega⟩, ⟨by omega, by omega⟩, ⟨by omega, by omega⟩, rfl, of, cf, gf⟩
  have d2 : ((t : Int) == 2) = false := by simp; omega
  by_cases t3 : t = 3
  · subst t3
    go_wp2_with fail
    obtain ⟨w3, hw3⟩ : ∃ z, w2.drew = z := ⟨_, rfl⟩
    have S4 := Lib.hid (show LkSt w w3 c A len cap w.heap.size w1.heap.size p a bb s g A1 n c1 zs by rw [← hw3]; exact S1.out.drew)
    refine wp_region_held_drew (S := fun _ => True) (by kernel_rfl) ?_ (fun hHeld => ?_)
    · exact trivial
    change wpAnyH _ _ opsQ10 _ _ 8 (#[false, false, false, false, false, false, false, false] : Array Bool) _ _
    rw [hw3]
    clear hw3 S1
    refine tQ10_e_0 (.pointer (some ⟨w1.heap.size, 1, none⟩)) (fun _ _ _ h => h) (Or.inl ⟨by rfl, fun W hSw => ?_⟩) hHeld ?_
    · skip
      unfold qQ10_0
      go_simp
    try simp only [Act.put, List.setIfInBounds_toArray, List.set_cons_zero, List.set_cons_succ]
    refine tQ10_0_2 (.pointer (some ⟨c, 0, none⟩)) (fun _ _ _ h => h) (Or.inl ⟨by rfl, fun W hSw => ?_⟩) hHeld ?_
    · skip
      unfold qQ10_2
      go_simp
    try simp only [Act.put, List.setIfInBounds_toArray, List.set_cons_zero, List.set_cons_succ]
    refine cQ10_02_13 (fun K hK => ?_) (fun K hK => ?_)
    · rw [if_pos (by rfl)]
      unfold qQ10_1
      have l1 : w3.cell? ⟨w1.heap.size, 1, none⟩ = some (.slice A1 n c1) := by rw [S4.out.kx.cell]; rfl
      go_simp
      clear l1
      refine Shut.out hK _ _ ?_ (fun hHeld => ?_)
      · exact trivial
      clear hK K
      try simp only [Act.put, List.setIfInBounds_toArray, List.set_cons_zero, List.set_cons_succ]
      refine cQ10_012_3 (fun K hK => ?_)
      rw [if_pos (by rfl)]
      unfold qQ10_3
      go_simp
      refine (anyRc_draw w3 c A len cap hlen S4.out.cur).mono ?_
      rintro e v1 ⟨p0, p1, p2, p3, p4, _, rfl, hcn, gn⟩
      have T1 := Lib.hid (S4.out.draw hcn gn)
      clear hcn gn
      refine Shut.out hK _ _ ?_ (fun hHeld => ?_)
      · exact trivial
      clear hK K
      try simp only [Act.put, List.setIfInBounds_toArray, List.set_cons_zero, List.set_cons_succ]
      refine cQ10_0123_4 (fun K hK => ?_)
      rw [if_pos (by rfl)]
      unfold qQ10_4
      go_simp
      generalize hV : World.alloc _ _ = v2
      have hbv : Below v1.heap.size v1 v2 := by rw [← hV]; exact (Below.refl _ _).alloc (Nat.le_refl _) _
      have NB := Lib.hid (show Blk v2 v1.heap.size 30 #[.int .i64 p0, .int .i64 p1, .int .i64 p2, .int .i64 p3, .int .i64 p4] by rw [← hV]; exact Blk.new _ _ _)
      have T2 := Lib.hid (T1.out.fresh hbv)
      clear hbv hV
      refine Shut.out hK _ _ ?_ (fun hHeld => ?_)
      · exact trivial
      clear hK K
      try simp only [Act.put, List.setIfInBounds_toArray, List.set_cons_zero, List.set_cons_succ]
      refine cQ10_01234_5 (fun K hK => ?_)
      refine step_append_lies _ (by rfl) _ _ 24 (by rfl) w.heap.size 30 i0 (.agg #[.int .i64 0, .int .i64 0, .int .i64 0, .int .i64 0, .int .i64 0]) 5 40 Try.underlying24 hi hz0 hz1 hz2 rfl (by decide) _ n _ (by rfl) T2.out.row ⟨v1.heap.size, 0, none⟩ 1 1 [.int .i64 p0, .int .i64 p1, .int .i64 p2, .int .i64 p3, .int .i64 p4] (by rfl) rfl (World.news_of_block NB.out) (by simp [Value.oneCell']) (by decide) (by unfold maxLen; omega) (by omega) T2.out.gr.size _ rfl ?_
      intro g4 cap4 v3 OA GA _ _
      have OA := Lib.hid OA
      have GA := Lib.hid GA
      refine Shut.out hK _ _ ?_ (fun hHeld => ?_)
      · exact trivial
      clear hK K
      simp only [qQ10_5, Act.put, List.setIfInBounds_toArray, List.set_cons_zero, List.set_cons_succ]
      refine tQ10_012345_6 (.pointer (some ⟨w1.heap.size, 1, none⟩)) (fun _ _ _ h => h) (Or.inl ⟨by rfl, fun W hSw => ?_⟩) hHeld ?_
      · skip
        unfold qQ10_6
        go_simp
      try simp only [Act.put, List.setIfInBounds_toArray, List.set_cons_zero, List.set_cons_succ]
      refine cQ10_0123456_7 (fun K hK => ?_)
      rw [if_pos (by rfl)]
      unfold qQ10_7
      obtain ⟨A2, c2, he, SN⟩ := T2.out.app (z := (p0, (p1, p2), p3, p4)) OA.out GA.out
      simp only [Value.slice.injEq, true_and] at he
      obtain ⟨rfl, rfl⟩ := he
      have kxo := T2.out.kx.grown GA.out (Ne.symm (own_type T2.out.row T2.out.kx (by decide)))
      have l1 : v3.cell? ⟨w1.heap.size, 1, none⟩ = some (.slice A1 n c1) := by rw [kxo.cell]; rfl
      have lf1 := kxo.frozen 1
      go_simp
      generalize hV : v3.setCell _ _ = v4 at SN ⊢
      have T4 := Lib.hid SN
      clear l1 lf1 kxo hV SN OA GA NB
      refine Shut.out hK _ _ ?_ (fun hHeld => ?_)
      · exact trivial
      clear hK K
      try simp only [Act.put, List.setIfInBounds_toArray, List.set_cons_zero, List.set_cons_succ]
      refine wpAnyH_done (by kernel_rfl) ?_ _
      clear hHeld
      have HL2 := Lib.hid (show (zs ++ [(p0, (p1, p2), p3, p4)]).length = n + 1 by simp [HL.out])
      have x0 : v4.cell? ⟨w1.heap.size, 0, none⟩ = some (.int .i64 p) := by rw [T4.out.kx.cell]; rfl
      have x1 : v4.cell? ⟨w1.heap.size, 1, none⟩ = some (.slice (some ⟨g4, 0, none⟩) (n + 1) cap4) := by rw [T4.out.kx.cell]; rfl
      have x2 : v4.cell? ⟨w1.heap.size, 2, none⟩ = some (.int .i64 a) := by rw [T4.out.kx.cell]; rfl
      have x3 : v4.cell? ⟨w1.heap.size, 3, none⟩ = some (.int .i64 bb) := by rw [T4.out.kx.cell]; rfl
      have x4 : v4.cell? ⟨w1.heap.size, 4, none⟩ = some (.int .i64 s) := by rw [T4.out.kx.cell]; rfl
      have x5 : v4.cell? ⟨w1.heap.size, 5, none⟩ = some (.int .i64 g) := by rw [T4.out.kx.cell]; rfl
      have y0 : v4.cell? ⟨w.heap.size, 0, none⟩ = some (.int .i64 0) := by rw [T4.out.kr.cell]; rfl
      have yf0 := T4.out.kr.frozen 0
      have y1 : v4.cell? ⟨w.heap.size, 1, none⟩ = some (.slice none 0 0) := by rw [T4.out.kr.cell]; rfl
      have yf1 := T4.out.kr.frozen 1
      have y2 : v4.cell? ⟨w.heap.size, 2, none⟩ = some (.int .i64 0) := by rw [T4.out.kr.cell]; rfl
      have yf2 := T4.out.kr.frozen 2
      have y3 : v4.cell? ⟨w.heap.size, 3, none⟩ = some (.int .i64 0) := by rw [T4.out.kr.cell]; rfl
      have yf3 := T4.out.kr.frozen 3
      have y4 : v4.cell? ⟨w.heap.size, 4, none⟩ = some (.int .i64 0) := by rw [T4.out.kr.cell]; rfl
      have yf4 := T4.out.kr.frozen 4
      have y5 : v4.cell? ⟨w.heap.size, 5, none⟩ = some (.int .i64 0) := by rw [T4.out.kr.cell]; rfl
      have yf5 := T4.out.kr.frozen 5
      go_wp2_with fail
      generalize hWf : ((((((v4.setCell _ _).setCell _ _).setCell _ _).setCell _ _).setCell _ _).setCell _ _) = Wf
      obtain ⟨kf, of, cf, gf⟩ := T4.out.fin hWf
      have e0 : Wf.cell? ⟨w.heap.size, 0, none⟩ = some (.int .i64 p) := by rw [kf.cell]; rfl
      have e1 : Wf.cell? ⟨w.heap.size, 1, none⟩ = some (.slice (some ⟨g4, 0, none⟩) (n + 1) cap4) := by rw [kf.cell]; rfl
      have e2 : Wf.cell? ⟨w.heap.size, 2, none⟩ = some (.int .i64 a) := by rw [kf.cell]; rfl
      have e3 : Wf.cell? ⟨w.heap.size, 3, none⟩ = some (.int .i64 bb) := by rw [kf.cell]; rfl
      have e4 : Wf.cell? ⟨w.heap.size, 4, none⟩ = some (.int .i64 s) := by rw [kf.cell]; rfl
      have e5 : Wf.cell? ⟨w.heap.size, 5, none⟩ = some (.int .i64 g) := by rw [kf.cell]; rfl
      exact bodyPost_ret (v := .agg #[.int .i64 p, .slice (some ⟨g4, 0, none⟩) (n + 1) cap4, .int .i64 a, .int .i64 bb, .int .i64 s, .int .i64 g]) (by simp [results, Try.results41, go_sem, e0, e1, e2, e3, e4, e5]) rfl ⟨p, a, bb, s, g, (some ⟨g4, 0, none⟩), (n + 1), cap4, (zs ++ [(p0, (p1, p2), p3, p4)]), by omega, HL2.out, ⟨by omega, by omega⟩, ⟨by omega, by omega⟩, ⟨by omega, by omega⟩, ⟨by omega, by omega⟩, ⟨by omega, by omega⟩, rfl, of, cf, gf⟩
    · rw [if_pos (by rfl)]
      unfold qQ10_3
      go_simp
      refine (anyRc_draw w3 c A len cap hlen S4.out.cur).mono ?_
      rintro e v1 ⟨p0, p1, p2, p3, p4, _, rfl, hcn, gn⟩
      have T1 := Lib.hid (S4.out.draw hcn gn)
      clear hcn gn
      refine Shut.out hK _ _ ?_ (fun hHeld => ?_)
      · exact trivial
      clear hK K
      try simp only [Act.put, List.setIfInBounds_toArray, List.set_cons_zero, List.set_cons_succ]
      refine cQ10_023_14 (fun K hK => ?_) (fun K hK => ?_)
      · rw [if_pos (by rfl)]
        unfold qQ10_1
        have l1 : v1.cell? ⟨w1.heap.size, 1, none⟩ = some (.slice A1 n c1) := by rw [T1.out.kx.cell]; rfl
        go_simp
        clear l1
        refine Shut.out hK _ _ ?_ (fun hHeld => ?_)
        · exact trivial
        clear hK K
        try simp only [Act.put, List.setIfInBounds_toArray, List.set_cons_zero, List.set_cons_succ]
        refine cQ10_0123_4 (fun K hK => ?_)
        rw [if_pos (by rfl)]
        unfold qQ10_4
        go_simp
        generalize hV : World.alloc _ _ = v2
        have hbv : Below v1.heap.size v1 v2 := by rw [← hV]; exact (Below.refl _ _).alloc (Nat.le_refl _) _
        have NB := Lib.hid (show Blk v2 v1.heap.size 30 #[.int .i64 p0, .int .i64 p1, .int .i64 p2, .int .i64 p3, .int .i64 p4] by rw [← hV]; exact Blk.new _ _ _)
        have T2 := Lib.hid (T1.out.fresh hbv)
        clear hbv hV
        refine Shut.out hK _ _ ?_ (fun hHeld => ?_)
        · exact trivial
        clear hK K
        try simp only [Act.put, List.setIfInBounds_toArray, List.set_cons_zero, List.set_cons_succ]
        refine cQ10_01234_5 (fun K hK => ?_)
        refine step_append_lies _ (by rfl) _ _ 24 (by rfl) w.heap.size 30 i0 (.agg #[.int .i64 0, .int .i64 0, .int .i64 0, .int .i64 0, .int .i64 0]) 5 40 Try.underlying24 hi hz0 hz1 hz2 rfl (by decide) _ n _ (by rfl) T2.out.row ⟨v1.heap.size, 0, none⟩ 1 1 [.int .i64 p0, .int .i64 p1, .int .i64 p2, .int .i64 p3, .int .i64 p4] (by rfl) rfl (World.news_of_block NB.out) (by simp [Value.oneCell']) (by decide) (by unfold maxLen; omega) (by omega) T2.out.gr.size _ rfl ?_
        intro g4 cap4 v3 OA GA _ _
        have OA := Lib.hid OA
        have GA := Lib.hid GA
        refine Shut.out hK _ _ ?_ (fun hHeld => ?_)
        · exact trivial
        clear hK K
        simp only [qQ10_5, Act.put, List.setIfInBounds_toArray, List.set_cons_zero, List.set_cons_succ]
        refine tQ10_012345_6 (.pointer (some ⟨w1.heap.size, 1, none⟩)) (fun _ _ _ h => h) (Or.inl ⟨by rfl, fun W hSw => ?_⟩) hHeld ?_
        · skip
          unfold qQ10_6
          go_simp
        try simp only [Act.put, List.setIfInBounds_toArray, List.set_cons_zero, List.set_cons_succ]
        refine cQ10_0123456_7 (fun K hK => ?_)
        rw [if_pos (by rfl)]
        unfold qQ10_7
        obtain ⟨A2, c2, he, SN⟩ := T2.out.app (z := (p0, (p1, p2), p3, p4)) OA.out GA.out
        simp only [Value.slice.injEq, true_and] at he
        obtain ⟨rfl, rfl⟩ := he
        have kxo := T2.out.kx.grown GA.out (Ne.symm (own_type T2.out.row T2.out.kx (by decide)))
        have l1 : v3.cell? ⟨w1.heap.size, 1, none⟩ = some (.slice A1 n c1) := by rw [kxo.cell]; rfl
        have lf1 := kxo.frozen 1
        go_simp
        generalize hV : v3.setCell _ _ = v4 at SN ⊢
        have T4 := Lib.hid SN
        clear l1 lf1 kxo hV SN OA GA NB
        refine Shut.out hK _ _ ?_ (fun hHeld => ?_)
        · exact trivial
        clear hK K
        try simp only [Act.put, List.setIfInBounds_toArray, List.set_cons_zero, List.set_cons_succ]
        refine wpAnyH_done (by kernel_rfl) ?_ _
        clear hHeld
        have HL2 := Lib.hid (show (zs ++ [(p0, (p1, p2), p3, p4)]).length = n + 1 by simp [HL.out])
        have x0 : v4.cell? ⟨w1.heap.size, 0, none⟩ = some (.int .i64 p) := by rw [T4.out.kx.cell]; rfl
        have x1 : v4.cell? ⟨w1.heap.size, 1, none⟩ = some (.slice (some ⟨g4, 0, none⟩) (n + 1) cap4) := by rw [T4.out.kx.cell]; rfl
        have x2 : v4.cell? ⟨w1.heap.size, 2, none⟩ = some (.int .i64 a) := by rw [T4.out.kx.cell]; rfl
        have x3 : v4.cell? ⟨w1.heap.size, 3, none⟩ = some (.int .i64 bb) := by rw [T4.out.kx.cell]; rfl
        have x4 : v4.cell? ⟨w1.heap.size, 4, none⟩ = some (.int .i64 s) := by rw [T4.out.kx.cell]; rfl
        have x5 : v4.cell? ⟨w1.heap.size, 5, none⟩ = some (.int .i64 g) := by rw [T4.out.kx.cell]; rfl
        have y0 : v4.cell? ⟨w.heap.size, 0, none⟩ = some (.int .i64 0) := by rw [T4.out.kr.cell]; rfl
        have yf0 := T4.out.kr.frozen 0
        have y1 : v4.cell? ⟨w.heap.size, 1, none⟩ = some (.slice none 0 0) := by rw [T4.out.kr.cell]; rfl
        have yf1 := T4.out.kr.frozen 1
        have y2 : v4.cell? ⟨w.heap.size, 2, none⟩ = some (.int .i64 0) := by rw [T4.out.kr.cell]; rfl
        have yf2 := T4.out.kr.frozen 2
        have y3 : v4.cell? ⟨w.heap.size, 3, none⟩ = some (.int .i64 0) := by rw [T4.out.kr.cell]; rfl
        have yf3 := T4.out.kr.frozen 3
        have y4 : v4.cell? ⟨w.heap.size, 4, none⟩ = some (.int .i64 0) := by rw [T4.out.kr.cell]; rfl
        have yf4 := T4.out.kr.frozen 4
        have y5 : v4.cell? ⟨w.heap.size, 5, none⟩ = some (.int .i64 0) := by rw [T4.out.kr.cell]; rfl
        have yf5 := T4.out.kr.frozen 5
        go_wp2_with fail
        generalize hWf : ((((((v4.setCell _ _).setCell _ _).setCell _ _).setCell _ _).setCell _ _).setCell _ _) = Wf
        obtain ⟨kf, of, cf, gf⟩ := T4.out.fin hWf
        have e0 : Wf.cell? ⟨w.heap.size, 0, none⟩ = some (.int .i64 p) := by rw [kf.cell]; rfl
        have e1 : Wf.cell? ⟨w.heap.size, 1, none⟩ = some (.slice (some ⟨g4, 0, none⟩) (n + 1) cap4) := by rw [kf.cell]; rfl
        have e2 : Wf.cell? ⟨w.heap.size, 2, none⟩ = some (.int .i64 a) := by rw [kf.cell]; rfl
        have e3 : Wf.cell? ⟨w.heap.size, 3, none⟩ = some (.int .i64 bb) := by rw [kf.cell]; rfl
        have e4 : Wf.cell? ⟨w.heap.size, 4, none⟩ = some (.int .i64 s) := by rw [kf.cell]; rfl
        have e5 : Wf.cell? ⟨w.heap.size, 5, none⟩ = some (.int .i64 g) := by rw [kf.cell]; rfl
        exact bodyPost_ret (v := .agg #[.int .i64 p, .slice (some ⟨g4, 0, none⟩) (n + 1) cap4, .int .i64 a, .int .i64 bb, .int .i64 s, .int .i64 g]) (by simp [results, Try.results41, go_sem, e0, e1, e2, e3, e4, e5]) rfl ⟨p, a, bb, s, g, (some ⟨g4, 0, none⟩), (n + 1), cap4, (zs ++ [(p0, (p1, p2), p3, p4)]), by omega, HL2.out, ⟨by omega, by omega⟩, ⟨by omega, by omega⟩, ⟨by omega, by omega⟩, ⟨by omega, by omega⟩, ⟨by omega, by omega⟩, rfl, of, cf, gf⟩
      · rw [if_pos (by rfl)]
        unfold qQ10_4
        go_simp
        generalize hV : World.alloc _ _ = v2
        have hbv : Below v1.heap.size v1 v2 := by rw [← hV]; exact (Below.refl _ _).alloc (Nat.le_refl _) _
        have NB := Lib.hid (show Blk v2 v1.heap.size 30 #[.int .i64 p0, .int .i64 p1, .int .i64 p2, .int .i64 p3, .int .i64 p4] by rw [← hV]; exact Blk.new _ _ _)
        have T2 := Lib.hid (T1.out.fresh hbv)
        clear hbv hV
        refine Shut.out hK _ _ ?_ (fun hHeld => ?_)
        · exact trivial
        clear hK K
        try simp only [Act.put, List.setIfInBounds_toArray, List.set_cons_zero, List.set_cons_succ]
        refine cQ10_0234_1 (fun K hK => ?_)
        rw [if_pos (by rfl)]
        unfold qQ10_1
        have l1 : v2.cell? ⟨w1.heap.size, 1, none⟩ = some (.slice A1 n c1) := by rw [T2.out.kx.cell]; rfl
        go_simp
        clear l1
        refine Shut.out hK _ _ ?_ (fun hHeld => ?_)
        · exact trivial
        clear hK K
        try simp only [Act.put, List.setIfInBounds_toArray, List.set_cons_zero, List.set_cons_succ]
        refine cQ10_01234_5 (fun K hK => ?_)
        refine step_append_lies _ (by rfl) _ _ 24 (by rfl) w.heap.size 30 i0 (.agg #[.int .i64 0, .int .i64 0, .int .i64 0, .int .i64 0, .int .i64 0]) 5 40 Try.underlying24 hi hz0 hz1 hz2 rfl (by decide) _ n _ (by rfl) T2.out.row ⟨v1.heap.size, 0, none⟩ 1 1 [.int .i64 p0, .int .i64 p1, .int .i64 p2, .int .i64 p3, .int .i64 p4] (by rfl) rfl (World.news_of_block NB.out) (by simp [Value.oneCell']) (by decide) (by unfold maxLen; omega) (by omega) T2.out.gr.size _ rfl ?_
        intro g4 cap4 v3 OA GA _ _
        have OA := Lib.hid OA
        have GA := Lib.hid GA
        refine Shut.out hK _ _ ?_ (fun hHeld => ?_)
        · exact trivial
        clear hK K
        simp only [qQ10_5, Act.put, List.setIfInBounds_toArray, List.set_cons_zero, List.set_cons_succ]
        refine tQ10_012345_6 (.pointer (some ⟨w1.heap.size, 1, none⟩)) (fun _ _ _ h => h) (Or.inl ⟨by rfl, fun W hSw => ?_⟩) hHeld ?_
        · skip
          unfold qQ10_6
          go_simp
        try simp only [Act.put, List.setIfInBounds_toArray, List.set_cons_zero, List.set_cons_succ]
        refine cQ10_0123456_7 (fun K hK => ?_)
        rw [if_pos (by rfl)]
        unfold qQ10_7
        obtain ⟨A2, c2, he, SN⟩ := T2.out.app (z := (p0, (p1, p2), p3, p4)) OA.out GA.out
        simp only [Value.slice.injEq, true_and] at he
        obtain ⟨rfl, rfl⟩ := he
        have kxo := T2.out.kx.grown GA.out (Ne.symm (own_type T2.out.row T2.out.kx (by decide)))
        have l1 : v3.cell? ⟨w1.heap.size, 1, none⟩ = some (.slice A1 n c1) := by rw [kxo.cell]; rfl
        have lf1 := kxo.frozen 1
        go_simp
        generalize hV : v3.setCell _ _ = v4 at SN ⊢
        have T4 := Lib.hid SN
        clear l1 lf1 kxo hV SN OA GA NB
        refine Shut.out hK _ _ ?_ (fun hHeld => ?_)
        · exact trivial
        clear hK K
        try simp only [Act.put, List.setIfInBounds_toArray, List.set_cons_zero, List.set_cons_succ]
        refine wpAnyH_done (by kernel_rfl) ?_ _
        clear hHeld
        have HL2 := Lib.hid (show (zs ++ [(p0, (p1, p2), p3, p4)]).length = n + 1 by simp [HL.out])
        have x0 : v4.cell? ⟨w1.heap.size, 0, none⟩ = some (.int .i64 p) := by rw [T4.out.kx.cell]; rfl
        have x1 : v4.cell? ⟨w1.heap.size, 1, none⟩ = some (.slice (some ⟨g4, 0, none⟩) (n + 1) cap4) := by rw [T4.out.kx.cell]; rfl
        have x2 : v4.cell? ⟨w1.heap.size, 2, none⟩ = some (.int .i64 a) := by rw [T4.out.kx.cell]; rfl
        have x3 : v4.cell? ⟨w1.heap.size, 3, none⟩ = some (.int .i64 bb) := by rw [T4.out.kx.cell]; rfl
        have x4 : v4.cell? ⟨w1.heap.size, 4, none⟩ = some (.int .i64 s) := by rw [T4.out.kx.cell]; rfl
        have x5 : v4.cell? ⟨w1.heap.size, 5, none⟩ = some (.int .i64 g) := by rw [T4.out.kx.cell]; rfl
        have y0 : v4.cell? ⟨w.heap.size, 0, none⟩ = some (.int .i64 0) := by rw [T4.out.kr.cell]; rfl
        have yf0 := T4.out.kr.frozen 0
        have y1 : v4.cell? ⟨w.heap.size, 1, none⟩ = some (.slice none 0 0) := by rw [T4.out.kr.cell]; rfl
        have yf1 := T4.out.kr.frozen 1
        have y2 : v4.cell? ⟨w.heap.size, 2, none⟩ = some (.int .i64 0) := by rw [T4.out.kr.cell]; rfl
        have yf2 := T4.out.kr.frozen 2
        have y3 : v4.cell? ⟨w.heap.size, 3, none⟩ = some (.int .i64 0) := by rw [T4.out.kr.cell]; rfl
        have yf3 := T4.out.kr.frozen 3
        have y4 : v4.cell? ⟨w.heap.size, 4, none⟩ = some (.int .i64 0) := by rw [T4.out.kr.cell]; rfl
        have yf4 := T4.out.kr.frozen 4
        have y5 : v4.cell? ⟨w.heap.size, 5, none⟩ = some (.int .i64 0) := by rw [T4.out.kr.cell]; rfl
        have yf5 := T4.out.kr.frozen 5
        go_wp2_with fail
        generalize hWf : ((((((v4.setCell _ _).setCell _ _).setCell _ _).setCell _ _).setCell _ _).setCell _ _) = Wf
        obtain ⟨kf, of, cf, gf⟩ := T4.out.fin hWf
        have e0 : Wf.cell? ⟨w.heap.size, 0, none⟩ = some (.int .i64 p) := by rw [kf.cell]; rfl
        have e1 : Wf.cell? ⟨w.heap.size, 1, none⟩ = some (.slice (some ⟨g4, 0, none⟩) (n + 1) cap4) := by rw [kf.cell]; rfl
        have e2 : Wf.cell? ⟨w.heap.size, 2, none⟩ = some (.int .i64 a) := by rw [kf.cell]; rfl
        have e3 : Wf.cell? ⟨w.heap.size, 3, none⟩ = some (.int .i64 bb) := by rw [kf.cell]; rfl
        have e4 : Wf.cell? ⟨w.heap.size, 4, none⟩ = some (.int .i64 s) := by rw [kf.cell]; rfl
        have e5 : Wf.cell? ⟨w.heap.size, 5, none⟩ = some (.int .i64 g) := by rw [kf.cell]; rfl
        exact bodyPost_ret (v := .agg #[.int .i64 p, .slice (some ⟨g4, 0, none⟩) (n + 1) cap4, .int .i64 a, .int .i64 bb, .int .i64 s, .int .i64 g]) (by simp [results, Try.results41, go_sem, e0, e1, e2, e3, e4, e5]) rfl ⟨p, a, bb, s, g, (some ⟨g4, 0, none⟩), (n + 1), cap4, (zs ++ [(p0, (p1, p2), p3, p4)]), by omega, HL2.out, ⟨by omega, by omega⟩, ⟨by omega, by omega⟩, ⟨by omega, by omega⟩, ⟨by omega, by omega⟩, ⟨by omega, by omega⟩, rfl, of, cf, gf⟩
  have d3 : ((t : Int) == 3) = false := by simp; omega
  by_cases t4 : t = 4
  · subst t4
    obtain ⟨gx, hgx⟩ : ∃ z : Int, 1000000000 - (n : Int) = z := ⟨_, rfl⟩
    have mg : IntKind.i64.wrap gx = gx := IntWalk.i64_in _ (by omega)
    have gb : 0 ≤ gx ∧ gx ≤ 1000000000 := by omega
    have y0 : w2.cell? ⟨w1.heap.size, 0, none⟩ = some (.int .i64 p) := by rw [S1.out.kx.cell]; rfl
    have y1 : w2.cell? ⟨w1.heap.size, 1, none⟩ = some (.slice A1 n c1) := by rw [S1.out.kx.cell]; rfl
    have y2 : w2.cell? ⟨w1.heap.size, 2, none⟩ = some (.int .i64 a) := by rw [S1.out.kx.cell]; rfl
    have y3 : w2.cell? ⟨w1.heap.size, 3, none⟩ = some (.int .i64 bb) := by rw [S1.out.kx.cell]; rfl
    have y4 : w2.cell? ⟨w1.heap.size, 4, none⟩ = some (.int .i64 s) := by rw [S1.out.kx.cell]; rfl
    have yf4 := S1.out.kx.frozen 4
    have y5 : w2.cell? ⟨w1.heap.size, 5, none⟩ = some (.int .i64 g) := by rw [S1.out.kx.cell]; rfl
    have yf5 := S1.out.kx.frozen 5
    go_upto_region 14 with fail
    clear y0 y1 y2 y3 y4 y5 yf4 yf5
    generalize hV : (w2.setCell _ _).setCell _ _ = V3
    have S5 := Lib.hid (show LkSt w V3 c A len cap w.heap.size w1.heap.size p a bb 1000000000 gx A1 n c1 zs by rw [← hV]; exact (S1.out.put4 _).put5 _)
    clear hV hgx
    have x0 : V3.cell? ⟨w1.heap.size, 0, none⟩ = some (.int .i64 p) := by rw [S5.out.kx.cell]; rfl
    have x1 : V3.cell? ⟨w1.heap.size, 1, none⟩ = some (.slice A1 n c1) := by rw [S5.out.kx.cell]; rfl
    have x2 : V3.cell? ⟨w1.heap.size, 2, none⟩ = some (.int .i64 a) := by rw [S5.out.kx.cell]; rfl
    have x3 : V3.cell? ⟨w1.heap.size, 3, none⟩ = some (.int .i64 bb) := by rw [S5.out.kx.cell]; rfl
    have x4 : V3.cell? ⟨w1.heap.size, 4, none⟩ = some (.int .i64 1000000000) := by rw [S5.out.kx.cell]; rfl
    have x5 : V3.cell? ⟨w1.heap.size, 5, none⟩ = some (.int .i64 gx) := by rw [S5.out.kx.cell]; rfl
    have y0 : V3.cell? ⟨w.heap.size, 0, none⟩ = some (.int .i64 0) := by rw [S5.out.kr.cell]; rfl
    have yf0 := S5.out.kr.frozen 0
    have y1 : V3.cell? ⟨w.heap.size, 1, none⟩ = some (.slice none 0 0) := by rw [S5.out.kr.cell]; rfl
    have yf1 := S5.out.kr.frozen 1
    have y2 : V3.cell? ⟨w.heap.size, 2, none⟩ = some (.int .i64 0) := by rw [S5.out.kr.cell]; rfl
    have yf2 := S5.out.kr.frozen 2
    have y3 : V3.cell? ⟨w.heap.size, 3, none⟩ = some (.int .i64 0) := by rw [S5.out.kr.cell]; rfl
    have yf3 := S5.out.kr.frozen 3
    have y4 : V3.cell? ⟨w.heap.size, 4, none⟩ = some (.int .i64 0) := by rw [S5.out.kr.cell]; rfl
    have yf4 := S5.out.kr.frozen 4
    have y5 : V3.cell? ⟨w.heap.size, 5, none⟩ = some (.int .i64 0) := by rw [S5.out.kr.cell]; rfl
    have yf5 := S5.out.kr.frozen 5
    go_wp2_with fail
    generalize hWf : ((((((V3.setCell _ _).setCell _ _).setCell _ _).setCell _ _).setCell _ _).setCell _ _) = Wf
    obtain ⟨kf, of, cf, gf⟩ := S5.out.fin hWf
    have e0 : Wf.cell? ⟨w.heap.size, 0, none⟩ = some (.int .i64 p) := by rw [kf.cell]; rfl
    have e1 : Wf.cell? ⟨w.heap.size, 1, none⟩ = some (.slice A1 n c1) := by rw [kf.cell]; rfl
    have e2 : Wf.cell? ⟨w.heap.size, 2, none⟩ = some (.int .i64 a) := by rw [kf.cell]; rfl
    have e3 : Wf.cell? ⟨w.heap.size, 3, none⟩ = some (.int .i64 bb) := by rw [kf.cell]; rfl
    have e4 : Wf.cell? ⟨w.heap.size, 4, none⟩ = some (.int .i64 1000000000) := by rw [kf.cell]; rfl
    have e5 : Wf.cell? ⟨w.heap.size, 5, none⟩ = some (.int .i64 gx) := by rw [kf.cell]; rfl
    exact bodyPost_ret (v := .agg #[.int .i64 p, .slice A1 n c1, .int .i64 a, .int .i64 bb, .int .i64 1000000000, .int .i64 gx]) (by simp [results, Try.results41, go_sem, e0, e1, e2, e3, e4, e5]) rfl ⟨p, a, bb, 1000000000, gx, A1, n, c1, zs, by omega, HL.out, ⟨by omega, by omega⟩, ⟨by omega, by omega⟩, ⟨by omega, by omega⟩, ⟨by omega, by omega⟩, ⟨by omega, by omega⟩, rfl, of, cf, gf⟩
  have d4 : ((t : Int) == 4) = false := by simp; omega
  have x0 : w2.cell? ⟨w1.heap.size, 0, none⟩ = some (.int .i64 p) := by rw [S1.out.kx.cell]; rfl
  have x1 : w2.cell? ⟨w1.heap.size, 1, none⟩ = some (.slice A1 n c1) := by rw [S1.out.kx.cell]; rfl
  have x2 : w2.cell? ⟨w1.heap.size, 2, none⟩ = some (.int .i64 a) := by rw [S1.out.kx.cell]; rfl
  have x3 : w2.cell? ⟨w1.heap.size, 3, none⟩ = some (.int .i64 bb) := by rw [S1.out.kx.cell]; rfl
  have x4 : w2.cell? ⟨w1.heap.size, 4, none⟩ = some (.int .i64 s) := by rw [S1.out.kx.cell]; rfl
  have x5 : w2.cell? ⟨w1.heap.size, 5, none⟩ = some (.int .i64 g) := by rw [S1.out.kx.cell]; rfl
  have y0 : w2.cell? ⟨w.heap.size, 0, none⟩ = some (.int .i64 0) := by rw [S1.out.kr.cell]; rfl
  have yf0 := S1.out.kr.frozen 0
  have y1 : w2.cell? ⟨w.heap.size, 1, none⟩ = some (.slice none 0 0) := by rw [S1.out.kr.cell]; rfl
  have yf1 := S1.out.kr.frozen 1
  have y2 : w2.cell? ⟨w.heap.size, 2, none⟩ = some (.int .i64 0) := by rw [S1.out.kr.cell]; rfl
  have yf2 := S1.out.kr.frozen 2
  have y3 : w2.cell? ⟨w.heap.size, 3, none⟩ = some (.int .i64 0) := by rw [S1.out.kr.cell]; rfl
  have yf3 := S1.out.kr.frozen 3
  have y4 : w2.cell? ⟨w.heap.size, 4, none⟩ = some (.int .i64 0) := by rw [S1.out.kr.cell]; rfl
  have yf4 := S1.out.kr.frozen 4
  have y5 : w2.cell? ⟨w.heap.size, 5, none⟩ = some (.int .i64 0) := by rw [S1.out.kr.cell]; rfl
  have yf5 := S1.out.kr.frozen 5
  go_wp2_with fail
  generalize hWf : ((((((w2.setCell _ _).setCell _ _).setCell _ _).setCell _ _).setCell _ _).setCell _ _) = Wf
  obtain ⟨kf, of, cf, gf⟩ := S1.out.fin hWf
  have e0 : Wf.cell? ⟨w.heap.size, 0, none⟩ = some (.int .i64 p) := by rw [kf.cell]; rfl
  have e1 : Wf.cell? ⟨w.heap.size, 1, none⟩ = some (.slice A1 n c1) := by rw [kf.cell]; rfl
  have e2 : Wf.cell? ⟨w.heap.size, 2, none⟩ = some (.int .i64 a) := by rw [kf.cell]; rfl
  have e3 : Wf.cell? ⟨w.heap.size, 3, none⟩ = some (.int .i64 bb) := by rw [kf.cell]; rfl
  have e4 : Wf.cell? ⟨w.heap.size, 4, none⟩ = some (.int .i64 s) := by rw [kf.cell]; rfl
  have e5 : Wf.cell? ⟨w.heap.size, 5, none⟩ = some (.int .i64 g) := by rw [kf.cell]; rfl
  exact bodyPost_ret (v := .agg #[.int .i64 p, .slice A1 n c1, .int .i64 a, .int .i64 bb, .int .i64 s, .int .i64 g]) (by simp [results, Try.results41, go_sem, e0, e1, e2, e3, e4, e5]) rfl ⟨p, a, bb, s, g, A1, n, c1, zs, by omega, HL.out, ⟨by omega, by omega⟩, ⟨by omega, by omega⟩, ⟨by omega, by omega⟩, ⟨by omega, by omega⟩, ⟨by omega, by omega⟩, rfl, of, cf, gf⟩

end Go.Proofs.Ythkkleicekhelaa.hexes
