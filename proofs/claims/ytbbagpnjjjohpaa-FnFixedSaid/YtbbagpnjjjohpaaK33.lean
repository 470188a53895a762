/-
  A cell drawn for a graph: the contract of spec.l11Cell.
  What FnImproved and FnFixed ask of an improvement, on lists; the laws' own graph; sameCells at equal lists.
  A statement of laws.FnFixed: its operations, and a theorem a step.
-/
import Derived.Test.YtbbagpnjjjohpaaK6
import Derived.Test.YtbbagpnjjjohpaaK0
import Derived.Test.YtbbagpnjjjohpaaK1
import Derived.Test.YtbbagpnjjjohpaaK32
import Derived.Test.YtbbagpnjjjohpaaK4
import Derived.Deep.CutBlock
import Derived.Deep.DeepCutAuto
import Derived.IntWalk
import Derived.Test.YtbbagpnjjjohpaaK7
import Derived.Test.YtbbagpnjjjohpaaK11
import Derived.Test.YtbbagpnjjjohpaaK5
import Derived.Test.YtbbagpnjjjohpaaK10

namespace Go.Proofs.Ytbbagpnjjjohpaa.hexes
open Go.RowKit

/-- The drawn cell's epoch, key and value. -/
def CeR (p1 p2 p3 : Int) : Prop := (0 ≤ p1 ∧ p1 ≤ 1) ∧ (0 ≤ p2 ∧ p2 ≤ 5) ∧ 0 ≤ p3 ∧ p3 ≤ 8
/-- How a cell drawn for a graph ends. -/
def Ce11End (w : World) (c : Nat) (A : Option Addr) (len cap : Nat) (e : Ending) (w' : World) : Prop :=
  ∃ p0 p1 p2 p3 : Int, CeR p1 p2 p3 ∧ e = .returned (.agg #[.int .i64 p0, .int .i64 p1, .int .i64 p2, .int .i64 p3]) ∧ Cursor w' c A len cap ∧ w.grownBy w' (some c)
/-- A cell under draw: the cursor, the graph's block, the result's block, the cell's block. -/
structure C11 (b wx : World) (c : Nat) (A : Option Addr) (len cap g d r : Nat) (G : Array Value) (p0 p1 p2 p3 : Int) : Prop where
  c0 : Cursor b c A len cap
  bg : b.heap.size ≤ g
  bd : b.heap.size ≤ d
  br : b.heap.size ≤ r
  gr_ : g ≠ r
  dr : d ≠ r
  cur : Cursor wx c A len cap
  gr : b.grownBy wx (some c)
  kg : Blk wx g 26 G
  kd : Blk wx d 38 #[.int .i64 0, .int .i64 0, .int .i64 0, .int .i64 0]
  kr : Blk wx r 38 #[.int .i64 p0, .int .i64 p1, .int .i64 p2, .int .i64 p3]
variable {b wx w' : World} {c len cap g d r : Nat} {A : Option Addr} {G : Array Value} {p0 p1 p2 p3 : Int}
theorem C11.draw (S : C11 b wx c A len cap g d r G p0 p1 p2 p3) (hc : Cursor w' c A len cap) (h : wx.grownBy w' (some c)) : C11 b w' c A len cap g d r G p0 p1 p2 p3 := by
  have h0 := S.c0.lt
  have h1 := S.bg
  have h2 := S.bd
  have h3 := S.br
  exact ⟨S.c0, S.bg, S.bd, S.br, S.gr_, S.dr, hc, grown_trans S.gr h, S.kg.grown h (by simp; omega), S.kd.grown h (by simp; omega), S.kr.grown h (by simp; omega)⟩
theorem C11.fresh (S : C11 b wx c A len cap g d r G p0 p1 p2 p3) (hb : Below wx.heap.size wx w') : C11 b w' c A len cap g d r G p0 p1 p2 p3 :=
  ⟨S.c0, S.bg, S.bd, S.br, S.gr_, S.dr, S.cur.belowD hb, grown_below S.gr hb, S.kg.below hb, S.kd.below hb, S.kr.below hb⟩
theorem C11.put0 (S : C11 b wx c A len cap g d r G p0 p1 p2 p3) (v : Int) : C11 b (wx.setCell ⟨r, 0, none⟩ (.int .i64 v)) c A len cap g d r G v p1 p2 p3 := by
  have h0 := S.c0.lt
  have h3 := S.br
  have hg := grown_set_new S.gr (p := ⟨r, 0, none⟩) S.br (.int .i64 v)
  exact ⟨S.c0, S.bg, S.bd, S.br, S.gr_, S.dr, S.c0.back S.cur hg (Below.heap_setCell _ _ _ c (by simp; omega)), hg, S.kg.other (by simpa using S.gr_) _, S.kd.other (by simpa using S.dr) _, S.kr.put 0 _⟩
/-- The cell laid into the result. -/
theorem C11.fin (S : C11 b wx c A len cap g d r G p0 p1 p2 p3) {wf : World} (hw : (((wx.setCell ⟨d, 0, none⟩ (.int .i64 p0)).setCell ⟨d, 1, none⟩ (.int .i64 p1)).setCell ⟨d, 2, none⟩ (.int .i64 p2)).setCell ⟨d, 3, none⟩ (.int .i64 p3) = wf) :
    Blk wf d 38 #[.int .i64 p0, .int .i64 p1, .int .i64 p2, .int .i64 p3] ∧ Cursor wf c A len cap ∧ b.grownBy wf (some c) := by
  subst hw
  have h0 := S.c0.lt
  have h2 := S.bd
  have hg := grown_set_new (grown_set_new (grown_set_new (grown_set_new S.gr (p := ⟨d, 0, none⟩) S.bd (.int .i64 p0)) (p := ⟨d, 1, none⟩) S.bd (.int .i64 p1)) (p := ⟨d, 2, none⟩) S.bd (.int .i64 p2)) (p := ⟨d, 3, none⟩) S.bd (.int .i64 p3)
  refine ⟨(((S.kd.put 0 _).put 1 _).put 2 _).put 3 _, S.c0.back S.cur hg ?_, hg⟩
  exact (Below.heap_setCell _ _ _ c (by simp; omega)).trans ((Below.heap_setCell _ _ _ c (by simp; omega)).trans ((Below.heap_setCell _ _ _ c (by simp; omega)).trans (Below.heap_setCell _ _ _ c (by simp; omega))))

set_option maxRecDepth 100000 in
set_option maxHeartbeats 4000000 in
theorem cell11_draw (A1 : Option Addr) (n c1 : Nat) (wk cp : Int) (hn : n ≤ 1048576) (w : World) (c : Nat) (A : Option Addr) (len cap : Nat) (hlen : len ≤ 2097152) (hcur : Cursor w c A len cap) :
    Calls Try.prog 55 #[.pointer (some ⟨c, 0, none⟩), .agg #[.slice A1 n c1, .int .i64 wk, .int .i64 cp]] w (Ce11End w c A len cap) := by
  have hc := hcur.lt
  have HC := Lib.hid hcur
  clear hcur
  obtain ⟨W, hW⟩ : ∃ z, (w.alloc (.cells #[.slice A1 n c1, .int .i64 wk, .int .i64 cp] 26)).alloc (.cells #[.int .i64 0, .int .i64 0, .int .i64 0, .int .i64 0] 38) = z := ⟨_, rfl⟩
  have hb : Below w.heap.size w W := by rw [← hW]; exact ((Below.refl _ _).alloc (Nat.le_refl _) _).alloc (by simp) _
  have NG := Lib.hid (show Blk W w.heap.size 26 #[.slice A1 n c1, .int .i64 wk, .int .i64 cp] by rw [← hW]; exact ((Below.heap_alloc _ _ _ (by first | (simp; done) | (simp; omega))).trans (Blk.new _ _ _)))
  have ND := Lib.hid (show Blk W (w.heap.size + 1) 38 #[.int .i64 0, .int .i64 0, .int .i64 0, .int .i64 0] by rw [← hW]; exact ((show w.heap.size + 1 = ((w.alloc _)).heap.size by simp) ▸ Blk.new _ _ _))
  have GW := Lib.hid (grown_below (row := some c) (grown_refl w (some c)) hb)
  have CW := Lib.hid (HC.out.belowD hb)
  clear hb
  go_enter Try.func55, Try.ntmps55
  go_wp2_with fail
  clear hW
  refine (below_any 2 (by omega) (by omega) W c A len cap hlen CW.out).mono ?_
  rintro e w1 ⟨p1, hp1, rfl, hc1, g1⟩
  have CW1 := Lib.hid hc1
  clear hc1
  go_wp2_with fail
  refine (below_any 6 (by omega) (by omega) w1 c A len cap hlen CW1.out).mono ?_
  rintro e w2 ⟨p2, hp2, rfl, hc1, g2⟩
  have CW2 := Lib.hid hc1
  clear hc1
  go_wp2_with fail
  refine (below_any 9 (by omega) (by omega) w2 c A len cap hlen CW2.out).mono ?_
  rintro e w3 ⟨p3, hp3, rfl, hc1, g3⟩
  have gg := Lib.hid (grown_trans (grown_trans g1 g2) g3)
  have RG := Lib.hid (show CeR (p1 : Int) (p2 : Int) (p3 : Int) by unfold CeR; omega)
  have hlg := NG.out.lt
  have hld := ND.out.lt
  have sz1 := gg.out.size
  clear g1 g2 g3
  obtain ⟨W1, hW⟩ : ∃ z, w3.alloc (.cells #[.int .i64 0, .int .i64 p1, .int .i64 p2, .int .i64 p3] 38) = z := ⟨_, rfl⟩
  have hb : Below w3.heap.size w3 W1 := by rw [← hW]; exact (Below.refl _ _).alloc (Nat.le_refl _) _
  have S1 := Lib.hid (show C11 w W1 c A len cap w.heap.size (w.heap.size + 1) w3.heap.size #[.slice A1 n c1, .int .i64 wk, .int .i64 cp] 0 p1 p2 p3 from
    ⟨HC.out, Nat.le_refl _, by omega, by omega, by omega, by omega, hc1.belowD hb, grown_below (grown_trans GW.out gg.out) hb, (NG.out.grown gg.out (by simp; omega)).below hb, (ND.out.grown gg.out (by simp; omega)).below hb, by rw [← hW]; exact Blk.new _ _ _⟩)
  clear hc1 gg hb NG ND GW CW CW1 CW2 hp1 hp2 hp3
  have x0 : W1.cell? ⟨w.heap.size, 0, none⟩ = some (.slice A1 n c1) := by rw [S1.out.kg.cell]; rfl
  by_cases hn0 : 0 < n
  · have qk : decide ((n : Int) > 0) = true := by simp; omega
    go_wp2_with fail
    clear x0 qk hW
    refine (below_any n hn0 (by omega) W1 c A len cap hlen S1.out.cur).mono ?_
    rintro e w4 ⟨q0, hq0, rfl, hc2, g2⟩
    have S2 := Lib.hid (S1.out.draw hc2 g2)
    clear hc2 g2 S1
    have m0 : w4.cell? ⟨w3.heap.size, 0, none⟩ = some (.int .i64 0) := by rw [S2.out.kr.cell]; rfl
    have m1 : w4.cell? ⟨w3.heap.size, 1, none⟩ = some (.int .i64 (p1 : Int)) := by rw [S2.out.kr.cell]; rfl
    have m2 : w4.cell? ⟨w3.heap.size, 2, none⟩ = some (.int .i64 (p2 : Int)) := by rw [S2.out.kr.cell]; rfl
    have m3 : w4.cell? ⟨w3.heap.size, 3, none⟩ = some (.int .i64 (p3 : Int)) := by rw [S2.out.kr.cell]; rfl
    have q0f := S2.out.kr.frozen 0
    go_upto_region 4 with fail
    clear q0f m0 m1 m2 m3
    generalize hU : World.setCell w4 _ _ = U0
    have QU0 := Lib.hid (show C11 w U0 c A len cap w.heap.size (w.heap.size + 1) w3.heap.size #[.slice A1 n c1, .int .i64 wk, .int .i64 cp] (q0 : Int) (p1 : Int) (p2 : Int) (p3 : Int) by rw [← hU]; exact S2.out.put0 _)
    clear hU S2
    go_wp2_with fail
    refine (once_any 12 (by omega) (by omega) U0 c A len cap hlen QU0.out.cur).mono ?_
    rintro e v3 ⟨bb, rfl, hc2, g2⟩
    have T3 := Lib.hid (QU0.out.draw hc2 g2)
    clear hc2 g2 QU0
    cases bb with
    | false =>
      have m0 : v3.cell? ⟨w3.heap.size, 0, none⟩ = some (.int .i64 (q0 : Int)) := by rw [T3.out.kr.cell]; rfl
      have m1 : v3.cell? ⟨w3.heap.size, 1, none⟩ = some (.int .i64 (p1 : Int)) := by rw [T3.out.kr.cell]; rfl
      have m2 : v3.cell? ⟨w3.heap.size, 2, none⟩ = some (.int .i64 (p2 : Int)) := by rw [T3.out.kr.cell]; rfl
      have m3 : v3.cell? ⟨w3.heap.size, 3, none⟩ = some (.int .i64 (p3 : Int)) := by rw [T3.out.kr.cell]; rfl
      have z0 : v3.cell? ⟨w.heap.size + 1, 0, none⟩ = some (.int .i64 0) := by rw [T3.out.kd.cell]; rfl
      have z1 : v3.cell? ⟨w.heap.size + 1, 1, none⟩ = some (.int .i64 0) := by rw [T3.out.kd.cell]; rfl
      have z2 : v3.cell? ⟨w.heap.size + 1, 2, none⟩ = some (.int .i64 0) := by rw [T3.out.kd.cell]; rfl
      have z3 : v3.cell? ⟨w.heap.size + 1, 3, none⟩ = some (.int .i64 0) := by rw [T3.out.kd.cell]; rfl
      have f0 := T3.out.kd.frozen 0
      have f1 := T3.out.kd.frozen 1
      have f2 := T3.out.kd.frozen 2
      have f3 := T3.out.kd.frozen 3
      go_wp2_with fail
      generalize hWf : (((World.setCell v3 _ _).setCell _ _).setCell _ _).setCell _ _ = Wf
      obtain ⟨bf, cf, gf⟩ := T3.out.fin hWf
      have r0 : Wf.cell? ⟨w.heap.size + 1, 0, none⟩ = some (.int .i64 (q0 : Int)) := by rw [bf.cell]; rfl
      have r1 : Wf.cell? ⟨w.heap.size + 1, 1, none⟩ = some (.int .i64 (p1 : Int)) := by rw [bf.cell]; rfl
      have r2 : Wf.cell? ⟨w.heap.size + 1, 2, none⟩ = some (.int .i64 (p2 : Int)) := by rw [bf.cell]; rfl
      have r3 : Wf.cell? ⟨w.heap.size + 1, 3, none⟩ = some (.int .i64 (p3 : Int)) := by rw [bf.cell]; rfl
      exact bodyPost_ret (v := .agg #[.int .i64 (q0 : Int), .int .i64 (p1 : Int), .int .i64 (p2 : Int), .int .i64 (p3 : Int)]) (by simp [results, Try.results55, go_sem, r0, r1, r2, r3]) rfl ⟨_, _, _, _, RG.out, rfl, cf, gf⟩
    | true =>
      obtain ⟨v4, hv4⟩ : ∃ z, v3.alloc (.cells #[.int .i64 (-1), .int .i64 7, .int .i64 8] 3) = z := ⟨_, rfl⟩
      have hb4 : Below v3.heap.size v3 v4 := by rw [← hv4]; exact (Below.refl _ _).alloc (Nat.le_refl _) _
      have hl4 := T3.out.cur.lt
      have Q4 := Lib.hid (show Blk v4 v3.heap.size 3 (([-1, 7, 8] : List Int).map fun n => Value.int .i64 n).toArray by rw [← hv4]; exact Blk.new _ _ _)
      have T4 := Lib.hid (T3.out.fresh hb4)
      clear hb4 T3
      go_wp2_with fail
      clear hv4
      refine (pickInt_any v4 c v3.heap.size A len cap 3 [-1, 7, 8] rfl (by omega) (by omega) hlen T4.out.cur (by omega) Q4.out).mono ?_
      rintro e v5 ⟨q, hq, rfl, hcn, gn⟩
      have T5 := Lib.hid (T4.out.draw hcn gn)
      clear hcn gn hq T4 Q4
      have m0 : v5.cell? ⟨w3.heap.size, 0, none⟩ = some (.int .i64 (q0 : Int)) := by rw [T5.out.kr.cell]; rfl
      have m1 : v5.cell? ⟨w3.heap.size, 1, none⟩ = some (.int .i64 (p1 : Int)) := by rw [T5.out.kr.cell]; rfl
      have m2 : v5.cell? ⟨w3.heap.size, 2, none⟩ = some (.int .i64 (p2 : Int)) := by rw [T5.out.kr.cell]; rfl
      have m3 : v5.cell? ⟨w3.heap.size, 3, none⟩ = some (.int .i64 (p3 : Int)) := by rw [T5.out.kr.cell]; rfl
      have q0f := T5.out.kr.frozen 0
      go_upto_region 6 with fail
      clear q0f m0 m1 m2 m3
      generalize hU : World.setCell v5 _ _ = U6
      have T6 := Lib.hid (show C11 w U6 c A len cap w.heap.size (w.heap.size + 1) w3.heap.size #[.slice A1 n c1, .int .i64 wk, .int .i64 cp] q (p1 : Int) (p2 : Int) (p3 : Int) by rw [← hU]; exact T5.out.put0 _)
      clear hU T5
      have m0 : U6.cell? ⟨w3.heap.size, 0, none⟩ = some (.int .i64 q) := by rw [T6.out.kr.cell]; rfl
      have m1 : U6.cell? ⟨w3.heap.size, 1, none⟩ = some (.int .i64 (p1 : Int)) := by rw [T6.out.kr.cell]; rfl
      have m2 : U6.cell? ⟨w3.heap.size, 2, none⟩ = some (.int .i64 (p2 : Int)) := by rw [T6.out.kr.cell]; rfl
      have m3 : U6.cell? ⟨w3.heap.size, 3, none⟩ = some (.int .i64 (p3 : Int)) := by rw [T6.out.kr.cell]; rfl
      have z0 : U6.cell? ⟨w.heap.size + 1, 0, none⟩ = some (.int .i64 0) := by rw [T6.out.kd.cell]; rfl
      have z1 : U6.cell? ⟨w.heap.size + 1, 1, none⟩ = some (.int .i64 0) := by rw [T6.out.kd.cell]; rfl
      have z2 : U6.cell? ⟨w.heap.size + 1, 2, none⟩ = some (.int .i64 0) := by rw [T6.out.kd.cell]; rfl
      have z3 : U6.cell? ⟨w.heap.size + 1, 3, none⟩ = some (.int .i64 0) := by rw [T6.out.kd.cell]; rfl
      have f0 := T6.out.kd.frozen 0
      have f1 := T6.out.kd.frozen 1
      have f2 := T6.out.kd.frozen 2
      have f3 := T6.out.kd.frozen 3
      go_wp2_with fail
      generalize hWf : (((World.setCell U6 _ _).setCell _ _).setCell _ _).setCell _ _ = Wf
      obtain ⟨bf, cf, gf⟩ := T6.out.fin hWf
      have r0 : Wf.cell? ⟨w.heap.size + 1, 0, none⟩ = some (.int .i64 q) := by rw [bf.cell]; rfl
      have r1 : Wf.cell? ⟨w.heap.size + 1, 1, none⟩ = some (.int .i64 (p1 : Int)) := by rw [bf.cell]; rfl
      have r2 : Wf.cell? ⟨w.heap.size + 1, 2, none⟩ = some (.int .i64 (p2 : Int)) := by rw [bf.cell]; rfl
      have r3 : Wf.cell? ⟨w.heap.size + 1, 3, none⟩ = some (.int .i64 (p3 : Int)) := by rw [bf.cell]; rfl
      exact bodyPost_ret (v := .agg #[.int .i64 q, .int .i64 (p1 : Int), .int .i64 (p2 : Int), .int .i64 (p3 : Int)]) (by simp [results, Try.results55, go_sem, r0, r1, r2, r3]) rfl ⟨_, _, _, _, RG.out, rfl, cf, gf⟩
  · have qk : decide ((n : Int) > 0) = false := by simp; omega
    go_wp2_with fail
    clear x0 qk hW
    refine (once_any 12 (by omega) (by omega) W1 c A len cap hlen S1.out.cur).mono ?_
    rintro e v3 ⟨bb, rfl, hc2, g2⟩
    have T3 := Lib.hid (S1.out.draw hc2 g2)
    clear hc2 g2 S1
    cases bb with
    | false =>
      have m0 : v3.cell? ⟨w3.heap.size, 0, none⟩ = some (.int .i64 0) := by rw [T3.out.kr.cell]; rfl
      have m1 : v3.cell? ⟨w3.heap.size, 1, none⟩ = some (.int .i64 (p1 : Int)) := by rw [T3.out.kr.cell]; rfl
      have m2 : v3.cell? ⟨w3.heap.size, 2, none⟩ = some (.int .i64 (p2 : Int)) := by rw [T3.out.kr.cell]; rfl
      have m3 : v3.cell? ⟨w3.heap.size, 3, none⟩ = some (.int .i64 (p3 : Int)) := by rw [T3.out.kr.cell]; rfl
      have z0 : v3.cell? ⟨w.heap.size + 1, 0, none⟩ = some (.int .i64 0) := by rw [T3.out.kd.cell]; rfl
      have z1 : v3.cell? ⟨w.heap.size + 1, 1, none⟩ = some (.int .i64 0) := by rw [T3.out.kd.cell]; rfl
      have z2 : v3.cell? ⟨w.heap.size + 1, 2, none⟩ = some (.int .i64 0) := by rw [T3.out.kd.cell]; rfl
      have z3 : v3.cell? ⟨w.heap.size + 1, 3, none⟩ = some (.int .i64 0) := by rw [T3.out.kd.cell]; rfl
      have f0 := T3.out.kd.frozen 0
      have f1 := T3.out.kd.frozen 1
      have f2 := T3.out.kd.frozen 2
      have f3 := T3.out.kd.frozen 3
      go_wp2_with fail
      generalize hWf : (((World.setCell v3 _ _).setCell _ _).setCell _ _).setCell _ _ = Wf
      obtain ⟨bf, cf, gf⟩ := T3.out.fin hWf
      have r0 : Wf.cell? ⟨w.heap.size + 1, 0, none⟩ = some (.int .i64 0) := by rw [bf.cell]; rfl
      have r1 : Wf.cell? ⟨w.heap.size + 1, 1, none⟩ = some (.int .i64 (p1 : Int)) := by rw [bf.cell]; rfl
      have r2 : Wf.cell? ⟨w.heap.size + 1, 2, none⟩ = some (.int .i64 (p2 : Int)) := by rw [bf.cell]; rfl
      have r3 : Wf.cell? ⟨w.heap.size + 1, 3, none⟩ = some (.int .i64 (p3 : Int)) := by rw [bf.cell]; rfl
      exact bodyPost_ret (v := .agg #[.int .i64 0, .int .i64 (p1 : Int), .int .i64 (p2 : Int), .int .i64 (p3 : Int)]) (by simp [results, Try.results55, go_sem, r0, r1, r2, r3]) rfl ⟨_, _, _, _, RG.out, rfl, cf, gf⟩
    | true =>
      obtain ⟨v4, hv4⟩ : ∃ z, v3.alloc (.cells #[.int .i64 (-1), .int .i64 7, .int .i64 8] 3) = z := ⟨_, rfl⟩
      have hb4 : Below v3.heap.size v3 v4 := by rw [← hv4]; exact (Below.refl _ _).alloc (Nat.le_refl _) _
      have hl4 := T3.out.cur.lt
      have Q4 := Lib.hid (show Blk v4 v3.heap.size 3 (([-1, 7, 8] : List Int).map fun n => Value.int .i64 n).toArray by rw [← hv4]; exact Blk.new _ _ _)
      have T4 := Lib.hid (T3.out.fresh hb4)
      clear hb4 T3
      go_wp2_with fail
      clear hv4
      refine (pickInt_any v4 c v3.heap.size A len cap 3 [-1, 7, 8] rfl (by omega) (by omega) hlen T4.out.cur (by omega) Q4.out).mono ?_
      rintro e v5 ⟨q, hq, rfl, hcn, gn⟩
      have T5 := Lib.hid (T4.out.draw hcn gn)
      clear hcn gn hq T4 Q4
      have m0 : v5.cell? ⟨w3.heap.size, 0, none⟩ = some (.int .i64 0) := by rw [T5.out.kr.cell]; rfl
      have m1 : v5.cell? ⟨w3.heap.size, 1, none⟩ = some (.int .i64 (p1 : Int)) := by rw [T5.out.kr.cell]; rfl
      have m2 : v5.cell? ⟨w3.heap.size, 2, none⟩ = some (.int .i64 (p2 : Int)) := by rw [T5.out.kr.cell]; rfl
      have m3 : v5.cell? ⟨w3.heap.size, 3, none⟩ = some (.int .i64 (p3 : Int)) := by rw [T5.out.kr.cell]; rfl
      have q0f := T5.out.kr.frozen 0
      go_upto_region 6 with fail
      clear q0f m0 m1 m2 m3
      generalize hU : World.setCell v5 _ _ = U6
      have T6 := Lib.hid (show C11 w U6 c A len cap w.heap.size (w.heap.size + 1) w3.heap.size #[.slice A1 n c1, .int .i64 wk, .int .i64 cp] q (p1 : Int) (p2 : Int) (p3 : Int) by rw [← hU]; exact T5.out.put0 _)
      clear hU T5
      have m0 : U6.cell? ⟨w3.heap.size, 0, none⟩ = some (.int .i64 q) := by rw [T6.out.kr.cell]; rfl
      have m1 : U6.cell? ⟨w3.heap.size, 1, none⟩ = some (.int .i64 (p1 : Int)) := by rw [T6.out.kr.cell]; rfl
      have m2 : U6.cell? ⟨w3.heap.size, 2, none⟩ = some (.int .i64 (p2 : Int)) := by rw [T6.out.kr.cell]; rfl
      have m3 : U6.cell? ⟨w3.heap.size, 3, none⟩ = some (.int .i64 (p3 : Int)) := by rw [T6.out.kr.cell]; rfl
      have z0 : U6.cell? ⟨w.heap.size + 1, 0, none⟩ = some (.int .i64 0) := by rw [T6.out.kd.cell]; rfl
      have z1 : U6.cell? ⟨w.heap.size + 1, 1, none⟩ = some (.int .i64 0) := by rw [T6.out.kd.cell]; rfl
      have z2 : U6.cell? ⟨w.heap.size + 1, 2, none⟩ = some (.int .i64 0) := by rw [T6.out.kd.cell]; rfl
      have z3 : U6.cell? ⟨w.heap.size + 1, 3, none⟩ = some (.int .i64 0) := by rw [T6.out.kd.cell]; rfl
      have f0 := T6.out.kd.frozen 0
      have f1 := T6.out.kd.frozen 1
      have f2 := T6.out.kd.frozen 2
      have f3 := T6.out.kd.frozen 3
      go_wp2_with fail
      generalize hWf : (((World.setCell U6 _ _).setCell _ _).setCell _ _).setCell _ _ = Wf
      obtain ⟨bf, cf, gf⟩ := T6.out.fin hWf
      have r0 : Wf.cell? ⟨w.heap.size + 1, 0, none⟩ = some (.int .i64 q) := by rw [bf.cell]; rfl
      have r1 : Wf.cell? ⟨w.heap.size + 1, 1, none⟩ = some (.int .i64 (p1 : Int)) := by rw [bf.cell]; rfl
      have r2 : Wf.cell? ⟨w.heap.size + 1, 2, none⟩ = some (.int .i64 (p2 : Int)) := by rw [bf.cell]; rfl
      have r3 : Wf.cell? ⟨w.heap.size + 1, 3, none⟩ = some (.int .i64 (p3 : Int)) := by rw [bf.cell]; rfl
      exact bodyPost_ret (v := .agg #[.int .i64 q, .int .i64 (p1 : Int), .int .i64 (p2 : Int), .int .i64 (p3 : Int)]) (by simp [results, Try.results55, go_sem, r0, r1, r2, r3]) rfl ⟨_, _, _, _, RG.out, rfl, cf, gf⟩
end Go.Proofs.Ytbbagpnjjjohpaa.hexes

namespace Go.Proofs.Ytbbagpnjjjohpaa.hexes
open Go.RowKit

theorem sameCe2_is {w : World} {A A' : Option Addr} {n c c' : Nat} {zs : List Ce} (hz : zs.length = n) (hn : n ≤ 4194304) (h : Ces w A zs) (h' : Ces w A' zs) : Calls Try.prog 14 #[.slice A n c, .slice A' n c'] w fun e w' => e = .returned (.bool true) ∧ Below w.heap.size w w' := by
  have := ceSame_any n n zs zs hz hz A A' c c' w h h' hn
  rwa [decide_eq_true (rfl : zs = zs)] at this
/-- The laws' own graph as it lies in memory. -/
theorem two2_nds {w : World} {g1 g : Nat} (k1 : Blk w g1 3 #[.int .i64 1]) (k : Blk w g 46 #[.int .i64 1, .int .i64 0, .int .i64 0, .slice (some ⟨g1, 0, none⟩) 1 1, .int .i64 8, .int .i64 0, .int .i64 0, .slice none 0 0]) : Nds w (some ⟨g, 0, none⟩) [(1, 0, 0, [1]), (8, 0, 0, [])] := by
  refine fun _ => ⟨g, 0, rfl, k.lt, fun j hj => ?_⟩
  have hj3 : j = 0 ∨ j = 1 := by simp at hj; omega
  rcases hj3 with rfl | rfl
  · exact ⟨(1, 0, 0, some ⟨g1, 0, none⟩, 1, 1), ⟨rfl, rfl, rfl, rfl, Nat.le_refl _, fun _ => ⟨g1, 0, rfl, k1.lt, fun j hj => by
      obtain rfl : j = 0 := by simpa using hj
      rw [k1.cell]; rfl⟩, fun h => by cases h⟩, by rw [k.cell]; rfl, by rw [k.cell]; rfl, by rw [k.cell]; rfl, by rw [k.cell]; rfl⟩
  · exact ⟨(8, 0, 0, none, 0, 0), ⟨rfl, rfl, rfl, rfl, Nat.le_refl _, fun h => absurd h (by simp), fun _ => rfl⟩, by rw [k.cell]; rfl, by rw [k.cell]; rfl, by rw [k.cell]; rfl, by rw [k.cell]; rfl⟩
end Go.Proofs.Ytbbagpnjjjohpaa.hexes

namespace Go.Proofs.Ytbbagpnjjjohpaa.hexes
open Go.RowKit

def findF22X (n : Nat) : Code → Option Code
  | .region id ops d => if id = n then some (.region id ops d) else none
  | .seq a b => match findF22X n a with
    | some c => some c
    | none => findF22X n b
  | .block _ c => findF22X n c
  | .scope c => findF22X n c
  | .loop c => findF22X n c
  | .cond _ a b => match findF22X n a with
    | some c => some c
    | none => findF22X n b
  | _ => none
def opsOfF22X : Option Code → Array Oper
  | some (.region _ ops _) => ops
  | _ => #[]
noncomputable def opsF22X : Array Oper := opsOfF22X (Try.f3.body.bind (findF22X 22))
def schF22X : List Nat := [0, 1, 2, 3, 4, 5, 6, 7, 8, 9, 10, 11, 12, 13, 14, 15]
def LF22X (k : Nat) : Array Bool := ((List.range 16).map fun i => (schF22X.take k).contains i).toArray
theorem noselF22X : Region.noSelect opsF22X = true := by kernel_rfl
def qF22X_0 : Oper := { dst := some 165, op := Op.move (Operand.tmp 19), type := 30, pos := "laws.go:491", after := #[], guard := none }
theorem hF22X_0 : opsF22X[0]? = some qF22X_0 := by kernel_rfl
theorem lF22X_0 : (LF22X 0).setIfInBounds 0 true = LF22X 1 := by kernel_rfl
theorem tF22X_0 : RegT Try.prog opsF22X qF22X_0 (some 165) 15 (LF22X 0) (LF22X 1) := regT hF22X_0 rfl noselF22X (by kernel_rfl) (by kernel_rfl) lF22X_0
def qF22X_1 : Oper := { dst := some 166, op := Op.move (Operand.tmp 4), type := 3, pos := "laws.go:491", after := #[], guard := none }
theorem hF22X_1 : opsF22X[1]? = some qF22X_1 := by kernel_rfl
theorem lF22X_1 : (LF22X 1).setIfInBounds 1 true = LF22X 2 := by kernel_rfl
theorem tF22X_1 : RegT Try.prog opsF22X qF22X_1 (some 166) 14 (LF22X 1) (LF22X 2) := regT hF22X_1 rfl noselF22X (by kernel_rfl) (by kernel_rfl) lF22X_1
def qF22X_2 : Oper := { dst := some 167, op := Op.move (Operand.tmp 5), type := 27, pos := "laws.go:491", after := #[], guard := none }
theorem hF22X_2 : opsF22X[2]? = some qF22X_2 := by kernel_rfl
theorem lF22X_2 : (LF22X 2).setIfInBounds 2 true = LF22X 3 := by kernel_rfl
theorem tF22X_2 : RegT Try.prog opsF22X qF22X_2 (some 167) 13 (LF22X 2) (LF22X 3) := regT hF22X_2 rfl noselF22X (by kernel_rfl) (by kernel_rfl) lF22X_2
def qF22X_3 : Oper := { dst := some 168, op := Op.move (Operand.tmp 20), type := 3, pos := "laws.go:491", after := #[], guard := none }
theorem hF22X_3 : opsF22X[3]? = some qF22X_3 := by kernel_rfl
theorem lF22X_3 : (LF22X 3).setIfInBounds 3 true = LF22X 4 := by kernel_rfl
theorem tF22X_3 : RegT Try.prog opsF22X qF22X_3 (some 168) 12 (LF22X 3) (LF22X 4) := regT hF22X_3 rfl noselF22X (by kernel_rfl) (by kernel_rfl) lF22X_3
def qF22X_4 : Oper := { dst := some 169, op := Op.indexAddr 27 (Operand.tmp 167) (Operand.tmp 168), type := 0, pos := "laws.go:491", after := #[{ on := 2, ground := Ground.data }, { on := 3, ground := Ground.data }], guard := none }
theorem hF22X_4 : opsF22X[4]? = some qF22X_4 := by kernel_rfl
theorem lF22X_4 : (LF22X 4).setIfInBounds 4 true = LF22X 5 := by kernel_rfl
theorem tF22X_4 : RegT Try.prog opsF22X qF22X_4 (some 169) 11 (LF22X 4) (LF22X 5) := regT hF22X_4 rfl noselF22X (by kernel_rfl) (by kernel_rfl) lF22X_4
def qF22X_5 : Oper := { dst := some 170, op := Op.fieldAddr 51 (Operand.tmp 169) 2, type := 0, pos := "laws.go:491", after := #[{ on := 4, ground := Ground.data }], guard := none }
theorem hF22X_5 : opsF22X[5]? = some qF22X_5 := by kernel_rfl
theorem lF22X_5 : (LF22X 5).setIfInBounds 5 true = LF22X 6 := by kernel_rfl
theorem tF22X_5 : RegT Try.prog opsF22X qF22X_5 (some 170) 10 (LF22X 5) (LF22X 6) := regT hF22X_5 rfl noselF22X (by kernel_rfl) (by kernel_rfl) lF22X_5
def qF22X_6 : Oper := { dst := some 171, op := Op.load 3 (Operand.tmp 170), type := 3, pos := "laws.go:491", after := #[{ on := 5, ground := Ground.data }], guard := none }
theorem hF22X_6 : opsF22X[6]? = some qF22X_6 := by kernel_rfl
theorem lF22X_6 : (LF22X 6).setIfInBounds 6 true = LF22X 7 := by kernel_rfl
theorem tF22X_6 : RegT Try.prog opsF22X qF22X_6 (some 171) 9 (LF22X 6) (LF22X 7) := regT hF22X_6 rfl noselF22X (by kernel_rfl) (by kernel_rfl) lF22X_6
def qF22X_7 : Oper := { dst := some 172, op := Op.move (Operand.tmp 5), type := 27, pos := "laws.go:491", after := #[], guard := none }
theorem hF22X_7 : opsF22X[7]? = some qF22X_7 := by kernel_rfl
theorem lF22X_7 : (LF22X 7).setIfInBounds 7 true = LF22X 8 := by kernel_rfl
theorem tF22X_7 : RegT Try.prog opsF22X qF22X_7 (some 172) 8 (LF22X 7) (LF22X 8) := regT hF22X_7 rfl noselF22X (by kernel_rfl) (by kernel_rfl) lF22X_7
def qF22X_8 : Oper := { dst := some 173, op := Op.move (Operand.tmp 20), type := 3, pos := "laws.go:491", after := #[], guard := none }
theorem hF22X_8 : opsF22X[8]? = some qF22X_8 := by kernel_rfl
theorem lF22X_8 : (LF22X 8).setIfInBounds 8 true = LF22X 9 := by kernel_rfl
theorem tF22X_8 : RegT Try.prog opsF22X qF22X_8 (some 173) 7 (LF22X 8) (LF22X 9) := regT hF22X_8 rfl noselF22X (by kernel_rfl) (by kernel_rfl) lF22X_8
def qF22X_9 : Oper := { dst := some 174, op := Op.indexAddr 27 (Operand.tmp 172) (Operand.tmp 173), type := 0, pos := "laws.go:491", after := #[{ on := 7, ground := Ground.data }, { on := 8, ground := Ground.data }], guard := none }
theorem hF22X_9 : opsF22X[9]? = some qF22X_9 := by kernel_rfl
theorem lF22X_9 : (LF22X 9).setIfInBounds 9 true = LF22X 10 := by kernel_rfl
theorem tF22X_9 : RegT Try.prog opsF22X qF22X_9 (some 174) 6 (LF22X 9) (LF22X 10) := regT hF22X_9 rfl noselF22X (by kernel_rfl) (by kernel_rfl) lF22X_9
def qF22X_10 : Oper := { dst := some 175, op := Op.fieldAddr 51 (Operand.tmp 174) 3, type := 0, pos := "laws.go:491", after := #[{ on := 9, ground := Ground.data }], guard := none }
theorem hF22X_10 : opsF22X[10]? = some qF22X_10 := by kernel_rfl
theorem lF22X_10 : (LF22X 10).setIfInBounds 10 true = LF22X 11 := by kernel_rfl
theorem tF22X_10 : RegT Try.prog opsF22X qF22X_10 (some 175) 5 (LF22X 10) (LF22X 11) := regT hF22X_10 rfl noselF22X (by kernel_rfl) (by kernel_rfl) lF22X_10
def qF22X_11 : Oper := { dst := some 176, op := Op.load 3 (Operand.tmp 175), type := 3, pos := "laws.go:491", after := #[{ on := 10, ground := Ground.data }], guard := none }
theorem hF22X_11 : opsF22X[11]? = some qF22X_11 := by kernel_rfl
theorem lF22X_11 : (LF22X 11).setIfInBounds 11 true = LF22X 12 := by kernel_rfl
theorem tF22X_11 : RegT Try.prog opsF22X qF22X_11 (some 176) 4 (LF22X 11) (LF22X 12) := regT hF22X_11 rfl noselF22X (by kernel_rfl) (by kernel_rfl) lF22X_11
def qF22X_12 : Oper := { dst := some 177, op := Op.build 38 #[(1, Operand.tmp 166), (2, Operand.tmp 171), (3, Operand.tmp 176)], type := 38, pos := "laws.go:491", after := #[{ on := 1, ground := Ground.data }, { on := 6, ground := Ground.data }, { on := 11, ground := Ground.data }], guard := none }
theorem hF22X_12 : opsF22X[12]? = some qF22X_12 := by kernel_rfl
theorem lF22X_12 : (LF22X 12).setIfInBounds 12 true = LF22X 13 := by kernel_rfl
theorem tF22X_12 : RegT Try.prog opsF22X qF22X_12 (some 177) 3 (LF22X 12) (LF22X 13) := regT hF22X_12 rfl noselF22X (by kernel_rfl) (by kernel_rfl) lF22X_12
def qF22X_13 : Oper := { dst := some 178, op := Op.buildSlice 30 1 #[(0, Operand.tmp 177)], type := 30, pos := "laws.go:491", after := #[{ on := 12, ground := Ground.data }], guard := none }
theorem hF22X_13 : opsF22X[13]? = some qF22X_13 := by kernel_rfl
theorem lF22X_13 : (LF22X 13).setIfInBounds 13 true = LF22X 14 := by kernel_rfl
theorem cF22X_13 : RegC Try.prog opsF22X qF22X_13 (some 178) 2 (LF22X 13) (LF22X 14) := regC hF22X_13 rfl (by kernel_rfl) lF22X_13
def qF22X_14 : Oper := { dst := some 179, op := Op.call { callee := Callee.builtin Builtin.append, args := #[Operand.tmp 165, Operand.tmp 178], argTypes := #[30, 30] }, type := 30, pos := "laws.go:491", after := #[{ on := 0, ground := Ground.data }, { on := 13, ground := Ground.data }], guard := none }
theorem hF22X_14 : opsF22X[14]? = some qF22X_14 := by kernel_rfl
theorem lF22X_14 : (LF22X 14).setIfInBounds 14 true = LF22X 15 := by kernel_rfl
theorem cF22X_14 : RegC Try.prog opsF22X qF22X_14 (some 179) 1 (LF22X 14) (LF22X 15) := regC hF22X_14 rfl (by kernel_rfl) lF22X_14
def qF22X_15 : Oper := { dst := some 19, op := Op.assign (Operand.tmp 179), type := 30, pos := "laws.go:491", after := #[{ on := 14, ground := Ground.data }, { on := 14, ground := Ground.chain }, { on := 0, ground := Ground.phase }, { on := 1, ground := Ground.phase }, { on := 2, ground := Ground.phase }, { on := 3, ground := Ground.phase }, { on := 4, ground := Ground.phase }, { on := 5, ground := Ground.phase }, { on := 6, ground := Ground.phase }, { on := 7, ground := Ground.phase }, { on := 8, ground := Ground.phase }, { on := 9, ground := Ground.phase }, { on := 10, ground := Ground.phase }, { on := 11, ground := Ground.phase }, { on := 12, ground := Ground.phase }, { on := 13, ground := Ground.phase }, { on := 14, ground := Ground.phase }], guard := none }
theorem hF22X_15 : opsF22X[15]? = some qF22X_15 := by kernel_rfl
theorem lF22X_15 : (LF22X 15).setIfInBounds 15 true = LF22X 16 := by kernel_rfl
theorem tF22X_15 : RegT Try.prog opsF22X qF22X_15 (some 19) 0 (LF22X 15) (LF22X 16) := regT hF22X_15 rfl noselF22X (by kernel_rfl) (by kernel_rfl) lF22X_15
end Go.Proofs.Ytbbagpnjjjohpaa.hexes

