/-
  What the draws of nodes and links share.
  Records drawn for a graph: the contract of spec.l10Record.
-/
import Derived.Test.YtlanmkimaambgaaS4
import Derived.Test.YtlanmkimaambgaaS8
import Derived.Test.YtlanmkimaambgaaS35
import Derived.Test.YtlanmkimaambgaaS36
import Derived.Deep.CutBlock
import Derived.Deep.DeepCutAuto
import Derived.IntWalk

namespace Go.Proofs.Ytlanmkimaambgaa.hexes
open Go.RowKit

def K64 (x : Int) : Prop := -9223372036854775808 ≤ x ∧ x ≤ 9223372036854775807

theorem grown_row {a w w' : World} {row r2 : Option Nat} (h : a.grownBy w row) (k : w.grownBy w' r2) (hr : ∀ g, r2 = some g → a.heap.size ≤ g) : a.grownBy w' row :=
  ⟨k.os.trans h.os, k.tape.trans h.tape, k.output.trans h.output, Nat.le_trans h.size k.size, fun i hi hne => (k.block i (Nat.lt_of_lt_of_le hi h.size) (fun e => by have := hr i e.symm; omega)).trans (h.block i hi hne)⟩

theorem Cursor.belowD {w w' : World} {c len cap : Nat} {A : Option Addr} (h : Cursor w c A len cap) (hb : Below w.heap.size w w') : Cursor w' c A len cap := by
  obtain ⟨i, hh, hi, hblk⟩ := h.at_
  exact ⟨⟨i, hh, hi, hblk.below hb⟩, h.bytes.below hb⟩

end Go.Proofs.Ytlanmkimaambgaa.hexes

namespace Go.Proofs.Ytlanmkimaambgaa.hexes
open Go.RowKit

/-- How a record drawn for a graph ends. -/
def Rc10End (w : World) (c : Nat) (A : Option Addr) (len cap : Nat) (e : Ending) (w' : World) : Prop :=
  ∃ p0 p1 p2 p3 p4 : Int, e = .returned (.agg #[.int .i64 p0, .int .i64 p1, .int .i64 p2, .int .i64 p3, .int .i64 p4]) ∧ Cursor w' c A len cap ∧ w.grownBy w' (some c)
/-- A record under draw: the cursor, the graph's block, the result's block, the record's block. -/
structure R10 (b wx : World) (c : Nat) (A : Option Addr) (len cap g d r : Nat) (G : Array Value) (p0 p1 p2 p3 p4 : Int) : Prop where
  c0 : Cursor b c A len cap
  bg : b.heap.size ≤ g
  bd : b.heap.size ≤ d
  br : b.heap.size ≤ r
  gr_ : g ≠ r
  dr : d ≠ r
  cur : Cursor wx c A len cap
  gr : b.grownBy wx (some c)
  kg : Blk wx g 26 G
  kd : Blk wx d 31 #[.int .i64 0, .int .i64 0, .int .i64 0, .int .i64 0, .int .i64 0]
  kr : Blk wx r 31 #[.int .i64 p0, .int .i64 p1, .int .i64 p2, .int .i64 p3, .int .i64 p4]
variable {b wx w' : World} {c len cap g d r : Nat} {A : Option Addr} {G : Array Value} {p0 p1 p2 p3 p4 : Int}
theorem R10.draw (S : R10 b wx c A len cap g d r G p0 p1 p2 p3 p4) (hc : Cursor w' c A len cap) (h : wx.grownBy w' (some c)) : R10 b w' c A len cap g d r G p0 p1 p2 p3 p4 := by
  have h0 := S.c0.lt
  have h1 := S.bg
  have h2 := S.bd
  have h3 := S.br
  exact ⟨S.c0, S.bg, S.bd, S.br, S.gr_, S.dr, hc, grown_trans S.gr h, S.kg.grown h (by simp; omega), S.kd.grown h (by simp; omega), S.kr.grown h (by simp; omega)⟩
theorem R10.store (S : R10 b wx c A len cap g d r G p0 p1 p2 p3 p4) (i : Nat) (u : Value) : Cursor (wx.setCell ⟨r, i, none⟩ u) c A len cap ∧ b.grownBy (wx.setCell ⟨r, i, none⟩ u) (some c) ∧ Blk (wx.setCell ⟨r, i, none⟩ u) g 26 G ∧ Blk (wx.setCell ⟨r, i, none⟩ u) d 31 #[.int .i64 0, .int .i64 0, .int .i64 0, .int .i64 0, .int .i64 0] := by
  have h0 := S.c0.lt
  have h3 := S.br
  have hg := grown_set_new S.gr (p := ⟨r, i, none⟩) S.br u
  exact ⟨S.c0.back S.cur hg (Below.heap_setCell _ _ _ c (by simp; omega)), hg, S.kg.other (by simpa using S.gr_) u, S.kd.other (by simpa using S.dr) u⟩
theorem R10.put0 (S : R10 b wx c A len cap g d r G p0 p1 p2 p3 p4) (v : Int) : R10 b (wx.setCell ⟨r, 0, none⟩ (.int .i64 v)) c A len cap g d r G v p1 p2 p3 p4 := by
  obtain ⟨h1, h2, h3, h4⟩ := S.store 0 (.int .i64 v)
  exact ⟨S.c0, S.bg, S.bd, S.br, S.gr_, S.dr, h1, h2, h3, h4, S.kr.put 0 _⟩
theorem R10.put2 (S : R10 b wx c A len cap g d r G p0 p1 p2 p3 p4) (v : Int) : R10 b (wx.setCell ⟨r, 2, none⟩ (.int .i64 v)) c A len cap g d r G p0 p1 v p3 p4 := by
  obtain ⟨h1, h2, h3, h4⟩ := S.store 2 (.int .i64 v)
  exact ⟨S.c0, S.bg, S.bd, S.br, S.gr_, S.dr, h1, h2, h3, h4, S.kr.put 2 _⟩
/-- The record laid into the result. -/
theorem R10.fin (S : R10 b wx c A len cap g d r G p0 p1 p2 p3 p4) {wf : World} (hw : ((((wx.setCell ⟨d, 0, none⟩ (.int .i64 p0)).setCell ⟨d, 1, none⟩ (.int .i64 p1)).setCell ⟨d, 2, none⟩ (.int .i64 p2)).setCell ⟨d, 3, none⟩ (.int .i64 p3)).setCell ⟨d, 4, none⟩ (.int .i64 p4) = wf) :
    Blk wf d 31 #[.int .i64 p0, .int .i64 p1, .int .i64 p2, .int .i64 p3, .int .i64 p4] ∧ Cursor wf c A len cap ∧ b.grownBy wf (some c) := by
  subst hw
  have h0 := S.c0.lt
  have h2 := S.bd
  have hg := grown_set_new (grown_set_new (grown_set_new (grown_set_new (grown_set_new S.gr (p := ⟨d, 0, none⟩) S.bd (.int .i64 p0)) (p := ⟨d, 1, none⟩) S.bd (.int .i64 p1)) (p := ⟨d, 2, none⟩) S.bd (.int .i64 p2)) (p := ⟨d, 3, none⟩) S.bd (.int .i64 p3)) (p := ⟨d, 4, none⟩) S.bd (.int .i64 p4)
  refine ⟨((((S.kd.put 0 _).put 1 _).put 2 _).put 3 _).put 4 _, S.c0.back S.cur hg ?_, hg⟩
  exact (Below.heap_setCell _ _ _ c (by simp; omega)).trans ((Below.heap_setCell _ _ _ c (by simp; omega)).trans ((Below.heap_setCell _ _ _ c (by simp; omega)).trans ((Below.heap_setCell _ _ _ c (by simp; omega)).trans (Below.heap_setCell _ _ _ c (by simp; omega)))))

set_option maxRecDepth 100000 in
set_option maxHeartbeats 4000000 in
theorem rec10_draw (A1 : Option Addr) (n c1 : Nat) (wk cp : Int) (hn : n ≤ 1048576) (w : World) (c : Nat) (A : Option Addr) (len cap : Nat) (hlen : len ≤ 2097152) (hcur : Cursor w c A len cap) :
    Calls Try.prog 37 #[.pointer (some ⟨c, 0, none⟩), .agg #[.slice A1 n c1, .int .i64 wk, .int .i64 cp]] w (Rc10End w c A len cap) := by
  have hc := hcur.lt
  have HC := Lib.hid hcur
  clear hcur
  obtain ⟨W, hW⟩ : ∃ z, (w.alloc (.cells #[.slice A1 n c1, .int .i64 wk, .int .i64 cp] 26)).alloc (.cells #[.int .i64 0, .int .i64 0, .int .i64 0, .int .i64 0, .int .i64 0] 31) = z := ⟨_, rfl⟩
  have hb : Below w.heap.size w W := by rw [← hW]; exact ((Below.refl _ _).alloc (Nat.le_refl _) _).alloc (by simp) _
  have NG := Lib.hid (show Blk W w.heap.size 26 #[.slice A1 n c1, .int .i64 wk, .int .i64 cp] by rw [← hW]; exact ((Below.heap_alloc _ _ _ (by first | (simp; done) | (simp; omega))).trans (Blk.new _ _ _)))
  have ND := Lib.hid (show Blk W (w.heap.size + 1) 31 #[.int .i64 0, .int .i64 0, .int .i64 0, .int .i64 0, .int .i64 0] by rw [← hW]; exact ((show w.heap.size + 1 = ((w.alloc _)).heap.size by simp) ▸ Blk.new _ _ _))
  have GW := Lib.hid (grown_below (row := some c) (grown_refl w (some c)) hb)
  have CW := Lib.hid (HC.out.belowD hb)
  clear hb
  go_enter Try.func37, Try.ntmps37
  go_wp2_with fail
  clear hW
  refine (rec_draw W c A len cap hlen CW.out).mono ?_
  rintro e w1 ⟨p0, p1, p2, p3, p4, _, rfl, hc1, g1⟩
  have hlg := NG.out.lt
  have hld := ND.out.lt
  have sz1 := g1.size
  obtain ⟨W1, hW⟩ : ∃ z, w1.alloc (.cells #[.int .i64 p0, .int .i64 p1, .int .i64 p2, .int .i64 p3, .int .i64 p4] 31) = z := ⟨_, rfl⟩
  have hb : Below w1.heap.size w1 W1 := by rw [← hW]; exact (Below.refl _ _).alloc (Nat.le_refl _) _
  have S1 := Lib.hid (show R10 w W1 c A len cap w.heap.size (w.heap.size + 1) w1.heap.size #[.slice A1 n c1, .int .i64 wk, .int .i64 cp] p0 p1 p2 p3 p4 from
    ⟨HC.out, Nat.le_refl _, by omega, by omega, by omega, by omega, hc1.belowD hb, grown_below (grown_trans GW.out g1) hb, (NG.out.grown g1 (by simp; omega)).below hb, (ND.out.grown g1 (by simp; omega)).below hb, by rw [← hW]; exact Blk.new _ _ _⟩)
  clear hc1 g1 hb NG ND GW CW
  have x0 : W1.cell? ⟨w.heap.size, 0, none⟩ = some (.slice A1 n c1) := by rw [S1.out.kg.cell]; rfl
  by_cases hn0 : 0 < n
  · have qk : decide ((n : Int) > 0) = true := by simp; omega
    go_wp2_with fail
    clear x0 qk hW
    refine (below_any n hn0 (by omega) W1 c A len cap hlen S1.out.cur).mono ?_
    rintro e w2 ⟨q0, hq0, rfl, hc2, g2⟩
    have S2 := Lib.hid (S1.out.draw hc2 g2)
    clear hc2 g2 S1
    have m0 : w2.cell? ⟨w1.heap.size, 0, none⟩ = some (.int .i64 p0) := by rw [S2.out.kr.cell]; rfl
    have m1 : w2.cell? ⟨w1.heap.size, 1, none⟩ = some (.int .i64 p1) := by rw [S2.out.kr.cell]; rfl
    have m2 : w2.cell? ⟨w1.heap.size, 2, none⟩ = some (.int .i64 p2) := by rw [S2.out.kr.cell]; rfl
    have m3 : w2.cell? ⟨w1.heap.size, 3, none⟩ = some (.int .i64 p3) := by rw [S2.out.kr.cell]; rfl
    have m4 : w2.cell? ⟨w1.heap.size, 4, none⟩ = some (.int .i64 p4) := by rw [S2.out.kr.cell]; rfl
    have q0f := S2.out.kr.frozen 0
    go_upto_region 4 with fail
    clear q0f m0 m1 m2 m3 m4
    generalize hU : World.setCell w2 _ _ = U0
    have QU0 := Lib.hid (show R10 w U0 c A len cap w.heap.size (w.heap.size + 1) w1.heap.size #[.slice A1 n c1, .int .i64 wk, .int .i64 cp] (q0 : Int) p1 p2 p3 p4 by rw [← hU]; exact S2.out.put0 _)
    clear hU S2
    go_wp2_with fail
    refine (once_any 4 (by omega) (by omega) U0 c A len cap hlen QU0.out.cur).mono ?_
    rintro e v3 ⟨bb, rfl, hc2, g2⟩
    have T3 := Lib.hid (QU0.out.draw hc2 g2)
    clear hc2 g2
    cases bb with
    | false =>
      have m0 : v3.cell? ⟨w1.heap.size, 0, none⟩ = some (.int .i64 (q0 : Int)) := by rw [T3.out.kr.cell]; rfl
      have m1 : v3.cell? ⟨w1.heap.size, 1, none⟩ = some (.int .i64 p1) := by rw [T3.out.kr.cell]; rfl
      have m2 : v3.cell? ⟨w1.heap.size, 2, none⟩ = some (.int .i64 p2) := by rw [T3.out.kr.cell]; rfl
      have m3 : v3.cell? ⟨w1.heap.size, 3, none⟩ = some (.int .i64 p3) := by rw [T3.out.kr.cell]; rfl
      have m4 : v3.cell? ⟨w1.heap.size, 4, none⟩ = some (.int .i64 p4) := by rw [T3.out.kr.cell]; rfl
      have z0 : v3.cell? ⟨w.heap.size + 1, 0, none⟩ = some (.int .i64 0) := by rw [T3.out.kd.cell]; rfl
      have z1 : v3.cell? ⟨w.heap.size + 1, 1, none⟩ = some (.int .i64 0) := by rw [T3.out.kd.cell]; rfl
      have z2 : v3.cell? ⟨w.heap.size + 1, 2, none⟩ = some (.int .i64 0) := by rw [T3.out.kd.cell]; rfl
      have z3 : v3.cell? ⟨w.heap.size + 1, 3, none⟩ = some (.int .i64 0) := by rw [T3.out.kd.cell]; rfl
      have z4 : v3.cell? ⟨w.heap.size + 1, 4, none⟩ = some (.int .i64 0) := by rw [T3.out.kd.cell]; rfl
      have f0 := T3.out.kd.frozen 0
      have f1 := T3.out.kd.frozen 1
      have f2 := T3.out.kd.frozen 2
      have f3 := T3.out.kd.frozen 3
      have f4 := T3.out.kd.frozen 4
      go_wp2_with fail
      generalize hWf : ((((World.setCell v3 _ _).setCell _ _).setCell _ _).setCell _ _).setCell _ _ = Wf
      obtain ⟨bf, cf, gf⟩ := T3.out.fin hWf
      have r0 : Wf.cell? ⟨w.heap.size + 1, 0, none⟩ = some (.int .i64 (q0 : Int)) := by rw [bf.cell]; rfl
      have r1 : Wf.cell? ⟨w.heap.size + 1, 1, none⟩ = some (.int .i64 p1) := by rw [bf.cell]; rfl
      have r2 : Wf.cell? ⟨w.heap.size + 1, 2, none⟩ = some (.int .i64 p2) := by rw [bf.cell]; rfl
      have r3 : Wf.cell? ⟨w.heap.size + 1, 3, none⟩ = some (.int .i64 p3) := by rw [bf.cell]; rfl
      have r4 : Wf.cell? ⟨w.heap.size + 1, 4, none⟩ = some (.int .i64 p4) := by rw [bf.cell]; rfl
      exact bodyPost_ret (v := .agg #[.int .i64 (q0 : Int), .int .i64 p1, .int .i64 p2, .int .i64 p3, .int .i64 p4]) (by simp [results, Try.results37, go_sem, r0, r1, r2, r3, r4]) rfl ⟨_, _, _, _, _, rfl, cf, gf⟩
    | true =>
      go_wp2_with fail
      refine (below_any 2 (by omega) (by omega) v3 c A len cap hlen T3.out.cur).mono ?_
      rintro e v4 ⟨t, ht, rfl, hc3, g3⟩
      have T4 := Lib.hid (T3.out.draw hc3 g3)
      clear hc3 g3
      have mt : IntKind.i64.wrap (5 + (t : Int)) = 5 + (t : Int) := IntWalk.i64_in _ (by omega)
      have m0 : v4.cell? ⟨w1.heap.size, 0, none⟩ = some (.int .i64 (q0 : Int)) := by rw [T4.out.kr.cell]; rfl
      have m1 : v4.cell? ⟨w1.heap.size, 1, none⟩ = some (.int .i64 p1) := by rw [T4.out.kr.cell]; rfl
      have m2 : v4.cell? ⟨w1.heap.size, 2, none⟩ = some (.int .i64 p2) := by rw [T4.out.kr.cell]; rfl
      have m3 : v4.cell? ⟨w1.heap.size, 3, none⟩ = some (.int .i64 p3) := by rw [T4.out.kr.cell]; rfl
      have m4 : v4.cell? ⟨w1.heap.size, 4, none⟩ = some (.int .i64 p4) := by rw [T4.out.kr.cell]; rfl
      have q2 := T4.out.kr.frozen 2
      have z0 : v4.cell? ⟨w.heap.size + 1, 0, none⟩ = some (.int .i64 0) := by rw [T4.out.kd.cell]; rfl
      have z1 : v4.cell? ⟨w.heap.size + 1, 1, none⟩ = some (.int .i64 0) := by rw [T4.out.kd.cell]; rfl
      have z2 : v4.cell? ⟨w.heap.size + 1, 2, none⟩ = some (.int .i64 0) := by rw [T4.out.kd.cell]; rfl
      have z3 : v4.cell? ⟨w.heap.size + 1, 3, none⟩ = some (.int .i64 0) := by rw [T4.out.kd.cell]; rfl
      have z4 : v4.cell? ⟨w.heap.size + 1, 4, none⟩ = some (.int .i64 0) := by rw [T4.out.kd.cell]; rfl
      have f0 := T4.out.kd.frozen 0
      have f1 := T4.out.kd.frozen 1
      have f2 := T4.out.kd.frozen 2
      have f3 := T4.out.kd.frozen 3
      have f4 := T4.out.kd.frozen 4
      go_upto_region 6 with fail
      clear mt q2 m0 z0 f0 m1 z1 f1 m2 z2 f2 m3 z3 f3 m4 z4 f4
      generalize hU : World.setCell v4 _ _ = U3
      have QU3 := Lib.hid (show R10 w U3 c A len cap w.heap.size (w.heap.size + 1) w1.heap.size #[.slice A1 n c1, .int .i64 wk, .int .i64 cp] (q0 : Int) p1 (5 + (t : Int)) p3 p4 by rw [← hU]; exact T4.out.put2 _)
      clear hU
      have m0 : U3.cell? ⟨w1.heap.size, 0, none⟩ = some (.int .i64 (q0 : Int)) := by rw [QU3.out.kr.cell]; rfl
      have m1 : U3.cell? ⟨w1.heap.size, 1, none⟩ = some (.int .i64 p1) := by rw [QU3.out.kr.cell]; rfl
      have m2 : U3.cell? ⟨w1.heap.size, 2, none⟩ = some (.int .i64 (5 + (t : Int))) := by rw [QU3.out.kr.cell]; rfl
      have m3 : U3.cell? ⟨w1.heap.size, 3, none⟩ = some (.int .i64 p3) := by rw [QU3.out.kr.cell]; rfl
      have m4 : U3.cell? ⟨w1.heap.size, 4, none⟩ = some (.int .i64 p4) := by rw [QU3.out.kr.cell]; rfl
      have z0 : U3.cell? ⟨w.heap.size + 1, 0, none⟩ = some (.int .i64 0) := by rw [QU3.out.kd.cell]; rfl
      have z1 : U3.cell? ⟨w.heap.size + 1, 1, none⟩ = some (.int .i64 0) := by rw [QU3.out.kd.cell]; rfl
      have z2 : U3.cell? ⟨w.heap.size + 1, 2, none⟩ = some (.int .i64 0) := by rw [QU3.out.kd.cell]; rfl
      have z3 : U3.cell? ⟨w.heap.size + 1, 3, none⟩ = some (.int .i64 0) := by rw [QU3.out.kd.cell]; rfl
      have z4 : U3.cell? ⟨w.heap.size + 1, 4, none⟩ = some (.int .i64 0) := by rw [QU3.out.kd.cell]; rfl
      have f0 := QU3.out.kd.frozen 0
      have f1 := QU3.out.kd.frozen 1
      have f2 := QU3.out.kd.frozen 2
      have f3 := QU3.out.kd.frozen 3
      have f4 := QU3.out.kd.frozen 4
      go_wp2_with fail
      generalize hWf : ((((World.setCell U3 _ _).setCell _ _).setCell _ _).setCell _ _).setCell _ _ = Wf
      obtain ⟨bf, cf, gf⟩ := QU3.out.fin hWf
      have r0 : Wf.cell? ⟨w.heap.size + 1, 0, none⟩ = some (.int .i64 (q0 : Int)) := by rw [bf.cell]; rfl
      have r1 : Wf.cell? ⟨w.heap.size + 1, 1, none⟩ = some (.int .i64 p1) := by rw [bf.cell]; rfl
      have r2 : Wf.cell? ⟨w.heap.size + 1, 2, none⟩ = some (.int .i64 (5 + (t : Int))) := by rw [bf.cell]; rfl
      have r3 : Wf.cell? ⟨w.heap.size + 1, 3, none⟩ = some (.int .i64 p3) := by rw [bf.cell]; rfl
      have r4 : Wf.cell? ⟨w.heap.size + 1, 4, none⟩ = some (.int .i64 p4) := by rw [bf.cell]; rfl
      exact bodyPost_ret (v := .agg #[.int .i64 (q0 : Int), .int .i64 p1, .int .i64 (5 + (t : Int)), .int .i64 p3, .int .i64 p4]) (by simp [results, Try.results37, go_sem, r0, r1, r2, r3, r4]) rfl ⟨_, _, _, _, _, rfl, cf, gf⟩
  · have qk : decide ((n : Int) > 0) = false := by simp; omega
    go_wp2_with fail
    clear x0 qk hW
    refine (once_any 4 (by omega) (by omega) W1 c A len cap hlen S1.out.cur).mono ?_
    rintro e v3 ⟨bb, rfl, hc2, g2⟩
    have T3 := Lib.hid (S1.out.draw hc2 g2)
    clear hc2 g2
    cases bb with
    | false =>
      have m0 : v3.cell? ⟨w1.heap.size, 0, none⟩ = some (.int .i64 p0) := by rw [T3.out.kr.cell]; rfl
      have m1 : v3.cell? ⟨w1.heap.size, 1, none⟩ = some (.int .i64 p1) := by rw [T3.out.kr.cell]; rfl
      have m2 : v3.cell? ⟨w1.heap.size, 2, none⟩ = some (.int .i64 p2) := by rw [T3.out.kr.cell]; rfl
      have m3 : v3.cell? ⟨w1.heap.size, 3, none⟩ = some (.int .i64 p3) := by rw [T3.out.kr.cell]; rfl
      have m4 : v3.cell? ⟨w1.heap.size, 4, none⟩ = some (.int .i64 p4) := by rw [T3.out.kr.cell]; rfl
      have z0 : v3.cell? ⟨w.heap.size + 1, 0, none⟩ = some (.int .i64 0) := by rw [T3.out.kd.cell]; rfl
      have z1 : v3.cell? ⟨w.heap.size + 1, 1, none⟩ = some (.int .i64 0) := by rw [T3.out.kd.cell]; rfl
      have z2 : v3.cell? ⟨w.heap.size + 1, 2, none⟩ = some (.int .i64 0) := by rw [T3.out.kd.cell]; rfl
      have z3 : v3.cell? ⟨w.heap.size + 1, 3, none⟩ = some (.int .i64 0) := by rw [T3.out.kd.cell]; rfl
      have z4 : v3.cell? ⟨w.heap.size + 1, 4, none⟩ = some (.int .i64 0) := by rw [T3.out.kd.cell]; rfl
      have f0 := T3.out.kd.frozen 0
      have f1 := T3.out.kd.frozen 1
      have f2 := T3.out.kd.frozen 2
      have f3 := T3.out.kd.frozen 3
      have f4 := T3.out.kd.frozen 4
      go_wp2_with fail
      generalize hWf : ((((World.setCell v3 _ _).setCell _ _).setCell _ _).setCell _ _).setCell _ _ = Wf
      obtain ⟨bf, cf, gf⟩ := T3.out.fin hWf
      have r0 : Wf.cell? ⟨w.heap.size + 1, 0, none⟩ = some (.int .i64 p0) := by rw [bf.cell]; rfl
      have r1 : Wf.cell? ⟨w.heap.size + 1, 1, none⟩ = some (.int .i64 p1) := by rw [bf.cell]; rfl
      have r2 : Wf.cell? ⟨w.heap.size + 1, 2, none⟩ = some (.int .i64 p2) := by rw [bf.cell]; rfl
      have r3 : Wf.cell? ⟨w.heap.size + 1, 3, none⟩ = some (.int .i64 p3) := by rw [bf.cell]; rfl
      have r4 : Wf.cell? ⟨w.heap.size + 1, 4, none⟩ = some (.int .i64 p4) := by rw [bf.cell]; rfl
      exact bodyPost_ret (v := .agg #[.int .i64 p0, .int .i64 p1, .int .i64 p2, .int .i64 p3, .int .i64 p4]) (by simp [results, Try.results37, go_sem, r0, r1, r2, r3, r4]) rfl ⟨_, _, _, _, _, rfl, cf, gf⟩
    | true =>
      go_wp2_with fail
      refine (below_any 2 (by omega) (by omega) v3 c A len cap hlen T3.out.cur).mono ?_
      rintro e v4 ⟨t, ht, rfl, hc3, g3⟩
      have T4 := Lib.hid (T3.out.draw hc3 g3)
      clear hc3 g3
      have mt : IntKind.i64.wrap (5 + (t : Int)) = 5 + (t : Int) := IntWalk.i64_in _ (by omega)
      have m0 : v4.cell? ⟨w1.heap.size, 0, none⟩ = some (.int .i64 p0) := by rw [T4.out.kr.cell]; rfl
      have m1 : v4.cell? ⟨w1.heap.size, 1, none⟩ = some (.int .i64 p1) := by rw [T4.out.kr.cell]; rfl
      have m2 : v4.cell? ⟨w1.heap.size, 2, none⟩ = some (.int .i64 p2) := by rw [T4.out.kr.cell]; rfl
      have m3 : v4.cell? ⟨w1.heap.size, 3, none⟩ = some (.int .i64 p3) := by rw [T4.out.kr.cell]; rfl
      have m4 : v4.cell? ⟨w1.heap.size, 4, none⟩ = some (.int .i64 p4) := by rw [T4.out.kr.cell]; rfl
      have q2 := T4.out.kr.frozen 2
      have z0 : v4.cell? ⟨w.heap.size + 1, 0, none⟩ = some (.int .i64 0) := by rw [T4.out.kd.cell]; rfl
      have z1 : v4.cell? ⟨w.heap.size + 1, 1, none⟩ = some (.int .i64 0) := by rw [T4.out.kd.cell]; rfl
      have z2 : v4.cell? ⟨w.heap.size + 1, 2, none⟩ = some (.int .i64 0) := by rw [T4.out.kd.cell]; rfl
      have z3 : v4.cell? ⟨w.heap.size + 1, 3, none⟩ = some (.int .i64 0) := by rw [T4.out.kd.cell]; rfl
      have z4 : v4.cell? ⟨w.heap.size + 1, 4, none⟩ = some (.int .i64 0) := by rw [T4.out.kd.cell]; rfl
      have f0 := T4.out.kd.frozen 0
      have f1 := T4.out.kd.frozen 1
      have f2 := T4.out.kd.frozen 2
      have f3 := T4.out.kd.frozen 3
      have f4 := T4.out.kd.frozen 4
      go_upto_region 6 with fail
      clear mt q2 m0 z0 f0 m1 z1 f1 m2 z2 f2 m3 z3 f3 m4 z4 f4
      generalize hU : World.setCell v4 _ _ = U3
      have QU3 := Lib.hid (show R10 w U3 c A len cap w.heap.size (w.heap.size + 1) w1.heap.size #[.slice A1 n c1, .int .i64 wk, .int .i64 cp] p0 p1 (5 + (t : Int)) p3 p4 by rw [← hU]; exact T4.out.put2 _)
      clear hU
      have m0 : U3.cell? ⟨w1.heap.size, 0, none⟩ = some (.int .i64 p0) := by rw [QU3.out.kr.cell]; rfl
      have m1 : U3.cell? ⟨w1.heap.size, 1, none⟩ = some (.int .i64 p1) := by rw [QU3.out.kr.cell]; rfl
      have m2 : U3.cell? ⟨w1.heap.size, 2, none⟩ = some (.int .i64 (5 + (t : Int))) := by rw [QU3.out.kr.cell]; rfl
      have m3 : U3.cell? ⟨w1.heap.size, 3, none⟩ = some (.int .i64 p3) := by rw [QU3.out.kr.cell]; rfl
      have m4 : U3.cell? ⟨w1.heap.size, 4, none⟩ = some (.int .i64 p4) := by rw [QU3.out.kr.cell]; rfl
      have z0 : U3.cell? ⟨w.heap.size + 1, 0, none⟩ = some (.int .i64 0) := by rw [QU3.out.kd.cell]; rfl
      have z1 : U3.cell? ⟨w.heap.size + 1, 1, none⟩ = some (.int .i64 0) := by rw [QU3.out.kd.cell]; rfl
      have z2 : U3.cell? ⟨w.heap.size + 1, 2, none⟩ = some (.int .i64 0) := by rw [QU3.out.kd.cell]; rfl
      have z3 : U3.cell? ⟨w.heap.size + 1, 3, none⟩ = some (.int .i64 0) := by rw [QU3.out.kd.cell]; rfl
      have z4 : U3.cell? ⟨w.heap.size + 1, 4, none⟩ = some (.int .i64 0) := by rw [QU3.out.kd.cell]; rfl
      have f0 := QU3.out.kd.frozen 0
      have f1 := QU3.out.kd.frozen 1
      have f2 := QU3.out.kd.frozen 2
      have f3 := QU3.out.kd.frozen 3
      have f4 := QU3.out.kd.frozen 4
      go_wp2_with fail
      generalize hWf : ((((World.setCell U3 _ _).setCell _ _).setCell _ _).setCell _ _).setCell _ _ = Wf
      obtain ⟨bf, cf, gf⟩ := QU3.out.fin hWf
      have r0 : Wf.cell? ⟨w.heap.size + 1, 0, none⟩ = some (.int .i64 p0) := by rw [bf.cell]; rfl
      have r1 : Wf.cell? ⟨w.heap.size + 1, 1, none⟩ = some (.int .i64 p1) := by rw [bf.cell]; rfl
      have r2 : Wf.cell? ⟨w.heap.size + 1, 2, none⟩ = some (.int .i64 (5 + (t : Int))) := by rw [bf.cell]; rfl
      have r3 : Wf.cell? ⟨w.heap.size + 1, 3, none⟩ = some (.int .i64 p3) := by rw [bf.cell]; rfl
      have r4 : Wf.cell? ⟨w.heap.size + 1, 4, none⟩ = some (.int .i64 p4) := by rw [bf.cell]; rfl
      exact bodyPost_ret (v := .agg #[.int .i64 p0, .int .i64 p1, .int .i64 (5 + (t : Int)), .int .i64 p3, .int .i64 p4]) (by simp [results, Try.results37, go_sem, r0, r1, r2, r3, r4]) rfl ⟨_, _, _, _, _, rfl, cf, gf⟩
end Go.Proofs.Ytlanmkimaambgaa.hexes

