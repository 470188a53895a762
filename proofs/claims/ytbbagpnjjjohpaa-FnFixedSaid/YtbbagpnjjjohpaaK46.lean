/-
  What Fixpoint is drawn: the contract of spec.DrawFixpoint.
  What IsClosed is drawn: the contract of spec.DrawIsClosed.
  What a draw of cells keeps from step to step.
  Drawn cells: the contracts of spec.l09Cell and spec.l09Cells.
-/
import Derived.Test.YtbbagpnjjjohpaaK45
import Derived.Test.YtbbagpnjjjohpaaK17
import Derived.Test.YtbbagpnjjjohpaaK27
import Derived.Test.YtbbagpnjjjohpaaK32
import Derived.Test.YtbbagpnjjjohpaaK9
import Derived.Test.YtbbagpnjjjohpaaK13
import Derived.WalkArith

namespace Go.Proofs.Ytbbagpnjjjohpaa.hexes
open Go.RowKit

set_option maxRecDepth 100000 in
set_option maxHeartbeats 2000000 in
theorem drawFix_any (w : World) (A : Option Addr) (len cap : Nat) (hlen : len ≤ 2097152) (hcame : Came w A len) :
    Calls Try.prog 12 #[.slice A len cap] w (CaseDraw w) := by
  have HC := Lib.hid hcame
  clear hcame
  obtain ⟨W, hW⟩ : ∃ z, w.alloc (.cells #[.slice none 0 0, .int .i64 0, .int .i64 0] 26) = z := ⟨_, rfl⟩
  have zW : W.heap.size = w.heap.size + 1 := by rw [← hW]; simp
  have bW : Below w.heap.size w W := by rw [← hW]; exact (Below.refl _ _).alloc (Nat.le_refl _) _
  have NG := Lib.hid (show Blk W w.heap.size 26 #[.slice none 0 0, .int .i64 0, .int .i64 0] by rw [← hW]; exact Blk.new _ _ _)
  go_enter Try.func12, Try.ntmps12
  go_wp2_with fail
  clear hW
  refine (drawCase_any W A len cap hlen (HC.out.below bW)).mono ?_
  rintro e w1 ⟨A1, n, c1, wk, cp, gs, ep, A4, m4, c4, rs, h9, hl, ho, h7, hr, hep, rfl, hn, hrow, hb⟩
  have hlg := NG.out.lt
  have NG1 := Lib.hid (NG.out.below hb)
  have BB := Lib.hid (below_chain bW hb)
  have HN := Lib.hid hn
  have HROW := Lib.hid hrow
  have HL := Lib.hid hl
  have HO := Lib.hid ho
  have HR := Lib.hid hr
  have l0 : w1.cell? ⟨w.heap.size, 0, none⟩ = some (.slice none 0 0) := by rw [NG1.out.cell]; rfl
  have l1 : w1.cell? ⟨w.heap.size, 1, none⟩ = some (.int .i64 0) := by rw [NG1.out.cell]; rfl
  have l2 : w1.cell? ⟨w.heap.size, 2, none⟩ = some (.int .i64 0) := by rw [NG1.out.cell]; rfl
  have f0 := NG1.out.frozen 0
  have f1 := NG1.out.frozen 1
  have f2 := NG1.out.frozen 2
  clear bW hn hrow hb NG hl ho hr
  go_wp2_with fail
  clear l0 l1 l2 f0 f1 f2
  generalize hWf : ((World.setCell w1 _ _).setCell _ _).setCell _ _ = Wf
  have kg : Blk Wf w.heap.size 26 #[.slice A1 n c1, .int .i64 wk, .int .i64 cp] := by rw [← hWf]; exact ((NG1.out.put 0 _).put 1 _).put 2 _
  have bel : Below w.heap.size w Wf := by rw [← hWf]; exact ((BB.out.setCell (Nat.le_refl _) _).setCell (Nat.le_refl _) _).setCell (Nat.le_refl _) _
  have gw : w1.grownBy Wf (some w.heap.size) := by rw [← hWf]; exact grown_trans (grown_trans (grown_set w1 _ _) (grown_set _ ⟨w.heap.size, 1, none⟩ _)) (grown_set _ ⟨w.heap.size, 2, none⟩ _)
  have row : Wf.ownsRow W.heap.size 51 5 (.slice A4 m4 c4) m4 (rcCells rs) := HROW.out.kept gw (.inr (own_type HROW.out NG1.out (by decide)))
  have e0 : Wf.cell? ⟨w.heap.size, 0, none⟩ = some (.slice A1 n c1) := by rw [kg.cell]; rfl
  have e1 : Wf.cell? ⟨w.heap.size, 1, none⟩ = some (.int .i64 wk) := by rw [kg.cell]; rfl
  have e2 : Wf.cell? ⟨w.heap.size, 2, none⟩ = some (.int .i64 cp) := by rw [kg.cell]; rfl
  exact bodyPost_ret (v := .tuple #[.agg #[.slice A1 n c1, .int .i64 wk, .int .i64 cp], .int .i64 ep, .slice A4 m4 c4]) (by simp [results, Try.results12, go_sem, e0, e1, e2]) rfl ⟨A1, n, c1, wk, cp, gs, ep, A4, m4, c4, rs, h9, HL.out, HO.out, h7, HR.out, hep, rfl, (HN.out.grown gw (by omega)).lower (by omega), own_base row (by omega), bel⟩
end Go.Proofs.Ytbbagpnjjjohpaa.hexes

namespace Go.Proofs.Ytbbagpnjjjohpaa.hexes
open Go.RowKit

/-- How the draw of a graph and cells ends. -/
def ClDraw (w : World) (e : Ending) (w' : World) : Prop := ∃ (A1 : Option Addr) (n c1 : Nat) (wk cp : Int) (gs : List Nd) (A4 : Option Addr) (m4 c4 : Nat) (zs : List Ce), n ≤ 9 ∧ gs.length = n ∧ (∀ x ∈ gs, x.2.2.2.length ≤ 4) ∧ m4 ≤ 800000 ∧ zs.length = m4 ∧ e = .returned (.tuple #[.agg #[.slice A1 n c1, .int .i64 wk, .int .i64 cp], .slice A4 m4 c4]) ∧ Nds w' A1 gs ∧ Ces w' A4 zs ∧ Below w.heap.size w w'
/-- The draw's state: the result's block, the cursor, the graph's variable, the cells. -/
structure CL11 (b wx : World) (c : Nat) (A : Option Addr) (len cap x B : Nat) (G : Array Value) (A1 : Option Addr) (n c1 : Nat) (wk cp : Int) (gs : List Nd) (A4 : Option Addr) (m4 c4 : Nat) (zs : List Ce) : Prop where
  bc : b.heap.size + 1 ≤ c
  cx : c < x
  cB : c < B
  cur : Cursor wx c A len cap
  bel : Below b.heap.size b wx
  kg : Blk wx b.heap.size 26 G
  kx : Blk wx x 26 #[.slice A1 n c1, .int .i64 wk, .int .i64 cp]
  nds : NdsF B wx A1 gs
  lst : Wce wx (b.heap.size + 1) wx.heap.size A4 m4 c4 zs
variable {b wx w' : World} {c : Nat} {A : Option Addr} {len cap x B : Nat} {G : Array Value} {A1 : Option Addr} {n c1 : Nat} {wk cp : Int} {gs : List Nd} {A4 : Option Addr} {m4 c4 : Nat} {zs : List Ce}
theorem CL11.draw (S : CL11 b wx c A len cap x B G A1 n c1 wk cp gs A4 m4 c4 zs) (hc : Cursor w' c A len cap) (g : wx.grownBy w' (some c)) : CL11 b w' c A len cap x B G A1 n c1 wk cp gs A4 m4 c4 zs := by
  have h1 := S.bc
  have h2 := S.cx
  obtain ⟨i, hh, hi, hblk⟩ := S.cur.at_
  exact ⟨S.bc, S.cx, S.cB, hc, S.bel.grown g S.bel.size (fun k hk => by simp at hk; omega), S.kg.grown g (by simp; omega), S.kx.grown g (by simp; omega), S.nds.grown g S.cB, (S.lst.beside hblk g (by decide)).bounds (Nat.le_refl _) g.size⟩
theorem CL11.cut (S : CL11 b wx c A len cap x B G A1 n c1 wk cp gs A4 m4 c4 zs) {A5 : Option Addr} {m5 c5 : Nat} {ys : List Ce} (h : Wce wx (b.heap.size + 1) wx.heap.size A5 m5 c5 ys) : CL11 b wx c A len cap x B G A1 n c1 wk cp gs A5 m5 c5 ys := ⟨S.bc, S.cx, S.cB, S.cur, S.bel, S.kg, S.kx, S.nds, h⟩
theorem CL11.fin (S : CL11 b wx c A len cap x B G A1 n c1 wk cp gs A4 m4 c4 zs) {cs : Array Value} {wf : World} (_hk : Blk wf b.heap.size 26 cs) (g : wx.grownBy wf (some b.heap.size)) : Nds wf A1 gs ∧ Ces wf A4 zs ∧ Below b.heap.size b wf := by
  have h1 := S.bc
  have h2 := S.cB
  exact ⟨(S.nds.grown g (by omega)).nds, (S.lst.beside S.kg g (by decide)).ce, S.bel.grown g S.bel.size (fun k hk => by simp at hk; omega)⟩

set_option maxRecDepth 100000 in
set_option maxHeartbeats 8000000 in
theorem drawCl_any (w : World) (A : Option Addr) (len cap : Nat) (hlen : len ≤ 2097152) (hcame : Came w A len) :
    Calls Try.prog 18 #[.slice A len cap] w (ClDraw w) := by
  have HC := Lib.hid hcame
  clear hcame
  obtain ⟨W, hW⟩ : ∃ z, w.alloc (.cells #[.slice none 0 0, .int .i64 0, .int .i64 0] 26) = z := ⟨_, rfl⟩
  have zW : W.heap.size = w.heap.size + 1 := by rw [← hW]; simp
  have bW : Below w.heap.size w W := by rw [← hW]; exact (Below.refl _ _).alloc (Nat.le_refl _) _
  have NG := Lib.hid (show Blk W w.heap.size 26 #[.slice none 0 0, .int .i64 0, .int .i64 0] by rw [← hW]; exact Blk.new _ _ _)
  go_enter Try.func18, Try.ntmps18
  go_wp2_with fail
  clear hW
  refine (new_any W A len cap hlen (HC.out.below bW)).mono ?_
  rintro e w1 ⟨c, rfl, hcw, hcur, hb1⟩
  have hcl := hcur.lt
  have CU := Lib.hid hcur
  have BW := Lib.hid (below_chain bW hb1)
  have NG1 := Lib.hid (NG.out.below hb1)
  clear hcur hb1 bW NG
  go_wp2_with fail
  refine (drawCase_any w1 A len cap hlen (HC.out.below BW.out)).mono ?_
  rintro e w2 ⟨A1, n, c1, wk, cp, gs, ep, A6, m6, c6, rs, h9, hgl, hgo, h7, hr, hep, rfl, hF, hrow, hb⟩
  have HL := Lib.hid hgl
  have HO := Lib.hid hgo
  have HR := Lib.hid hr
  have sz2 := hb.size
  obtain ⟨q, hq, hql⟩ := fix_start gs wk cp ep rs
  have HQ := Lib.hid hq
  clear hgl hgo hr hq
  obtain ⟨x, hx⟩ : ∃ x, w2.heap.size = x := ⟨_, rfl⟩
  obtain ⟨U, hU⟩ : ∃ z, w2.alloc (.cells #[.slice A1 n c1, .int .i64 wk, .int .i64 cp] 26) = z := ⟨_, rfl⟩
  have hbU : Below w2.heap.size w2 U := by rw [← hU]; exact (Below.refl _ _).alloc (Nat.le_refl _) _
  have kx := Lib.hid (show Blk U x 26 #[.slice A1 n c1, .int .i64 wk, .int .i64 cp] by rw [← hU, ← hx]; exact Blk.new _ _ _)
  have CU2 := Lib.hid ((CU.out.belowD hb).belowD hbU)
  have BU := Lib.hid (below_chain (below_chain BW.out hb) hbU)
  have NG2 := Lib.hid ((NG1.out.below hb).below hbU)
  have F2 := Lib.hid (hF.below hbU)
  have R2 := Lib.hid (own_below hrow hbU)
  have szU : x < U.heap.size := kx.out.lt
  clear hb hbU hF hrow CU BW NG1
  have k0 : U.cell? ⟨x, 0, none⟩ = some (.slice A1 n c1) := by rw [kx.out.cell]; rfl
  have k1 : U.cell? ⟨x, 1, none⟩ = some (.int .i64 wk) := by rw [kx.out.cell]; rfl
  have k2 : U.cell? ⟨x, 2, none⟩ = some (.int .i64 cp) := by rw [kx.out.cell]; rfl
  go_wp2_with fail
  clear hU k0 k1 k2
  obtain ⟨A6', c6', he6, hl6, hr6⟩ := Rcs.of_own R2.out
  simp only [Value.slice.injEq, true_and] at he6
  obtain ⟨rfl, rfl⟩ := he6
  have R3 := Lib.hid hr6
  clear hr6 hl6
  refine (specFix_any gs wk cp A1 n c1 HL.out (fun y hy => Nat.le_trans (HO.out y hy) (by omega)) (by omega) ep rs A6 m6 c6 HR.out (by omega) HQ.out U F2.out.nds R3.out).mono ?_
  rintro e w4 ⟨A4, c4, m4, hm4, rfl, hl4, hb4⟩
  have uz := BU.out.size
  have S4 := Lib.hid (show CL11 w w4 c A len cap x (w1.heap.size + 1) #[.slice none 0 0, .int .i64 0, .int .i64 0] A1 n c1 wk cp gs A4 m4 c4 q from
    ⟨by omega, by omega, by omega, CU2.out.belowD hb4, below_chain BU.out hb4, NG2.out.below hb4, kx.out.below hb4, F2.out.below hb4, hl4.bounds (by omega) (Nat.le_refl _)⟩)
  have M4 := Lib.hid hm4
  have hm8 : m4 ≤ 800000 := by rw [← hm4]; exact hql
  clear hm4 hl4 hb4 CU2 BU NG2 kx F2 R2 R3 HQ hql HR
  by_cases h1 : 1 < m4
  rotate_left
  · have dg : decide ((m4 : Int) > 1) = false := by simp; omega
    have l0 : w4.cell? ⟨w.heap.size, 0, none⟩ = some (.slice none 0 0) := by rw [S4.out.kg.cell]; rfl
    have l1 : w4.cell? ⟨w.heap.size, 1, none⟩ = some (.int .i64 0) := by rw [S4.out.kg.cell]; rfl
    have l2 : w4.cell? ⟨w.heap.size, 2, none⟩ = some (.int .i64 0) := by rw [S4.out.kg.cell]; rfl
    have lf0 := S4.out.kg.frozen 0
    have lf1 := S4.out.kg.frozen 1
    have lf2 := S4.out.kg.frozen 2
    have k0 : w4.cell? ⟨x, 0, none⟩ = some (.slice A1 n c1) := by rw [S4.out.kx.cell]; rfl
    have k1 : w4.cell? ⟨x, 1, none⟩ = some (.int .i64 wk) := by rw [S4.out.kx.cell]; rfl
    have k2 : w4.cell? ⟨x, 2, none⟩ = some (.int .i64 cp) := by rw [S4.out.kx.cell]; rfl
    go_wp2_with fail
    generalize hWf : ((World.setCell w4 _ _).setCell _ _).setCell _ _ = Wf
    have kg : Blk Wf w.heap.size 26 #[.slice A1 n c1, .int .i64 wk, .int .i64 cp] := by rw [← hWf]; exact ((S4.out.kg.put 0 _).put 1 _).put 2 _
    have gw : w4.grownBy Wf (some w.heap.size) := by rw [← hWf]; exact grown_trans (grown_trans (grown_set _ _ _) (grown_set _ ⟨w.heap.size, 1, none⟩ _)) (grown_set _ ⟨w.heap.size, 2, none⟩ _)
    obtain ⟨hn, hz, hbel⟩ := S4.out.fin kg gw
    have e0 : Wf.cell? ⟨w.heap.size, 0, none⟩ = some (.slice A1 n c1) := by rw [kg.cell]; rfl
    have e1 : Wf.cell? ⟨w.heap.size, 1, none⟩ = some (.int .i64 wk) := by rw [kg.cell]; rfl
    have e2 : Wf.cell? ⟨w.heap.size, 2, none⟩ = some (.int .i64 cp) := by rw [kg.cell]; rfl
    exact bodyPost_ret (v := .tuple #[.agg #[.slice A1 n c1, .int .i64 wk, .int .i64 cp], .slice A4 (m4) c4]) (by simp [results, Try.results18, go_sem, e0, e1, e2]) rfl ⟨A1, n, c1, wk, cp, gs, A4, m4, c4, q, h9, HL.out, HO.out, by omega, M4.out, rfl, hn, hz, hbel⟩
  have dg : decide ((m4 : Int) > 1) = true := by simp; omega
  go_wp2_with fail
  refine (once_any 2 (by omega) (by omega) w4 c A len cap hlen S4.out.cur).mono ?_
  rintro e w5 ⟨bb, rfl, hcn, gn⟩
  have S5 := Lib.hid (S4.out.draw hcn gn)
  clear hcn gn S4
  cases bb with
  | false =>
    have l0 : w5.cell? ⟨w.heap.size, 0, none⟩ = some (.slice none 0 0) := by rw [S5.out.kg.cell]; rfl
    have l1 : w5.cell? ⟨w.heap.size, 1, none⟩ = some (.int .i64 0) := by rw [S5.out.kg.cell]; rfl
    have l2 : w5.cell? ⟨w.heap.size, 2, none⟩ = some (.int .i64 0) := by rw [S5.out.kg.cell]; rfl
    have lf0 := S5.out.kg.frozen 0
    have lf1 := S5.out.kg.frozen 1
    have lf2 := S5.out.kg.frozen 2
    have k0 : w5.cell? ⟨x, 0, none⟩ = some (.slice A1 n c1) := by rw [S5.out.kx.cell]; rfl
    have k1 : w5.cell? ⟨x, 1, none⟩ = some (.int .i64 wk) := by rw [S5.out.kx.cell]; rfl
    have k2 : w5.cell? ⟨x, 2, none⟩ = some (.int .i64 cp) := by rw [S5.out.kx.cell]; rfl
    go_wp2_with fail
    generalize hWf : ((World.setCell w5 _ _).setCell _ _).setCell _ _ = Wf
    have kg : Blk Wf w.heap.size 26 #[.slice A1 n c1, .int .i64 wk, .int .i64 cp] := by rw [← hWf]; exact ((S5.out.kg.put 0 _).put 1 _).put 2 _
    have gw : w5.grownBy Wf (some w.heap.size) := by rw [← hWf]; exact grown_trans (grown_trans (grown_set _ _ _) (grown_set _ ⟨w.heap.size, 1, none⟩ _)) (grown_set _ ⟨w.heap.size, 2, none⟩ _)
    obtain ⟨hn, hz, hbel⟩ := S5.out.fin kg gw
    have e0 : Wf.cell? ⟨w.heap.size, 0, none⟩ = some (.slice A1 n c1) := by rw [kg.cell]; rfl
    have e1 : Wf.cell? ⟨w.heap.size, 1, none⟩ = some (.int .i64 wk) := by rw [kg.cell]; rfl
    have e2 : Wf.cell? ⟨w.heap.size, 2, none⟩ = some (.int .i64 cp) := by rw [kg.cell]; rfl
    exact bodyPost_ret (v := .tuple #[.agg #[.slice A1 n c1, .int .i64 wk, .int .i64 cp], .slice A4 (m4) c4]) (by simp [results, Try.results18, go_sem, e0, e1, e2]) rfl ⟨A1, n, c1, wk, cp, gs, A4, m4, c4, q, h9, HL.out, HO.out, by omega, M4.out, rfl, hn, hz, hbel⟩
  | true =>
    obtain ⟨T, qT, hT, _⟩ := slice_fromC2 A4 m4 c4 1 (by omega)
    replace qT : ∀ w, (Instr.slice 30 (.slice A4 m4 c4) (some (.int .i64 1)) none none).run Try.prog w = .ok (.slice T (m4 - 1) (c4 - 1)) w := qT
    have S6 := Lib.hid (S5.out.cut (S5.out.lst.drop 1 (by omega) hT))
    have LM := Lib.hid (show (q.drop 1).length = m4 - 1 by rw [List.length_drop, M4.out])
    clear hT S5
    have l0 : w5.cell? ⟨w.heap.size, 0, none⟩ = some (.slice none 0 0) := by rw [S6.out.kg.cell]; rfl
    have l1 : w5.cell? ⟨w.heap.size, 1, none⟩ = some (.int .i64 0) := by rw [S6.out.kg.cell]; rfl
    have l2 : w5.cell? ⟨w.heap.size, 2, none⟩ = some (.int .i64 0) := by rw [S6.out.kg.cell]; rfl
    have lf0 := S6.out.kg.frozen 0
    have lf1 := S6.out.kg.frozen 1
    have lf2 := S6.out.kg.frozen 2
    have k0 : w5.cell? ⟨x, 0, none⟩ = some (.slice A1 n c1) := by rw [S6.out.kx.cell]; rfl
    have k1 : w5.cell? ⟨x, 1, none⟩ = some (.int .i64 wk) := by rw [S6.out.kx.cell]; rfl
    have k2 : w5.cell? ⟨x, 2, none⟩ = some (.int .i64 cp) := by rw [S6.out.kx.cell]; rfl
    go_wp2_with fail
    generalize hWf : ((World.setCell w5 _ _).setCell _ _).setCell _ _ = Wf
    have kg : Blk Wf w.heap.size 26 #[.slice A1 n c1, .int .i64 wk, .int .i64 cp] := by rw [← hWf]; exact ((S6.out.kg.put 0 _).put 1 _).put 2 _
    have gw : w5.grownBy Wf (some w.heap.size) := by rw [← hWf]; exact grown_trans (grown_trans (grown_set _ _ _) (grown_set _ ⟨w.heap.size, 1, none⟩ _)) (grown_set _ ⟨w.heap.size, 2, none⟩ _)
    obtain ⟨hn, hz, hbel⟩ := S6.out.fin kg gw
    have e0 : Wf.cell? ⟨w.heap.size, 0, none⟩ = some (.slice A1 n c1) := by rw [kg.cell]; rfl
    have e1 : Wf.cell? ⟨w.heap.size, 1, none⟩ = some (.int .i64 wk) := by rw [kg.cell]; rfl
    have e2 : Wf.cell? ⟨w.heap.size, 2, none⟩ = some (.int .i64 cp) := by rw [kg.cell]; rfl
    exact bodyPost_ret (v := .tuple #[.agg #[.slice A1 n c1, .int .i64 wk, .int .i64 cp], .slice T (m4 - 1) (c4 - 1)]) (by simp [results, Try.results18, go_sem, e0, e1, e2]) rfl ⟨A1, n, c1, wk, cp, gs, T, m4 - 1, c4 - 1, q.drop 1, h9, HL.out, HO.out, by omega, LM.out, rfl, hn, hz, hbel⟩
end Go.Proofs.Ytbbagpnjjjohpaa.hexes

namespace Go.Proofs.Ytbbagpnjjjohpaa.hexes
open Go.RowKit

structure CdSt (b wx : World) (c : Nat) (A : Option Addr) (len cap : Nat) (A1 : Option Addr) (m c1 : Nat) (zs : List Ce) : Prop where
  c0 : Cursor b c A len cap
  cur : Cursor wx c A len cap
  gr : b.grownBy wx (some c)
  row : wx.ownsRow b.heap.size 38 4 (.slice A1 m c1) m (ceCells zs)

variable {b wx w' : World} {c len cap m c1 : Nat} {A A1 : Option Addr} {zs : List Ce}

theorem CdSt.fresh (S : CdSt b wx c A len cap A1 m c1 zs) (hb : Below wx.heap.size wx w') : CdSt b w' c A len cap A1 m c1 zs :=
  ⟨S.c0, S.cur.belowD hb, grown_below S.gr hb, own_below S.row hb⟩
theorem CdSt.draw (S : CdSt b wx c A len cap A1 m c1 zs) (hc : Cursor w' c A len cap) (g : wx.grownBy w' (some c)) : CdSt b w' c A len cap A1 m c1 zs := by
  obtain ⟨i, hh, hi, hblk⟩ := S.cur.at_
  exact ⟨S.c0, hc, grown_trans S.gr g, S.row.kept g (.inr (own_type S.row hblk (by decide)))⟩
theorem CdSt.put (S : CdSt b wx c A len cap A1 m c1 zs) {A2 : Option Addr} {m2 c2 : Nat} {ys : List Ce} (o : w'.ownsRow wx.heap.size 38 4 (.slice A2 m2 c2) m2 (ceCells ys)) (hb : Below wx.heap.size wx w') : CdSt b w' c A len cap A2 m2 c2 ys :=
  ⟨S.c0, S.cur.belowD hb, grown_below S.gr hb, own_base o S.gr.size⟩
theorem CdSt.app (S : CdSt b wx c A len cap A1 m c1 zs) {x : Ce} {v : Value} (hO : w'.ownsRow b.heap.size 38 4 v (m + 1) (ceCells (zs ++ [x]))) (hG : wx.grownBy w' (Value.slice A1 m c1).ownBlock) :
    ∃ A2 c2, v = .slice A2 (m + 1) c2 ∧ CdSt b w' c A len cap A2 (m + 1) c2 (zs ++ [x]) := by
  obtain ⟨A2, c2, rfl, _⟩ := own_form hO
  obtain ⟨i, hh, hi, hblk⟩ := S.cur.at_
  have nc := own_type S.row hblk (by decide)
  have g1 : b.grownBy w' (some c) := grown_row S.gr hG (fun g hg => own_ge S.row g hg)
  exact ⟨A2, c2, rfl, S.c0, S.c0.back S.cur g1 (hG.block c hblk.lt (Ne.symm nc)), g1, hO⟩
theorem CdSt.ces (S : CdSt b wx c A len cap A1 m c1 zs) : zs.length = m ∧ Ces wx A1 zs := by
  obtain ⟨A', c', he, hl, hs⟩ := Ces.of_own S.row
  simp only [Value.slice.injEq, true_and] at he
  obtain ⟨rfl, rfl⟩ := he
  exact ⟨hl, hs⟩
end Go.Proofs.Ytbbagpnjjjohpaa.hexes

namespace Go.Proofs.Ytbbagpnjjjohpaa.hexes
open Go.RowKit

/-- How a drawn cell ends. -/
def CeEnd (w : World) (c : Nat) (A : Option Addr) (len cap : Nat) (e : Ending) (w' : World) : Prop :=
  ∃ x0 x1 x2 x3 : Int, e = .returned (.agg #[.int .i64 x0, .int .i64 x1, .int .i64 x2, .int .i64 x3]) ∧ Cursor w' c A len cap ∧ w.grownBy w' (some c)

set_option maxRecDepth 100000 in
set_option maxHeartbeats 2000000 in
theorem cell_draw (w : World) (c : Nat) (A : Option Addr) (len cap : Nat) (hlen : len ≤ 2097152) (hcur : Cursor w c A len cap) :
    Calls Try.prog 82 #[.pointer (some ⟨c, 0, none⟩)] w (CeEnd w c A len cap) := by
  have hc := hcur.lt
  have HC := Lib.hid hcur
  clear hcur
  go_enter Try.func82, Try.ntmps82
  go_wp2_with fail
  generalize hW : w.alloc _ = w0
  have bW : Below w.heap.size w w0 := by rw [← hW]; exact (Below.refl _ _).alloc (Nat.le_refl _) _
  have R0 := Lib.hid (show Blk w0 w.heap.size 38 #[.int .i64 0, .int .i64 0, .int .i64 0, .int .i64 0] by rw [← hW]; exact Blk.new _ _ _)
  have C0 := Lib.hid (HC.out.belowD bW)
  have G0 := Lib.hid (grown_below (grown_refl w (some c)) bW)
  clear bW hW
  refine (below_any 3 (by omega) (by omega) w0 c A len cap hlen C0.out).mono ?_
  rintro e w1 ⟨p0, hp0, rfl, hc1, g1⟩
  have C1 := Lib.hid hc1
  have G1 := Lib.hid (grown_trans G0.out g1)
  have R1 := Lib.hid (R0.out.grown g1 (by simp; omega))
  clear hc1 g1 G0 R0 C0
  go_wp2_with fail
  refine (below_any 2 (by omega) (by omega) w1 c A len cap hlen C1.out).mono ?_
  rintro e w2 ⟨p1, hp1, rfl, hc2, g2⟩
  have C2 := Lib.hid hc2
  have G2 := Lib.hid (grown_trans G1.out g2)
  have R2 := Lib.hid (R1.out.grown g2 (by simp; omega))
  clear hc2 g2 G1 R1 C1
  go_wp2_with fail
  refine (below_any 4 (by omega) (by omega) w2 c A len cap hlen C2.out).mono ?_
  rintro e w3 ⟨p2, hp2, rfl, hc3, g3⟩
  have C3 := Lib.hid hc3
  have G3 := Lib.hid (grown_trans G2.out g3)
  have R3 := Lib.hid (R2.out.grown g3 (by simp; omega))
  clear hc3 g3 G2 R2 C2
  go_wp2_with fail
  refine (below_any 5 (by omega) (by omega) w3 c A len cap hlen C3.out).mono ?_
  rintro e w4 ⟨p3, hp3, rfl, hc4, g4⟩
  have C4 := Lib.hid hc4
  have G4 := Lib.hid (grown_trans G3.out g4)
  have R4 := Lib.hid (R3.out.grown g4 (by simp; omega))
  clear hc4 g4 G3 R3 C3
  have e0 : w4.cell? ⟨w.heap.size, 0, none⟩ = some (.int .i64 0) := by rw [R4.out.cell]; rfl
  have e1 : w4.cell? ⟨w.heap.size, 1, none⟩ = some (.int .i64 0) := by rw [R4.out.cell]; rfl
  have e2 : w4.cell? ⟨w.heap.size, 2, none⟩ = some (.int .i64 0) := by rw [R4.out.cell]; rfl
  have e3 : w4.cell? ⟨w.heap.size, 3, none⟩ = some (.int .i64 0) := by rw [R4.out.cell]; rfl
  have f0 := R4.out.frozen 0
  have f1 := R4.out.frozen 1
  have f2 := R4.out.frozen 2
  have f3 := R4.out.frozen 3
  have hcl := C4.out.lt
  have hrl := R4.out.lt
  go_wp2_with fail
  generalize hWf : (((w4.setCell _ _).setCell _ _).setCell _ _).setCell _ _ = Wf
  have bf : Blk Wf w.heap.size 38 #[.int .i64 (p0 : Int), .int .i64 (p1 : Int), .int .i64 (p2 : Int), .int .i64 (p3 : Int)] := by rw [← hWf]; exact ((((R4.out.put 0 _).put 1 _).put 2 _).put 3 _)
  have gf : w.grownBy Wf (some c) := by rw [← hWf]; exact (grown_set_new (grown_set_new (grown_set_new (grown_set_new G4.out (by simp) _) (by simp) _) (by simp) _) (by simp) _)
  have kf : Wf.heap[c]? = w4.heap[c]? := by rw [← hWf]; exact ((Below.heap_setCell _ _ _ c (by simp; omega)).trans ((Below.heap_setCell _ _ _ c (by simp; omega)).trans ((Below.heap_setCell _ _ _ c (by simp; omega)).trans (Below.heap_setCell _ _ _ c (by simp; omega)))))
  have r0 : Wf.cell? ⟨w.heap.size, 0, none⟩ = some (.int .i64 (p0 : Int)) := by rw [bf.cell]; rfl
  have r1 : Wf.cell? ⟨w.heap.size, 1, none⟩ = some (.int .i64 (p1 : Int)) := by rw [bf.cell]; rfl
  have r2 : Wf.cell? ⟨w.heap.size, 2, none⟩ = some (.int .i64 (p2 : Int)) := by rw [bf.cell]; rfl
  have r3 : Wf.cell? ⟨w.heap.size, 3, none⟩ = some (.int .i64 (p3 : Int)) := by rw [bf.cell]; rfl
  exact bodyPost_ret (v := .agg #[.int .i64 (p0 : Int), .int .i64 (p1 : Int), .int .i64 (p2 : Int), .int .i64 (p3 : Int)]) (by simp [results, Try.results82, go_sem, r0, r1, r2, r3]) rfl ⟨_, _, _, _, rfl, HC.out.back C4.out gf kf, gf⟩

/-- How a drawn list of cells ends. -/
def CesEnd (w : World) (c : Nat) (A : Option Addr) (len cap : Nat) (e : Ending) (w' : World) : Prop :=
  ∃ (A1 : Option Addr) (m c1 : Nat) (zs : List Ce), m ≤ 10 ∧ e = .returned (.slice A1 m c1) ∧ CdSt w w' c A len cap A1 m c1 zs

set_option maxRecDepth 100000 in
set_option maxHeartbeats 4000000 in
theorem ces_draw (w : World) (c : Nat) (A : Option Addr) (len cap : Nat) (hlen : len ≤ 2097152) (hcur : Cursor w c A len cap) :
    Calls Try.prog 51 #[.pointer (some ⟨c, 0, none⟩)] w (CesEnd w c A len cap) := by
  have hc := hcur.lt
  have HC := Lib.hid hcur
  clear hcur
  go_enter Try.func51, Try.ntmps51
  go_wp2
  go_loopw [3, 4] (fun v i wr => ∃ (j m : Nat) (A1 : Option Addr) (c1 : Nat) (zs : List Ce), i = .int .i64 (j : Int) ∧ m ≤ j ∧ j ≤ 9 ∧ v = .slice A1 m c1 ∧ CdSt w wr c A len cap A1 m c1 zs) (fun _ i _ => 9 - (intOf i).toNat)
  case atStart => exact ⟨0, 0, _, _, [], rfl, Nat.le_refl _, by omega, rfl, HC.out, HC.out.belowD ((Below.refl _ _).alloc (Nat.le_refl _) _), grown_below (grown_refl w (some c)) ((Below.refl _ _).alloc (Nat.le_refl _) _), World.ownsRow_lit w #[] 0 (Nat.le_refl _) (by decide) rfl⟩
  case round =>
    obtain ⟨j, m, A1, c1, zs, rfl, hmj, hj, rfl, hS⟩ := hrel
    have S := Lib.hid hS
    clear hS
    go_wp2_with fail
    refine (below_any 9 (by omega) (by omega) wr c A len cap hlen S.out.cur).mono ?_
    rintro e w2 ⟨y, hy, rfl, hc2, g2⟩
    have S2 := Lib.hid (S.out.draw hc2 g2)
    clear hc2 g2 S
    by_cases hjy : j < y
    · have hd : decide ((j : Int) < (y : Int)) = true := by simp; omega
      go_wp2_with fail
      refine (cell_draw w2 c A len cap hlen S2.out.cur).mono ?_
      rintro e w3 ⟨x0, x1, x2, x3, rfl, hc3, g3⟩
      have S3 := Lib.hid (S2.out.draw hc3 g3)
      clear hc3 g3 S2
      go_wp2_with fail
      refine (specPut_any m zs S3.out.ces.1 A1 c1 (own_nil S3.out.row) (own_capS S3.out.row) x0 x1 x2 x3 w3 S3.out.ces.2 (by omega)).mono ?_
      rintro e w4 ⟨v4, rfl, o4, b4⟩
      have hpl := put_len zs (x0, x1, x2, x3)
      rw [S3.out.ces.1] at hpl
      obtain ⟨A4, c4, rfl, hl4, _⟩ := Ces.of_own o4
      have S4 := Lib.hid (S3.out.put o4 b4)
      obtain ⟨us, hus⟩ : ∃ us, putC zs (x0, x1, x2, x3) = us := ⟨_, rfl⟩
      rw [hus] at S4 hpl ⊢
      obtain ⟨m4, hm4⟩ : ∃ m4, us.length = m4 := ⟨_, rfl⟩
      rw [hm4] at S4 hpl ⊢
      clear o4 b4 hl4 hus hm4 S3
      go_wp2
      go_roundw
      case rel => exact ⟨j + 1, m4, A4, c4, us, by go_num, by omega, by omega, rfl, S4.out⟩
      case measure => simp [intOf]; omega
    · have hd : decide ((j : Int) < (y : Int)) = false := by simp; omega
      go_wp2_with fail
      refine (once_any 10 (by omega) (by omega) w2 c A len cap hlen S2.out.cur).mono ?_
      rintro e w3 ⟨bb, rfl, hc3, g3⟩
      have S3 := Lib.hid (S2.out.draw hc3 g3)
      clear hc3 g3 S2
      cases bb with
      | false =>
        go_wp2
        go_ret
        exact ⟨A1, m, c1, zs, by omega, rfl, S3.out⟩
      | true =>
        go_wp2_with fail
        refine (cell_draw w3 c A len cap hlen S3.out.cur).mono ?_
        rintro e w4 ⟨x0, x1, x2, x3, rfl, hc4, g4⟩
        have S4 := Lib.hid (S3.out.draw hc4 g4)
        clear hc4 g4 S3
        obtain ⟨V, hV⟩ : ∃ z, w4.alloc (.cells #[.int .i64 x0, .int .i64 x1, .int .i64 x2, .int .i64 x3] 38) = z := ⟨_, rfl⟩
        have NV := Lib.hid (show Ces V (some ⟨w4.heap.size, 0, none⟩) [(x0, x1, x2, x3)] by rw [← hV]; exact ce_new _ _ _ _ _)
        have SV := Lib.hid (S4.out.fresh (show Below w4.heap.size w4 V by rw [← hV]; exact (Below.refl _ _).alloc (Nat.le_refl _) _))
        go_wp2_with (at_builtin; refine wpList_append_ce rfl (.tmp 18) (.tmp 21) (by rfl) w.heap.size _ m zs (by rfl) SV.out.row (some ⟨w4.heap.size, 0, none⟩) 1 1 [(x0, x1, x2, x3)] (by rfl) (fun h => by cases h) rfl NV.out (by omega) SV.out.gr.size ?_; intro v8 w8 own8 gr8)
        obtain ⟨A8, c8, rfl, hS8⟩ := SV.out.app own8 gr8
        have S8 := Lib.hid hS8
        clear own8 gr8 hS8 hV
        go_wp2
        go_ret
        exact ⟨A8, m + 1, c8, _, by omega, rfl, S8.out⟩
end Go.Proofs.Ytbbagpnjjjohpaa.hexes

