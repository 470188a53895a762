/-
  What StepOp is drawn: the contract of spec.DrawStepOp.
-/
import Derived.Test.YtlanmkimaambgaaS39
import Derived.Test.YtlanmkimaambgaaS41
import Derived.Test.YtlanmkimaambgaaS46
import Derived.Test.YtlanmkimaambgaaS47

namespace Go.Proofs.Ytlanmkimaambgaa.hexes
open Go.RowKit

def StepDraw (w : World) (e : Ending) (w' : World) : Prop := ∃ (A1 : Option Addr) (n c1 : Nat) (wk cp : Int) (gs : List Nd) (A3 : Option Addr) (m3 c3 : Nat) (zs : List Ce) (p0 p1 p2 p3 p4 : Int), n ≤ 9 ∧ gs.length = n ∧ (∀ x ∈ gs, x.2.2.2.length ≤ 4) ∧ m3 ≤ 6 ∧ zs.length = m3 ∧ e = .returned (.tuple #[.agg #[.slice A1 n c1, .int .i64 wk, .int .i64 cp], .slice A3 m3 c3, .agg #[.int .i64 p0, .int .i64 p1, .int .i64 p2, .int .i64 p3, .int .i64 p4]]) ∧ Nds w' A1 gs ∧ w'.ownsRow w.heap.size 75 4 (.slice A3 m3 c3) m3 (ceCells zs) ∧ Below w.heap.size w w'
/-- What the draw keeps from step to step: the results' blocks, the graph's variable in block x. -/
structure SD (b wx : World) (c : Nat) (A : Option Addr) (len cap x B : Nat) (G D : Array Value) (A1 : Option Addr) (n c1 : Nat) (wk cp : Int) (gs : List Nd) (A3 : Option Addr) (m3 c3 : Nat) (zs : List Ce) : Prop where
  came : Came b A len
  bc : b.heap.size + 2 ≤ c
  cx : c < x
  cB : c < B
  cur : Cursor wx c A len cap
  bel : Below b.heap.size b wx
  kg : Blk wx b.heap.size 26 G
  kd : Blk wx (b.heap.size + 1) 31 D
  kx : Blk wx x 26 #[.slice A1 n c1, .int .i64 wk, .int .i64 cp]
  row : wx.ownsRow b.heap.size 75 4 (.slice A3 m3 c3) m3 (ceCells zs)
  nds : NdsF B wx A1 gs
variable {b wx w' : World} {c : Nat} {A : Option Addr} {len cap x B : Nat} {G D : Array Value} {A1 : Option Addr} {n c1 : Nat} {wk cp : Int} {gs : List Nd} {A3 : Option Addr} {m3 c3 : Nat} {zs : List Ce}
theorem SD.draw (S : SD b wx c A len cap x B G D A1 n c1 wk cp gs A3 m3 c3 zs) (hc : Cursor w' c A len cap) (g : wx.grownBy w' (some c)) : SD b w' c A len cap x B G D A1 n c1 wk cp gs A3 m3 c3 zs := by
  have h1 := S.bc
  have h2 := S.cx
  obtain ⟨i, hh, hi, hblk⟩ := S.cur.at_
  exact ⟨S.came, S.bc, S.cx, S.cB, hc, S.bel.grown g S.bel.size (fun k hk => by simp at hk; omega), S.kg.grown g (by simp; omega), S.kd.grown g (by simp; omega), S.kx.grown g (by simp; omega), S.row.kept g (.inr (own_type S.row hblk (by decide))), S.nds.grown g S.cB⟩
theorem SD.fresh (S : SD b wx c A len cap x B G D A1 n c1 wk cp gs A3 m3 c3 zs) (hb : Below wx.heap.size wx w') : SD b w' c A len cap x B G D A1 n c1 wk cp gs A3 m3 c3 zs :=
  ⟨S.came, S.bc, S.cx, S.cB, S.cur.belowD hb, below_chain S.bel hb, S.kg.below hb, S.kd.below hb, S.kx.below hb, own_below S.row hb, S.nds.below hb⟩
theorem SD.cells (S : SD b wx c A len cap x B G D A1 n c1 wk cp gs A3 m3 c3 zs) (hc : Cursor w' c A len cap) (g : wx.grownBy w' (some c)) {A5 : Option Addr} {m5 c5 : Nat} {us : List Ce} (ho : w'.ownsRow wx.heap.size 75 4 (.slice A5 m5 c5) m5 (ceCells us)) : SD b w' c A len cap x B G D A1 n c1 wk cp gs A5 m5 c5 us :=
  have T := S.draw hc g
  ⟨T.came, T.bc, T.cx, T.cB, T.cur, T.bel, T.kg, T.kd, T.kx, own_base ho S.bel.size, T.nds⟩
/-- A store into a block below the cursor. -/
theorem SD.low (S : SD b wx c A len cap x B G D A1 n c1 wk cp gs A3 m3 c3 zs) {k : Nat} (hk : b.heap.size ≤ k ∧ k < c) (hr : (Value.slice A3 m3 c3).ownBlock ≠ some k) (i : Nat) (u : Value) : Cursor (wx.setCell ⟨k, i, none⟩ u) c A len cap ∧ Below b.heap.size b (wx.setCell ⟨k, i, none⟩ u) ∧ Blk (wx.setCell ⟨k, i, none⟩ u) x 26 #[.slice A1 n c1, .int .i64 wk, .int .i64 cp] ∧ (wx.setCell ⟨k, i, none⟩ u).ownsRow b.heap.size 75 4 (.slice A3 m3 c3) m3 (ceCells zs) ∧ NdsF B (wx.setCell ⟨k, i, none⟩ u) A1 gs := by
  have h1 := S.bc
  have h2 := S.cx
  have h3 := S.cB
  have gs' : wx.grownBy (wx.setCell ⟨k, i, none⟩ u) (some k) := grown_set wx ⟨k, i, none⟩ u
  obtain ⟨j, hh, hi, hblk⟩ := S.cur.at_
  have bel' := S.bel.setCell (p := ⟨k, i, none⟩) hk.1 u
  exact ⟨⟨⟨j, hh, hi, hblk.grown gs' (by simp; omega)⟩, S.came.bytes bel' (by omega)⟩, bel', S.kx.other (by simp; omega) u, S.row.kept gs' (.inr hr), S.nds.grown gs' (by omega)⟩
theorem SD.setg (S : SD b wx c A len cap x B G D A1 n c1 wk cp gs A3 m3 c3 zs) (i : Nat) (u : Value) : SD b (wx.setCell ⟨b.heap.size, i, none⟩ u) c A len cap x B (G.setIfInBounds i u) D A1 n c1 wk cp gs A3 m3 c3 zs := by
  have h1 := S.bc
  obtain ⟨a1, a2, a3, a4, a5⟩ := S.low (k := b.heap.size) ⟨Nat.le_refl _, by omega⟩ (own_type S.row S.kg (by decide)) i u
  exact ⟨S.came, S.bc, S.cx, S.cB, a1, a2, S.kg.put i u, S.kd.other (by simp) u, a3, a4, a5⟩
theorem SD.setd (S : SD b wx c A len cap x B G D A1 n c1 wk cp gs A3 m3 c3 zs) (i : Nat) (u : Value) : SD b (wx.setCell ⟨b.heap.size + 1, i, none⟩ u) c A len cap x B G (D.setIfInBounds i u) A1 n c1 wk cp gs A3 m3 c3 zs := by
  have h1 := S.bc
  obtain ⟨a1, a2, a3, a4, a5⟩ := S.low (k := b.heap.size + 1) ⟨by omega, by omega⟩ (own_type S.row S.kd (by decide)) i u
  exact ⟨S.came, S.bc, S.cx, S.cB, a1, a2, S.kg.other (by simp) u, S.kd.put i u, a3, a4, a5⟩
/-- The variable is given another graph. -/
theorem SD.setx {B' : Nat} {A1' : Option Addr} {n' c1' : Nat} {wk' cp' : Int} {gs' : List Nd} (S : SD b wx c A len cap x B G D A1 n c1 wk cp gs none 0 0 []) (hF : NdsF B' wx A1' gs') (hx : x < B') (hc : c < B') {wf : World} (hw : wf = ((wx.setCell ⟨x, 0, none⟩ (.slice A1' n' c1')).setCell ⟨x, 1, none⟩ (.int .i64 wk')).setCell ⟨x, 2, none⟩ (.int .i64 cp')) : SD b wf c A len cap x B' G D A1' n' c1' wk' cp' gs' none 0 0 [] := by
  subst hw
  have h1 := S.bc
  have h2 := S.cx
  have g1 := grown_set wx ⟨x, 0, none⟩ (.slice A1' n' c1')
  have g2 := grown_set (wx.setCell ⟨x, 0, none⟩ (.slice A1' n' c1')) ⟨x, 1, none⟩ (.int .i64 wk')
  have g3 := grown_set ((wx.setCell ⟨x, 0, none⟩ (.slice A1' n' c1')).setCell ⟨x, 1, none⟩ (.int .i64 wk')) ⟨x, 2, none⟩ (.int .i64 cp')
  have g := grown_trans (grown_trans g1 g2) g3
  obtain ⟨j, hh, hi, hblk⟩ := S.cur.at_
  have bel' := S.bel.grown g S.bel.size (fun k hk => by simp at hk; omega)
  exact ⟨S.came, S.bc, S.cx, hc, ⟨⟨j, hh, hi, hblk.grown g (by simp; omega)⟩, S.came.bytes bel' (by omega)⟩, bel', S.kg.grown g (by simp; omega), S.kd.grown g (by simp; omega), ((S.kx.put 0 _).put 1 _).put 2 _, ⟨by simp [ceCells], .inl ⟨rfl, rfl⟩⟩, hF.grown g hx⟩

set_option maxRecDepth 100000 in
set_option maxHeartbeats 8000000 in
theorem drawStep_any (w : World) (A : Option Addr) (len cap : Nat) (hlen : len ≤ 2097152) (hcame : Came w A len) :
    Calls Try.prog 7 #[.slice A len cap] w (StepDraw w) := by
  have HC := Lib.hid hcame
  clear hcame
  obtain ⟨W, hW⟩ : ∃ z, (w.alloc (.cells #[.slice none 0 0, .int .i64 0, .int .i64 0] 26)).alloc (.cells #[.int .i64 0, .int .i64 0, .int .i64 0, .int .i64 0, .int .i64 0] 31) = z := ⟨_, rfl⟩
  have bW : Below w.heap.size w W := by rw [← hW]; exact ((Below.refl _ _).alloc (Nat.le_refl _) _).alloc (by simp) _
  have NG := Lib.hid (show Blk W w.heap.size 26 #[.slice none 0 0, .int .i64 0, .int .i64 0] by rw [← hW]; exact ((Below.heap_alloc _ _ _ (by first | (simp; done) | (simp; omega))).trans (Blk.new _ _ _)))
  have ND := Lib.hid (show Blk W (w.heap.size + 1) 31 #[.int .i64 0, .int .i64 0, .int .i64 0, .int .i64 0, .int .i64 0] by rw [← hW]; exact ((show w.heap.size + 1 = ((w.alloc _)).heap.size by simp) ▸ Blk.new _ _ _))
  go_enter Try.func7, Try.ntmps7
  go_wp2_with fail
  clear hW
  refine (new_any W A len cap hlen (HC.out.below bW)).mono ?_
  rintro e w1 ⟨c, rfl, hcw, hcur, hb1⟩
  have hcl := hcur.lt
  have hld := ND.out.lt
  have CU := Lib.hid hcur
  have BW := Lib.hid (below_chain bW hb1)
  have NG1 := Lib.hid (NG.out.below hb1)
  have ND1 := Lib.hid (ND.out.below hb1)
  clear hcur hb1 bW NG ND
  go_wp2_with fail
  refine (graphGa_draw w1 c A len cap hlen CU.out).mono ?_
  rintro e w2 ⟨A1, n, c1, wk, cp, gs, h9, hgl, hgo, rfl, hF, hc2, g2⟩
  have HL := Lib.hid hgl
  have HO := Lib.hid hgo
  have sz2 := g2.size
  obtain ⟨x, hx⟩ : ∃ x, w2.heap.size = x := ⟨_, rfl⟩
  obtain ⟨U, hU⟩ : ∃ z, w2.alloc (.cells #[.slice A1 n c1, .int .i64 wk, .int .i64 cp] 26) = z := ⟨_, rfl⟩
  have hb : Below w2.heap.size w2 U := by rw [← hU]; exact (Below.refl _ _).alloc (Nat.le_refl _) _
  have kx : Blk U x 26 #[.slice A1 n c1, .int .i64 wk, .int .i64 cp] := by rw [← hU, ← hx]; exact Blk.new _ _ _
  have S1 := Lib.hid (show SD w U c A len cap x w1.heap.size #[.slice none 0 0, .int .i64 0, .int .i64 0] #[.int .i64 0, .int .i64 0, .int .i64 0, .int .i64 0, .int .i64 0] A1 n c1 wk cp gs none 0 0 [] from
    ⟨HC.out, by omega, by omega, hcl, hc2.belowD hb, below_chain (BW.out.grown g2 BW.out.size (fun k hk => by simp at hk; omega)) hb, (NG1.out.grown g2 (by simp; omega)).below hb, (ND1.out.grown g2 (by simp; omega)).below hb, kx, ⟨by simp [ceCells], .inl ⟨rfl, rfl⟩⟩, hF.below hb⟩)
  clear hgl hgo hc2 g2 hF hb kx HC CU BW NG1 ND1
  go_upto_region 3 with fail
  clear hU hx
  go_wp2_with fail
  refine (once_any 8 (by omega) (by omega) U c A len cap hlen S1.out.cur).mono ?_
  rintro e w3 ⟨o1, rfl, hcn, gn⟩
  have S2 := Lib.hid (S1.out.draw hcn gn)
  clear hcn gn S1
  cases o1 with
  | false =>
    have k0 : w3.cell? ⟨x, 0, none⟩ = some (.slice A1 n c1) := by rw [S2.out.kx.cell]; rfl
    have k1 : w3.cell? ⟨x, 1, none⟩ = some (.int .i64 wk) := by rw [S2.out.kx.cell]; rfl
    have k2 : w3.cell? ⟨x, 2, none⟩ = some (.int .i64 cp) := by rw [S2.out.kx.cell]; rfl
    go_wp2_with fail
    clear k0 k1 k2
    refine (cells10_draw gs wk cp A1 n c1 HL.out (fun y hy => Nat.le_trans (HO.out y hy) (by omega)) (by omega) w3 w1.heap.size c S2.out.cB A len cap hlen S2.out.cur S2.out.nds).mono ?_
    rintro e wc ⟨A3, m3, c3, zs, h6, hz, rfl, hrow, hcn, gn⟩
    have HZ := Lib.hid hz
    have SC := Lib.hid (S2.out.cells hcn gn hrow)
    clear hz hrow hcn gn S2
    go_wp2_with fail
    refine (once_any 12 (by omega) (by omega) wc c A len cap hlen SC.out.cur).mono ?_
    rintro e wo ⟨o2, rfl, hcn, gn⟩
    have SO := Lib.hid (SC.out.draw hcn gn)
    clear hcn gn SC
    cases o2 with
    | false =>
      obtain ⟨V9, hV⟩ : ∃ v, wo.drew = v := ⟨_, rfl⟩
      have SV := Lib.hid (show SD w V9 c A len cap x w1.heap.size #[.slice none 0 0, .int .i64 0, .int .i64 0] #[.int .i64 0, .int .i64 0, .int .i64 0, .int .i64 0, .int .i64 0] A1 n c1 wk cp gs A3 m3 c3 zs by rw [← hV]; exact SO.out.fresh ((Below.refl _ _).drew))
      clear SO
      go_wp2_with fail
      refine wp_region_held_drew (S := (fun W' => Blk W' x 26 #[.slice A1 n c1, .int .i64 wk, .int .i64 cp])) (by kernel_rfl) ?_ (fun hHeld => ?_)
      · rw [hV]; exact SV.out.kx
      change wpAnyH _ _ opsD8 _ _ 8 (#[false, false, false, false, false, false, false, false] : Array Bool) _ _
      rw [hV] at hHeld ⊢
      clear hV
      refine regY tD8_e_0 (.agg #[.slice A1 n c1, .int .i64 wk, .int .i64 cp]) (fun W hSw => by unfold qD8_0; (have h0 : W.cell? ⟨x, 0, none⟩ = some (.slice A1 n c1) := by rw [Blk.cell hSw]; rfl); (have h1 : W.cell? ⟨x, 1, none⟩ = some (.int .i64 wk) := by rw [Blk.cell hSw]; rfl); (have h2 : W.cell? ⟨x, 2, none⟩ = some (.int .i64 cp) := by rw [Blk.cell hSw]; rfl); go_simp) hHeld ?_
      try simp only [pt, List.set]
      refine regY tD8_0_1 (.slice A3 m3 c3) (fun W hSw => by unfold qD8_1; go_simp) hHeld ?_
      try simp only [pt, List.set]
      refine regY tD8_01_2 (.pointer (some ⟨c, 0, none⟩)) (fun W hSw => by unfold qD8_2; go_simp) hHeld ?_
      try simp only [pt, List.set]
      refine regY tD8_012_3 (.agg #[.slice A1 n c1, .int .i64 wk, .int .i64 cp]) (fun W hSw => by unfold qD8_3; (have h0 : W.cell? ⟨x, 0, none⟩ = some (.slice A1 n c1) := by rw [Blk.cell hSw]; rfl); (have h1 : W.cell? ⟨x, 1, none⟩ = some (.int .i64 wk) := by rw [Blk.cell hSw]; rfl); (have h2 : W.cell? ⟨x, 2, none⟩ = some (.int .i64 cp) := by rw [Blk.cell hSw]; rfl); go_simp) hHeld ?_
      try simp only [pt, List.set]
      refine cD8_0123_4 (fun K hK => ?_)
      rw [if_pos (by rfl)]
      unfold qD8_4
      go_simp
      refine (rec10_draw A1 n c1 wk cp (by omega) V9 c A len cap hlen SV.out.cur).mono ?_
      rintro e v1 ⟨p0, p1, p2, p3, p4, rfl, hcn, gn⟩
      have T1 := Lib.hid (SV.out.draw hcn gn)
      clear hcn gn
      refine Shut.out hK _ _ ?_ (fun hHeld => ?_)
      · exact T1.out.kx
      clear hK K
      try simp only [pt, List.set]
      refine cD8_01234_5 (fun K hK => ?_)
      rw [if_pos (by rfl)]
      unfold qD8_5
      have l0 : v1.cell? ⟨w.heap.size, 0, none⟩ = some (.slice none 0 0) := by rw [T1.out.kg.cell]; rfl
      have l1 : v1.cell? ⟨w.heap.size, 1, none⟩ = some (.int .i64 0) := by rw [T1.out.kg.cell]; rfl
      have l2 : v1.cell? ⟨w.heap.size, 2, none⟩ = some (.int .i64 0) := by rw [T1.out.kg.cell]; rfl
      have lf0 := T1.out.kg.frozen 0
      have lf1 := T1.out.kg.frozen 1
      have lf2 := T1.out.kg.frozen 2
      go_simp
      clear l0 lf0 l1 lf1 l2 lf2
      generalize hV : ((v1.setCell _ _).setCell _ _).setCell _ _ = v2
      have T2 := Lib.hid (show SD w v2 c A len cap x w1.heap.size #[.slice A1 n c1, .int .i64 wk, .int .i64 cp] #[.int .i64 0, .int .i64 0, .int .i64 0, .int .i64 0, .int .i64 0] A1 n c1 wk cp gs A3 m3 c3 zs by rw [← hV]; exact ((T1.out.setg 0 _).setg 1 _).setg 2 _)
      clear hV
      refine Shut.out hK _ _ ?_ (fun hHeld => ?_)
      · exact T2.out.kx
      clear hK K
      try simp only [pn]
      refine regY tD8_012345_6 (.slice A3 m3 c3) (fun W hSw => by unfold qD8_6; go_simp) hHeld ?_
      try simp only [pt, List.set]
      refine cD8_0123456_7 (fun K hK => ?_)
      rw [if_pos (by rfl)]
      unfold qD8_7
      have l0 : v2.cell? ⟨w.heap.size + 1, 0, none⟩ = some (.int .i64 0) := by rw [T2.out.kd.cell]; rfl
      have l1 : v2.cell? ⟨w.heap.size + 1, 1, none⟩ = some (.int .i64 0) := by rw [T2.out.kd.cell]; rfl
      have l2 : v2.cell? ⟨w.heap.size + 1, 2, none⟩ = some (.int .i64 0) := by rw [T2.out.kd.cell]; rfl
      have l3 : v2.cell? ⟨w.heap.size + 1, 3, none⟩ = some (.int .i64 0) := by rw [T2.out.kd.cell]; rfl
      have l4 : v2.cell? ⟨w.heap.size + 1, 4, none⟩ = some (.int .i64 0) := by rw [T2.out.kd.cell]; rfl
      have lf0 := T2.out.kd.frozen 0
      have lf1 := T2.out.kd.frozen 1
      have lf2 := T2.out.kd.frozen 2
      have lf3 := T2.out.kd.frozen 3
      have lf4 := T2.out.kd.frozen 4
      go_simp
      clear l0 lf0 l1 lf1 l2 lf2 l3 lf3 l4 lf4
      generalize hV : ((((v2.setCell _ _).setCell _ _).setCell _ _).setCell _ _).setCell _ _ = v3
      have T3 := Lib.hid (show SD w v3 c A len cap x w1.heap.size #[.slice A1 n c1, .int .i64 wk, .int .i64 cp] #[.int .i64 p0, .int .i64 p1, .int .i64 p2, .int .i64 p3, .int .i64 p4] A1 n c1 wk cp gs A3 m3 c3 zs by rw [← hV]; exact ((((T2.out.setd 0 _).setd 1 _).setd 2 _).setd 3 _).setd 4 _)
      clear hV
      refine Shut.out hK _ _ ?_ (fun hHeld => ?_)
      · exact T3.out.kx
      clear hK K
      try simp only [pn]
      refine wpAnyH_done (by kernel_rfl) ?_ _
      clear hHeld
      have e0 : v3.cell? ⟨w.heap.size, 0, none⟩ = some (.slice A1 n c1) := by rw [T3.out.kg.cell]; rfl
      have e1 : v3.cell? ⟨w.heap.size, 1, none⟩ = some (.int .i64 wk) := by rw [T3.out.kg.cell]; rfl
      have e2 : v3.cell? ⟨w.heap.size, 2, none⟩ = some (.int .i64 cp) := by rw [T3.out.kg.cell]; rfl
      have f0 : v3.cell? ⟨w.heap.size + 1, 0, none⟩ = some (.int .i64 p0) := by rw [T3.out.kd.cell]; rfl
      have f1 : v3.cell? ⟨w.heap.size + 1, 1, none⟩ = some (.int .i64 p1) := by rw [T3.out.kd.cell]; rfl
      have f2 : v3.cell? ⟨w.heap.size + 1, 2, none⟩ = some (.int .i64 p2) := by rw [T3.out.kd.cell]; rfl
      have f3 : v3.cell? ⟨w.heap.size + 1, 3, none⟩ = some (.int .i64 p3) := by rw [T3.out.kd.cell]; rfl
      have f4 : v3.cell? ⟨w.heap.size + 1, 4, none⟩ = some (.int .i64 p4) := by rw [T3.out.kd.cell]; rfl
      go_wp2_with fail
      exact bodyPost_ret (v := .tuple #[.agg #[.slice A1 n c1, .int .i64 wk, .int .i64 cp], .slice A3 m3 c3, .agg #[.int .i64 p0, .int .i64 p1, .int .i64 p2, .int .i64 p3, .int .i64 p4]]) (by simp [results, Try.results7, go_sem, e0, e1, e2, f0, f1, f2, f3, f4]) rfl ⟨A1, n, c1, wk, cp, gs, A3, m3, c3, zs, p0, p1, p2, p3, p4, h9, HL.out, HO.out, h6, HZ.out, rfl, T3.out.nds.nds, T3.out.row, T3.out.bel⟩
    | true =>
      obtain ⟨V9, hV⟩ : ∃ v, wo.drew = v := ⟨_, rfl⟩
      have SV := Lib.hid (show SD w V9 c A len cap x w1.heap.size #[.slice none 0 0, .int .i64 0, .int .i64 0] #[.int .i64 0, .int .i64 0, .int .i64 0, .int .i64 0, .int .i64 0] A1 n c1 wk cp gs A3 m3 c3 zs by rw [← hV]; exact SO.out.fresh ((Below.refl _ _).drew))
      clear SO
      go_wp2_with fail
      refine wp_region_held_drew (S := (fun W' => Blk W' x 26 #[.slice A1 n c1, .int .i64 wk, .int .i64 cp])) (by kernel_rfl) ?_ (fun hHeld => ?_)
      · rw [hV]; exact SV.out.kx
      change wpAnyH _ _ opsD7 _ _ 7 (#[false, false, false, false, false, false, false] : Array Bool) _ _
      rw [hV] at hHeld ⊢
      clear hV
      refine regY tD7_e_0 (.agg #[.slice A1 n c1, .int .i64 wk, .int .i64 cp]) (fun W hSw => by unfold qD7_0; (have h0 : W.cell? ⟨x, 0, none⟩ = some (.slice A1 n c1) := by rw [Blk.cell hSw]; rfl); (have h1 : W.cell? ⟨x, 1, none⟩ = some (.int .i64 wk) := by rw [Blk.cell hSw]; rfl); (have h2 : W.cell? ⟨x, 2, none⟩ = some (.int .i64 cp) := by rw [Blk.cell hSw]; rfl); go_simp) hHeld ?_
      try simp only [pt, List.set]
      refine regY tD7_0_1 (.slice A3 m3 c3) (fun W hSw => by unfold qD7_1; go_simp) hHeld ?_
      try simp only [pt, List.set]
      refine regY tD7_01_2 (.pointer (some ⟨c, 0, none⟩)) (fun W hSw => by unfold qD7_2; go_simp) hHeld ?_
      try simp only [pt, List.set]
      refine cD7_012_3 (fun K hK => ?_)
      rw [if_pos (by rfl)]
      unfold qD7_3
      go_simp
      refine (anyRc_draw V9 c A len cap hlen SV.out.cur).mono ?_
      rintro e v1 ⟨p0, p1, p2, p3, p4, _, rfl, hcn, gn⟩
      have T1 := Lib.hid (SV.out.draw hcn gn)
      clear hcn gn
      refine Shut.out hK _ _ ?_ (fun hHeld => ?_)
      · exact T1.out.kx
      clear hK K
      try simp only [pt, List.set]
      refine cD7_0123_4 (fun K hK => ?_)
      rw [if_pos (by rfl)]
      unfold qD7_4
      have l0 : v1.cell? ⟨w.heap.size, 0, none⟩ = some (.slice none 0 0) := by rw [T1.out.kg.cell]; rfl
      have l1 : v1.cell? ⟨w.heap.size, 1, none⟩ = some (.int .i64 0) := by rw [T1.out.kg.cell]; rfl
      have l2 : v1.cell? ⟨w.heap.size, 2, none⟩ = some (.int .i64 0) := by rw [T1.out.kg.cell]; rfl
      have lf0 := T1.out.kg.frozen 0
      have lf1 := T1.out.kg.frozen 1
      have lf2 := T1.out.kg.frozen 2
      go_simp
      clear l0 lf0 l1 lf1 l2 lf2
      generalize hV : ((v1.setCell _ _).setCell _ _).setCell _ _ = v2
      have T2 := Lib.hid (show SD w v2 c A len cap x w1.heap.size #[.slice A1 n c1, .int .i64 wk, .int .i64 cp] #[.int .i64 0, .int .i64 0, .int .i64 0, .int .i64 0, .int .i64 0] A1 n c1 wk cp gs A3 m3 c3 zs by rw [← hV]; exact ((T1.out.setg 0 _).setg 1 _).setg 2 _)
      clear hV
      refine Shut.out hK _ _ ?_ (fun hHeld => ?_)
      · exact T2.out.kx
      clear hK K
      try simp only [pn]
      refine regY tD7_01234_5 (.slice A3 m3 c3) (fun W hSw => by unfold qD7_5; go_simp) hHeld ?_
      try simp only [pt, List.set]
      refine cD7_012345_6 (fun K hK => ?_)
      rw [if_pos (by rfl)]
      unfold qD7_6
      have l0 : v2.cell? ⟨w.heap.size + 1, 0, none⟩ = some (.int .i64 0) := by rw [T2.out.kd.cell]; rfl
      have l1 : v2.cell? ⟨w.heap.size + 1, 1, none⟩ = some (.int .i64 0) := by rw [T2.out.kd.cell]; rfl
      have l2 : v2.cell? ⟨w.heap.size + 1, 2, none⟩ = some (.int .i64 0) := by rw [T2.out.kd.cell]; rfl
      have l3 : v2.cell? ⟨w.heap.size + 1, 3, none⟩ = some (.int .i64 0) := by rw [T2.out.kd.cell]; rfl
      have l4 : v2.cell? ⟨w.heap.size + 1, 4, none⟩ = some (.int .i64 0) := by rw [T2.out.kd.cell]; rfl
      have lf0 := T2.out.kd.frozen 0
      have lf1 := T2.out.kd.frozen 1
      have lf2 := T2.out.kd.frozen 2
      have lf3 := T2.out.kd.frozen 3
      have lf4 := T2.out.kd.frozen 4
      go_simp
      clear l0 lf0 l1 lf1 l2 lf2 l3 lf3 l4 lf4
      generalize hV : ((((v2.setCell _ _).setCell _ _).setCell _ _).setCell _ _).setCell _ _ = v3
      have T3 := Lib.hid (show SD w v3 c A len cap x w1.heap.size #[.slice A1 n c1, .int .i64 wk, .int .i64 cp] #[.int .i64 p0, .int .i64 p1, .int .i64 p2, .int .i64 p3, .int .i64 p4] A1 n c1 wk cp gs A3 m3 c3 zs by rw [← hV]; exact ((((T2.out.setd 0 _).setd 1 _).setd 2 _).setd 3 _).setd 4 _)
      clear hV
      refine Shut.out hK _ _ ?_ (fun hHeld => ?_)
      · exact T3.out.kx
      clear hK K
      try simp only [pn]
      refine wpAnyH_done (by kernel_rfl) ?_ _
      clear hHeld
      have e0 : v3.cell? ⟨w.heap.size, 0, none⟩ = some (.slice A1 n c1) := by rw [T3.out.kg.cell]; rfl
      have e1 : v3.cell? ⟨w.heap.size, 1, none⟩ = some (.int .i64 wk) := by rw [T3.out.kg.cell]; rfl
      have e2 : v3.cell? ⟨w.heap.size, 2, none⟩ = some (.int .i64 cp) := by rw [T3.out.kg.cell]; rfl
      have f0 : v3.cell? ⟨w.heap.size + 1, 0, none⟩ = some (.int .i64 p0) := by rw [T3.out.kd.cell]; rfl
      have f1 : v3.cell? ⟨w.heap.size + 1, 1, none⟩ = some (.int .i64 p1) := by rw [T3.out.kd.cell]; rfl
      have f2 : v3.cell? ⟨w.heap.size + 1, 2, none⟩ = some (.int .i64 p2) := by rw [T3.out.kd.cell]; rfl
      have f3 : v3.cell? ⟨w.heap.size + 1, 3, none⟩ = some (.int .i64 p3) := by rw [T3.out.kd.cell]; rfl
      have f4 : v3.cell? ⟨w.heap.size + 1, 4, none⟩ = some (.int .i64 p4) := by rw [T3.out.kd.cell]; rfl
      go_wp2_with fail
      exact bodyPost_ret (v := .tuple #[.agg #[.slice A1 n c1, .int .i64 wk, .int .i64 cp], .slice A3 m3 c3, .agg #[.int .i64 p0, .int .i64 p1, .int .i64 p2, .int .i64 p3, .int .i64 p4]]) (by simp [results, Try.results7, go_sem, e0, e1, e2, f0, f1, f2, f3, f4]) rfl ⟨A1, n, c1, wk, cp, gs, A3, m3, c3, zs, p0, p1, p2, p3, p4, h9, HL.out, HO.out, h6, HZ.out, rfl, T3.out.nds.nds, T3.out.row, T3.out.bel⟩
  | true =>
    go_wp2_with fail
    refine (graphAny_draw w3 c A len cap hlen S2.out.cur).mono ?_
    rintro e w4 ⟨A1', n', c1', wk', cp', gs', h9', hgl, hgo, rfl, hF, hcn, gn⟩
    have HL' := Lib.hid hgl
    have HO' := Lib.hid hgo
    have xl := S2.out.kx.lt
    have cl3 := S2.out.cur.lt
    have S3 := Lib.hid (S2.out.draw hcn gn)
    have F3 := Lib.hid hF
    clear hgl hgo hcn gn hF S2
    have k0 : w4.cell? ⟨x, 0, none⟩ = some (.slice A1 n c1) := by rw [S3.out.kx.cell]; rfl
    have k1 : w4.cell? ⟨x, 1, none⟩ = some (.int .i64 wk) := by rw [S3.out.kx.cell]; rfl
    have k2 : w4.cell? ⟨x, 2, none⟩ = some (.int .i64 cp) := by rw [S3.out.kx.cell]; rfl
    have kf0 := S3.out.kx.frozen 0
    have kf1 := S3.out.kx.frozen 1
    have kf2 := S3.out.kx.frozen 2
    go_upto_region 5 with fail
    clear k0 kf0 k1 kf1 k2 kf2
    generalize hV : ((w4.setCell _ _).setCell _ _).setCell _ _ = U2
    have S4 := Lib.hid (show SD w U2 c A len cap x w3.heap.size #[.slice none 0 0, .int .i64 0, .int .i64 0] #[.int .i64 0, .int .i64 0, .int .i64 0, .int .i64 0, .int .i64 0] A1' n' c1' wk' cp' gs' none 0 0 [] by rw [← hV]; exact S3.out.setx F3.out xl cl3 rfl)
    clear hV S3 F3
    have k0 : U2.cell? ⟨x, 0, none⟩ = some (.slice A1' n' c1') := by rw [S4.out.kx.cell]; rfl
    have k1 : U2.cell? ⟨x, 1, none⟩ = some (.int .i64 wk') := by rw [S4.out.kx.cell]; rfl
    have k2 : U2.cell? ⟨x, 2, none⟩ = some (.int .i64 cp') := by rw [S4.out.kx.cell]; rfl
    go_wp2_with fail
    clear k0 k1 k2
    refine (cells10_draw gs' wk' cp' A1' n' c1' HL'.out (fun y hy => Nat.le_trans (HO'.out y hy) (by omega)) (by omega) U2 w3.heap.size c S4.out.cB A len cap hlen S4.out.cur S4.out.nds).mono ?_
    rintro e wc ⟨A3, m3, c3, zs, h6, hz, rfl, hrow, hcn, gn⟩
    have HZ := Lib.hid hz
    have SC := Lib.hid (S4.out.cells hcn gn hrow)
    clear hz hrow hcn gn S4
    go_wp2_with fail
    refine (once_any 12 (by omega) (by omega) wc c A len cap hlen SC.out.cur).mono ?_
    rintro e wo ⟨o2, rfl, hcn, gn⟩
    have SO := Lib.hid (SC.out.draw hcn gn)
    clear hcn gn SC
    cases o2 with
    | false =>
      obtain ⟨V9, hV⟩ : ∃ v, wo.drew = v := ⟨_, rfl⟩
      have SV := Lib.hid (show SD w V9 c A len cap x w3.heap.size #[.slice none 0 0, .int .i64 0, .int .i64 0] #[.int .i64 0, .int .i64 0, .int .i64 0, .int .i64 0, .int .i64 0] A1' n' c1' wk' cp' gs' A3 m3 c3 zs by rw [← hV]; exact SO.out.fresh ((Below.refl _ _).drew))
      clear SO
      go_wp2_with fail
      refine wp_region_held_drew (S := (fun W' => Blk W' x 26 #[.slice A1' n' c1', .int .i64 wk', .int .i64 cp'])) (by kernel_rfl) ?_ (fun hHeld => ?_)
      · rw [hV]; exact SV.out.kx
      change wpAnyH _ _ opsD8 _ _ 8 (#[false, false, false, false, false, false, false, false] : Array Bool) _ _
      rw [hV] at hHeld ⊢
      clear hV
      refine regY tD8_e_0 (.agg #[.slice A1' n' c1', .int .i64 wk', .int .i64 cp']) (fun W hSw => by unfold qD8_0; (have h0 : W.cell? ⟨x, 0, none⟩ = some (.slice A1' n' c1') := by rw [Blk.cell hSw]; rfl); (have h1 : W.cell? ⟨x, 1, none⟩ = some (.int .i64 wk') := by rw [Blk.cell hSw]; rfl); (have h2 : W.cell? ⟨x, 2, none⟩ = some (.int .i64 cp') := by rw [Blk.cell hSw]; rfl); go_simp) hHeld ?_
      try simp only [pt, List.set]
      refine regY tD8_0_1 (.slice A3 m3 c3) (fun W hSw => by unfold qD8_1; go_simp) hHeld ?_
      try simp only [pt, List.set]
      refine regY tD8_01_2 (.pointer (some ⟨c, 0, none⟩)) (fun W hSw => by unfold qD8_2; go_simp) hHeld ?_
      try simp only [pt, List.set]
      refine regY tD8_012_3 (.agg #[.slice A1' n' c1', .int .i64 wk', .int .i64 cp']) (fun W hSw => by unfold qD8_3; (have h0 : W.cell? ⟨x, 0, none⟩ = some (.slice A1' n' c1') := by rw [Blk.cell hSw]; rfl); (have h1 : W.cell? ⟨x, 1, none⟩ = some (.int .i64 wk') := by rw [Blk.cell hSw]; rfl); (have h2 : W.cell? ⟨x, 2, none⟩ = some (.int .i64 cp') := by rw [Blk.cell hSw]; rfl); go_simp) hHeld ?_
      try simp only [pt, List.set]
      refine cD8_0123_4 (fun K hK => ?_)
      rw [if_pos (by rfl)]
      unfold qD8_4
      go_simp
      refine (rec10_draw A1' n' c1' wk' cp' (by omega) V9 c A len cap hlen SV.out.cur).mono ?_
      rintro e v1 ⟨p0, p1, p2, p3, p4, rfl, hcn, gn⟩
      have T1 := Lib.hid (SV.out.draw hcn gn)
      clear hcn gn
      refine Shut.out hK _ _ ?_ (fun hHeld => ?_)
      · exact T1.out.kx
      clear hK K
      try simp only [pt, List.set]
      refine cD8_01234_5 (fun K hK => ?_)
      rw [if_pos (by rfl)]
      unfold qD8_5
      have l0 : v1.cell? ⟨w.heap.size, 0, none⟩ = some (.slice none 0 0) := by rw [T1.out.kg.cell]; rfl
      have l1 : v1.cell? ⟨w.heap.size, 1, none⟩ = some (.int .i64 0) := by rw [T1.out.kg.cell]; rfl
      have l2 : v1.cell? ⟨w.heap.size, 2, none⟩ = some (.int .i64 0) := by rw [T1.out.kg.cell]; rfl
      have lf0 := T1.out.kg.frozen 0
      have lf1 := T1.out.kg.frozen 1
      have lf2 := T1.out.kg.frozen 2
      go_simp
      clear l0 lf0 l1 lf1 l2 lf2
      generalize hV : ((v1.setCell _ _).setCell _ _).setCell _ _ = v2
      have T2 := Lib.hid (show SD w v2 c A len cap x w3.heap.size #[.slice A1' n' c1', .int .i64 wk', .int .i64 cp'] #[.int .i64 0, .int .i64 0, .int .i64 0, .int .i64 0, .int .i64 0] A1' n' c1' wk' cp' gs' A3 m3 c3 zs by rw [← hV]; exact ((T1.out.setg 0 _).setg 1 _).setg 2 _)
      clear hV
      refine Shut.out hK _ _ ?_ (fun hHeld => ?_)
      · exact T2.out.kx
      clear hK K
      try simp only [pn]
      refine regY tD8_012345_6 (.slice A3 m3 c3) (fun W hSw => by unfold qD8_6; go_simp) hHeld ?_
      try simp only [pt, List.set]
      refine cD8_0123456_7 (fun K hK => ?_)
      rw [if_pos (by rfl)]
      unfold qD8_7
      have l0 : v2.cell? ⟨w.heap.size + 1, 0, none⟩ = some (.int .i64 0) := by rw [T2.out.kd.cell]; rfl
      have l1 : v2.cell? ⟨w.heap.size + 1, 1, none⟩ = some (.int .i64 0) := by rw [T2.out.kd.cell]; rfl
      have l2 : v2.cell? ⟨w.heap.size + 1, 2, none⟩ = some (.int .i64 0) := by rw [T2.out.kd.cell]; rfl
      have l3 : v2.cell? ⟨w.heap.size + 1, 3, none⟩ = some (.int .i64 0) := by rw [T2.out.kd.cell]; rfl
      have l4 : v2.cell? ⟨w.heap.size + 1, 4, none⟩ = some (.int .i64 0) := by rw [T2.out.kd.cell]; rfl
      have lf0 := T2.out.kd.frozen 0
      have lf1 := T2.out.kd.frozen 1
      have lf2 := T2.out.kd.frozen 2
      have lf3 := T2.out.kd.frozen 3
      have lf4 := T2.out.kd.frozen 4
      go_simp
      clear l0 lf0 l1 lf1 l2 lf2 l3 lf3 l4 lf4
      generalize hV : ((((v2.setCell _ _).setCell _ _).setCell _ _).setCell _ _).setCell _ _ = v3
      have T3 := Lib.hid (show SD w v3 c A len cap x w3.heap.size #[.slice A1' n' c1', .int .i64 wk', .int .i64 cp'] #[.int .i64 p0, .int .i64 p1, .int .i64 p2, .int .i64 p3, .int .i64 p4] A1' n' c1' wk' cp' gs' A3 m3 c3 zs by rw [← hV]; exact ((((T2.out.setd 0 _).setd 1 _).setd 2 _).setd 3 _).setd 4 _)
      clear hV
      refine Shut.out hK _ _ ?_ (fun hHeld => ?_)
      · exact T3.out.kx
      clear hK K
      try simp only [pn]
      refine wpAnyH_done (by kernel_rfl) ?_ _
      clear hHeld
      have e0 : v3.cell? ⟨w.heap.size, 0, none⟩ = some (.slice A1' n' c1') := by rw [T3.out.kg.cell]; rfl
      have e1 : v3.cell? ⟨w.heap.size, 1, none⟩ = some (.int .i64 wk') := by rw [T3.out.kg.cell]; rfl
      have e2 : v3.cell? ⟨w.heap.size, 2, none⟩ = some (.int .i64 cp') := by rw [T3.out.kg.cell]; rfl
      have f0 : v3.cell? ⟨w.heap.size + 1, 0, none⟩ = some (.int .i64 p0) := by rw [T3.out.kd.cell]; rfl
      have f1 : v3.cell? ⟨w.heap.size + 1, 1, none⟩ = some (.int .i64 p1) := by rw [T3.out.kd.cell]; rfl
      have f2 : v3.cell? ⟨w.heap.size + 1, 2, none⟩ = some (.int .i64 p2) := by rw [T3.out.kd.cell]; rfl
      have f3 : v3.cell? ⟨w.heap.size + 1, 3, none⟩ = some (.int .i64 p3) := by rw [T3.out.kd.cell]; rfl
      have f4 : v3.cell? ⟨w.heap.size + 1, 4, none⟩ = some (.int .i64 p4) := by rw [T3.out.kd.cell]; rfl
      go_wp2_with fail
      exact bodyPost_ret (v := .tuple #[.agg #[.slice A1' n' c1', .int .i64 wk', .int .i64 cp'], .slice A3 m3 c3, .agg #[.int .i64 p0, .int .i64 p1, .int .i64 p2, .int .i64 p3, .int .i64 p4]]) (by simp [results, Try.results7, go_sem, e0, e1, e2, f0, f1, f2, f3, f4]) rfl ⟨A1', n', c1', wk', cp', gs', A3, m3, c3, zs, p0, p1, p2, p3, p4, h9', HL'.out, HO'.out, h6, HZ.out, rfl, T3.out.nds.nds, T3.out.row, T3.out.bel⟩
    | true =>
      obtain ⟨V9, hV⟩ : ∃ v, wo.drew = v := ⟨_, rfl⟩
      have SV := Lib.hid (show SD w V9 c A len cap x w3.heap.size #[.slice none 0 0, .int .i64 0, .int .i64 0] #[.int .i64 0, .int .i64 0, .int .i64 0, .int .i64 0, .int .i64 0] A1' n' c1' wk' cp' gs' A3 m3 c3 zs by rw [← hV]; exact SO.out.fresh ((Below.refl _ _).drew))
      clear SO
      go_wp2_with fail
      refine wp_region_held_drew (S := (fun W' => Blk W' x 26 #[.slice A1' n' c1', .int .i64 wk', .int .i64 cp'])) (by kernel_rfl) ?_ (fun hHeld => ?_)
      · rw [hV]; exact SV.out.kx
      change wpAnyH _ _ opsD7 _ _ 7 (#[false, false, false, false, false, false, false] : Array Bool) _ _
      rw [hV] at hHeld ⊢
      clear hV
      refine regY tD7_e_0 (.agg #[.slice A1' n' c1', .int .i64 wk', .int .i64 cp']) (fun W hSw => by unfold qD7_0; (have h0 : W.cell? ⟨x, 0, none⟩ = some (.slice A1' n' c1') := by rw [Blk.cell hSw]; rfl); (have h1 : W.cell? ⟨x, 1, none⟩ = some (.int .i64 wk') := by rw [Blk.cell hSw]; rfl); (have h2 : W.cell? ⟨x, 2, none⟩ = some (.int .i64 cp') := by rw [Blk.cell hSw]; rfl); go_simp) hHeld ?_
      try simp only [pt, List.set]
      refine regY tD7_0_1 (.slice A3 m3 c3) (fun W hSw => by unfold qD7_1; go_simp) hHeld ?_
      try simp only [pt, List.set]
      refine regY tD7_01_2 (.pointer (some ⟨c, 0, none⟩)) (fun W hSw => by unfold qD7_2; go_simp) hHeld ?_
      try simp only [pt, List.set]
      refine cD7_012_3 (fun K hK => ?_)
      rw [if_pos (by rfl)]
      unfold qD7_3
      go_simp
      refine (anyRc_draw V9 c A len cap hlen SV.out.cur).mono ?_
      rintro e v1 ⟨p0, p1, p2, p3, p4, _, rfl, hcn, gn⟩
      have T1 := Lib.hid (SV.out.draw hcn gn)
      clear hcn gn
      refine Shut.out hK _ _ ?_ (fun hHeld => ?_)
      · exact T1.out.kx
      clear hK K
      try simp only [pt, List.set]
      refine cD7_0123_4 (fun K hK => ?_)
      rw [if_pos (by rfl)]
      unfold qD7_4
      have l0 : v1.cell? ⟨w.heap.size, 0, none⟩ = some (.slice none 0 0) := by rw [T1.out.kg.cell]; rfl
      have l1 : v1.cell? ⟨w.heap.size, 1, none⟩ = some (.int .i64 0) := by rw [T1.out.kg.cell]; rfl
      have l2 : v1.cell? ⟨w.heap.size, 2, none⟩ = some (.int .i64 0) := by rw [T1.out.kg.cell]; rfl
      have lf0 := T1.out.kg.frozen 0
      have lf1 := T1.out.kg.frozen 1
      have lf2 := T1.out.kg.frozen 2
      go_simp
      clear l0 lf0 l1 lf1 l2 lf2
      generalize hV : ((v1.setCell _ _).setCell _ _).setCell _ _ = v2
      have T2 := Lib.hid (show SD w v2 c A len cap x w3.heap.size #[.slice A1' n' c1', .int .i64 wk', .int .i64 cp'] #[.int .i64 0, .int .i64 0, .int .i64 0, .int .i64 0, .int .i64 0] A1' n' c1' wk' cp' gs' A3 m3 c3 zs by rw [← hV]; exact ((T1.out.setg 0 _).setg 1 _).setg 2 _)
      clear hV
      refine Shut.out hK _ _ ?_ (fun hHeld => ?_)
      · exact T2.out.kx
      clear hK K
      try simp only [pn]
      refine regY tD7_01234_5 (.slice A3 m3 c3) (fun W hSw => by unfold qD7_5; go_simp) hHeld ?_
      try simp only [pt, List.set]
      refine cD7_012345_6 (fun K hK => ?_)
      rw [if_pos (by rfl)]
      unfold qD7_6
      have l0 : v2.cell? ⟨w.heap.size + 1, 0, none⟩ = some (.int .i64 0) := by rw [T2.out.kd.cell]; rfl
      have l1 : v2.cell? ⟨w.heap.size + 1, 1, none⟩ = some (.int .i64 0) := by rw [T2.out.kd.cell]; rfl
      have l2 : v2.cell? ⟨w.heap.size + 1, 2, none⟩ = some (.int .i64 0) := by rw [T2.out.kd.cell]; rfl
      have l3 : v2.cell? ⟨w.heap.size + 1, 3, none⟩ = some (.int .i64 0) := by rw [T2.out.kd.cell]; rfl
      have l4 : v2.cell? ⟨w.heap.size + 1, 4, none⟩ = some (.int .i64 0) := by rw [T2.out.kd.cell]; rfl
      have lf0 := T2.out.kd.frozen 0
      have lf1 := T2.out.kd.frozen 1
      have lf2 := T2.out.kd.frozen 2
      have lf3 := T2.out.kd.frozen 3
      have lf4 := T2.out.kd.frozen 4
      go_simp
      clear l0 lf0 l1 lf1 l2 lf2 l3 lf3 l4 lf4
      generalize hV : ((((v2.setCell _ _).setCell _ _).setCell _ _).setCell _ _).setCell _ _ = v3
      have T3 := Lib.hid (show SD w v3 c A len cap x w3.heap.size #[.slice A1' n' c1', .int .i64 wk', .int .i64 cp'] #[.int .i64 p0, .int .i64 p1, .int .i64 p2, .int .i64 p3, .int .i64 p4] A1' n' c1' wk' cp' gs' A3 m3 c3 zs by rw [← hV]; exact ((((T2.out.setd 0 _).setd 1 _).setd 2 _).setd 3 _).setd 4 _)
      clear hV
      refine Shut.out hK _ _ ?_ (fun hHeld => ?_)
      · exact T3.out.kx
      clear hK K
      try simp only [pn]
      refine wpAnyH_done (by kernel_rfl) ?_ _
      clear hHeld
      have e0 : v3.cell? ⟨w.heap.size, 0, none⟩ = some (.slice A1' n' c1') := by rw [T3.out.kg.cell]; rfl
      have e1 : v3.cell? ⟨w.heap.size, 1, none⟩ = some (.int .i64 wk') := by rw [T3.out.kg.cell]; rfl
      have e2 : v3.cell? ⟨w.heap.size, 2, none⟩ = some (.int .i64 cp') := by rw [T3.out.kg.cell]; rfl
      have f0 : v3.cell? ⟨w.heap.size + 1, 0, none⟩ = some (.int .i64 p0) := by rw [T3.out.kd.cell]; rfl
      have f1 : v3.cell? ⟨w.heap.size + 1, 1, none⟩ = some (.int .i64 p1) := by rw [T3.out.kd.cell]; rfl
      have f2 : v3.cell? ⟨w.heap.size + 1, 2, none⟩ = some (.int .i64 p2) := by rw [T3.out.kd.cell]; rfl
      have f3 : v3.cell? ⟨w.heap.size + 1, 3, none⟩ = some (.int .i64 p3) := by rw [T3.out.kd.cell]; rfl
      have f4 : v3.cell? ⟨w.heap.size + 1, 4, none⟩ = some (.int .i64 p4) := by rw [T3.out.kd.cell]; rfl
      go_wp2_with fail
      exact bodyPost_ret (v := .tuple #[.agg #[.slice A1' n' c1', .int .i64 wk', .int .i64 cp'], .slice A3 m3 c3, .agg #[.int .i64 p0, .int .i64 p1, .int .i64 p2, .int .i64 p3, .int .i64 p4]]) (by simp [results, Try.results7, go_sem, e0, e1, e2, f0, f1, f2, f3, f4]) rfl ⟨A1', n', c1', wk', cp', gs', A3, m3, c3, zs, p0, p1, p2, p3, p4, h9', HL'.out, HO'.out, h6, HZ.out, rfl, T3.out.nds.nds, T3.out.row, T3.out.bel⟩
end Go.Proofs.Ytlanmkimaambgaa.hexes

