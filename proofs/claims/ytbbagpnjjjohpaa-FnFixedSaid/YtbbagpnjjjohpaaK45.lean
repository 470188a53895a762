/-
  A case of chapter 11, drawn: the contract of spec.l11Case.
-/
import Derived.Test.YtbbagpnjjjohpaaK37
import Derived.Test.YtbbagpnjjjohpaaK39
import Derived.Test.YtbbagpnjjjohpaaK43
import Derived.Test.YtbbagpnjjjohpaaK4
import Derived.Test.YtbbagpnjjjohpaaK9
import Derived.Test.YtbbagpnjjjohpaaK32
import Derived.Test.YtbbagpnjjjohpaaK44

namespace Go.Proofs.Ytbbagpnjjjohpaa.hexes
open Go.RowKit

/-- How the draw of a case ends. -/
def CaseDraw (w : World) (e : Ending) (w' : World) : Prop := ∃ (A1 : Option Addr) (n c1 : Nat) (wk cp : Int) (gs : List Nd) (ep : Int) (A4 : Option Addr) (m4 c4 : Nat) (rs : List Rc), n ≤ 9 ∧ gs.length = n ∧ (∀ x ∈ gs, x.2.2.2.length ≤ 4) ∧ m4 ≤ 7 ∧ rs.length = m4 ∧ (-1 ≤ ep ∧ ep ≤ 3) ∧ e = .returned (.tuple #[.agg #[.slice A1 n c1, .int .i64 wk, .int .i64 cp], .int .i64 ep, .slice A4 m4 c4]) ∧ NdsF (w.heap.size + 1) w' A1 gs ∧ w'.ownsRow w.heap.size 51 5 (.slice A4 m4 c4) m4 (rcCells rs) ∧ Below w.heap.size w w'
/-- The graph's variable in block x. -/
structure PC11 (b wx : World) (c : Nat) (A : Option Addr) (len cap x B : Nat) (A1 : Option Addr) (n c1 : Nat) (wk cp : Int) (gs : List Nd) : Prop where
  came : Came b A len
  bc : b.heap.size + 1 ≤ c
  cx : c < x
  cB : c < B
  cur : Cursor wx c A len cap
  bel : Below b.heap.size b wx
  kg : Blk wx b.heap.size 26 #[.slice none 0 0, .int .i64 0, .int .i64 0]
  kx : Blk wx x 26 #[.slice A1 n c1, .int .i64 wk, .int .i64 cp]
  nds : NdsF B wx A1 gs
/-- A list under draw, in a block that is younger than v. -/
structure LC11 (b v wx : World) (c : Nat) (A : Option Addr) (len cap x B : Nat) (A1 : Option Addr) (n c1 : Nat) (wk cp : Int) (gs : List Nd) (A4 : Option Addr) (m4 c4 : Nat) (rs : List Rc) : Prop where
  p : PC11 b v c A len cap x B A1 n c1 wk cp gs
  cur : Cursor wx c A len cap
  gx : v.grownBy wx (some c)
  lst : wx.ownsRow v.heap.size 51 5 (.slice A4 m4 c4) m4 (rcCells rs)
/-- The end: the result is written. -/
structure FC11 (b wx : World) (c : Nat) (A : Option Addr) (len cap x B : Nat) (G : Array Value) (A1 : Option Addr) (n c1 : Nat) (wk cp : Int) (gs : List Nd) (A4 : Option Addr) (m4 c4 : Nat) (rs : List Rc) : Prop where
  came : Came b A len
  bc : b.heap.size + 1 ≤ c
  cx : c < x
  cB : c < B
  cur : Cursor wx c A len cap
  bel : Below b.heap.size b wx
  kg : Blk wx b.heap.size 26 G
  kx : Blk wx x 26 #[.slice A1 n c1, .int .i64 wk, .int .i64 cp]
  row : wx.ownsRow b.heap.size 51 5 (.slice A4 m4 c4) m4 (rcCells rs)
  nds : NdsF B wx A1 gs
variable {b v wx w' : World} {c : Nat} {A : Option Addr} {len cap x B : Nat} {G : Array Value} {A1 : Option Addr} {n c1 : Nat} {wk cp : Int} {gs : List Nd} {A4 : Option Addr} {m4 c4 : Nat} {rs : List Rc}
theorem PC11.draw (S : PC11 b wx c A len cap x B A1 n c1 wk cp gs) (hc : Cursor w' c A len cap) (g : wx.grownBy w' (some c)) : PC11 b w' c A len cap x B A1 n c1 wk cp gs := by
  have h1 := S.bc
  have h2 := S.cx
  exact ⟨S.came, S.bc, S.cx, S.cB, hc, S.bel.grown g S.bel.size (fun k hk => by simp at hk; omega), S.kg.grown g (by simp; omega), S.kx.grown g (by simp; omega), S.nds.grown g S.cB⟩
/-- The variable is given another graph. -/
theorem PC11.setx {B' : Nat} {A1' : Option Addr} {n' c1' : Nat} {wk' cp' : Int} {gs' : List Nd} (S : PC11 b wx c A len cap x B A1 n c1 wk cp gs) (hF : NdsF B' wx A1' gs') (hx : x < B') (hc : c < B') {wf : World} (hw : wf = ((wx.setCell ⟨x, 0, none⟩ (.slice A1' n' c1')).setCell ⟨x, 1, none⟩ (.int .i64 wk')).setCell ⟨x, 2, none⟩ (.int .i64 cp')) : PC11 b wf c A len cap x B' A1' n' c1' wk' cp' gs' := by
  subst hw
  have h1 := S.bc
  have h2 := S.cx
  have g1 := grown_set wx ⟨x, 0, none⟩ (.slice A1' n' c1')
  have g2 := grown_set (wx.setCell ⟨x, 0, none⟩ (.slice A1' n' c1')) ⟨x, 1, none⟩ (.int .i64 wk')
  have g3 := grown_set ((wx.setCell ⟨x, 0, none⟩ (.slice A1' n' c1')).setCell ⟨x, 1, none⟩ (.int .i64 wk')) ⟨x, 2, none⟩ (.int .i64 cp')
  have g := grown_trans (grown_trans g1 g2) g3
  obtain ⟨j, hh, hi, hblk⟩ := S.cur.at_
  have bel' := S.bel.grown g S.bel.size (fun k hk => by simp at hk; omega)
  exact ⟨S.came, S.bc, S.cx, hc, ⟨⟨j, hh, hi, hblk.grown g (by simp; omega)⟩, S.came.bytes bel' (by omega)⟩, bel', S.kg.grown g (by simp; omega), ((S.kx.put 0 _).put 1 _).put 2 _, hF.grown g hx⟩
theorem PC11.start (S : PC11 b v c A len cap x B A1 n c1 wk cp gs) (hc : Cursor wx c A len cap) (g : v.grownBy wx (some c)) (ho : wx.ownsRow v.heap.size 51 5 (.slice A4 m4 c4) m4 (rcCells rs)) : LC11 b v wx c A len cap x B A1 n c1 wk cp gs A4 m4 c4 rs := ⟨S, hc, g, ho⟩
theorem LC11.draw (S : LC11 b v wx c A len cap x B A1 n c1 wk cp gs A4 m4 c4 rs) (hc : Cursor w' c A len cap) (g : wx.grownBy w' (some c)) : LC11 b v w' c A len cap x B A1 n c1 wk cp gs A4 m4 c4 rs := by
  obtain ⟨i, hh, hi, hblk⟩ := S.cur.at_
  exact ⟨S.p, hc, grown_trans S.gx g, S.lst.kept g (.inr (own_type S.lst hblk (by decide)))⟩
theorem LC11.fresh (S : LC11 b v wx c A len cap x B A1 n c1 wk cp gs A4 m4 c4 rs) (hb : Below wx.heap.size wx w') : LC11 b v w' c A len cap x B A1 n c1 wk cp gs A4 m4 c4 rs :=
  ⟨S.p, S.cur.belowD hb, grown_below S.gx hb, own_below S.lst hb⟩
theorem LC11.app (S : LC11 b v wx c A len cap x B A1 n c1 wk cp gs A4 m4 c4 rs) {r : Rc} {u : Value} (ho : w'.ownsRow v.heap.size 51 5 u (m4 + 1) (rcCells (rs ++ [r]))) (gr : wx.grownBy w' (Value.slice A4 m4 c4).ownBlock) : ∃ A5 c5, u = .slice A5 (m4 + 1) c5 ∧ LC11 b v w' c A len cap x B A1 n c1 wk cp gs A5 (m4 + 1) c5 (rs ++ [r]) := by
  obtain ⟨A5, c5, rfl, _⟩ := own_form ho
  obtain ⟨i, hh, hi, hblk⟩ := S.cur.at_
  have h1 := S.p.bc
  have gx' : v.grownBy w' (some c) := grown_row S.gx gr (fun g hg => own_ge S.lst g hg)
  have bel' := S.p.bel.grown gx' S.p.bel.size (fun k hk => by simp at hk; omega)
  exact ⟨A5, c5, rfl, S.p, ⟨⟨i, hh, hi, hblk.grown gr (Ne.symm (own_type S.lst hblk (by decide)))⟩, S.p.came.bytes bel' (by omega)⟩, gx', ho⟩
theorem LC11.out_ (S : LC11 b v wx c A len cap x B A1 n c1 wk cp gs A4 m4 c4 rs) : FC11 b wx c A len cap x B #[.slice none 0 0, .int .i64 0, .int .i64 0] A1 n c1 wk cp gs A4 m4 c4 rs := by
  have h1 := S.p.bc
  have h2 := S.p.cx
  exact ⟨S.p.came, S.p.bc, S.p.cx, S.p.cB, S.cur, S.p.bel.grown S.gx S.p.bel.size (fun k hk => by simp at hk; omega), S.p.kg.grown S.gx (by simp; omega), S.p.kx.grown S.gx (by simp; omega), own_base S.lst S.p.bel.size, S.p.nds.grown S.gx S.p.cB⟩
theorem FC11.draw (S : FC11 b wx c A len cap x B G A1 n c1 wk cp gs A4 m4 c4 rs) (hc : Cursor w' c A len cap) (g : wx.grownBy w' (some c)) : FC11 b w' c A len cap x B G A1 n c1 wk cp gs A4 m4 c4 rs := by
  have h1 := S.bc
  have h2 := S.cx
  obtain ⟨i, hh, hi, hblk⟩ := S.cur.at_
  exact ⟨S.came, S.bc, S.cx, S.cB, hc, S.bel.grown g S.bel.size (fun k hk => by simp at hk; omega), S.kg.grown g (by simp; omega), S.kx.grown g (by simp; omega), S.row.kept g (.inr (own_type S.row hblk (by decide))), S.nds.grown g S.cB⟩
theorem FC11.fresh (S : FC11 b wx c A len cap x B G A1 n c1 wk cp gs A4 m4 c4 rs) (hb : Below wx.heap.size wx w') : FC11 b w' c A len cap x B G A1 n c1 wk cp gs A4 m4 c4 rs :=
  ⟨S.came, S.bc, S.cx, S.cB, S.cur.belowD hb, below_chain S.bel hb, S.kg.below hb, S.kx.below hb, own_below S.row hb, S.nds.below hb⟩
theorem FC11.setg (S : FC11 b wx c A len cap x B G A1 n c1 wk cp gs A4 m4 c4 rs) (i : Nat) (u : Value) : FC11 b (wx.setCell ⟨b.heap.size, i, none⟩ u) c A len cap x B (G.setIfInBounds i u) A1 n c1 wk cp gs A4 m4 c4 rs := by
  have h1 := S.bc
  have h2 := S.cx
  have h3 := S.cB
  have gs' : wx.grownBy (wx.setCell ⟨b.heap.size, i, none⟩ u) (some b.heap.size) := grown_set wx ⟨b.heap.size, i, none⟩ u
  obtain ⟨j, hh, hi, hblk⟩ := S.cur.at_
  have bel' := S.bel.setCell (p := ⟨b.heap.size, i, none⟩) (Nat.le_refl _) u
  exact ⟨S.came, S.bc, S.cx, S.cB, ⟨⟨j, hh, hi, hblk.grown gs' (by simp; omega)⟩, S.came.bytes bel' (by omega)⟩, bel', S.kg.put i u, S.kx.other (by simp; omega) u, S.row.kept gs' (.inr (own_type S.row S.kg (by decide))), S.nds.grown gs' (by omega)⟩

set_option maxRecDepth 100000 in
set_option maxHeartbeats 8000000 in
theorem drawCase_any (w : World) (A : Option Addr) (len cap : Nat) (hlen : len ≤ 2097152) (hcame : Came w A len) :
    Calls Try.prog 46 #[.slice A len cap] w (CaseDraw w) := by
  have HC := Lib.hid hcame
  clear hcame
  obtain ⟨W, hW⟩ : ∃ z, w.alloc (.cells #[.slice none 0 0, .int .i64 0, .int .i64 0] 26) = z := ⟨_, rfl⟩
  have bW : Below w.heap.size w W := by rw [← hW]; exact (Below.refl _ _).alloc (Nat.le_refl _) _
  have NG := Lib.hid (show Blk W w.heap.size 26 #[.slice none 0 0, .int .i64 0, .int .i64 0] by rw [← hW]; exact Blk.new _ _ _)
  go_enter Try.func46, Try.ntmps46
  go_wp2_with fail
  clear hW
  refine (new_any W A len cap hlen (HC.out.below bW)).mono ?_
  rintro e w1 ⟨c, rfl, hcw, hcur, hb1⟩
  have hcl := hcur.lt
  have hld := NG.out.lt
  have CU := Lib.hid hcur
  have BW := Lib.hid (below_chain bW hb1)
  have NG1 := Lib.hid (NG.out.below hb1)
  clear hcur hb1 bW NG
  go_wp2_with fail
  refine (graphGa_draw w1 c A len cap hlen CU.out).mono ?_
  rintro e w2 ⟨A1, n, c1, wk, cp, gs, h9, hgl, hgo, rfl, hF, hc2, g2⟩
  have HL := Lib.hid hgl
  have HO := Lib.hid hgo
  have sz2 := g2.size
  obtain ⟨x, hx⟩ : ∃ x, w2.heap.size = x := ⟨_, rfl⟩
  obtain ⟨U, hU⟩ : ∃ z, w2.alloc (.cells #[.slice A1 n c1, .int .i64 wk, .int .i64 cp] 26) = z := ⟨_, rfl⟩
  have hb : Below w2.heap.size w2 U := by rw [← hU]; exact (Below.refl _ _).alloc (Nat.le_refl _) _
  have kx : Blk U x 26 #[.slice A1 n c1, .int .i64 wk, .int .i64 cp] := by rw [← hU, ← hx]; exact Blk.new _ _ _
  have S1 := Lib.hid (show PC11 w U c A len cap x w1.heap.size A1 n c1 wk cp gs from
    ⟨HC.out, by omega, by omega, hcl, hc2.belowD hb, below_chain (BW.out.grown g2 BW.out.size (fun k hk => by simp at hk; omega)) hb, (NG1.out.grown g2 (by simp; omega)).below hb, kx, hF.below hb⟩)
  clear hgl hgo hc2 g2 hF hb kx HC CU BW NG1
  go_upto_region 3 with fail
  clear hU hx
  go_wp2_with fail
  refine (once_any 10 (by omega) (by omega) U c A len cap hlen S1.out.cur).mono ?_
  rintro e w3 ⟨o1, rfl, hcn, gn⟩
  have S2 := Lib.hid (S1.out.draw hcn gn)
  clear hcn gn S1
  cases o1 with
  | false =>
    go_wp2_with fail
    refine (ins11_draw w3 c A len cap hlen S2.out.cur).mono ?_
    rintro e wi ⟨m4, rs, vv, h6, hrl, rfl, hrow, hcn, gn⟩
    obtain ⟨A4, c4, rfl, _⟩ := own_form hrow
    have HR0 := Lib.hid hrl
    have LI := Lib.hid (show LC11 w w3 wi c A len cap x w1.heap.size A1 n c1 wk cp gs A4 m4 c4 rs from S2.out.start hcn gn hrow)
    clear hrow hcn gn hrl S2
    go_wp2_with fail
    refine (once_any 6 (by omega) (by omega) wi c A len cap hlen LI.out.cur).mono ?_
    rintro e wo ⟨o2, rfl, hcn, gn⟩
    have LO := Lib.hid (LI.out.draw hcn gn)
    clear hcn gn LI
    cases o2 with
    | false =>
      have HR := HR0
      have SO := Lib.hid LO.out.out_
      clear LO
      obtain ⟨V9, hV⟩ : ∃ v, wo.drew = v := ⟨_, rfl⟩
      have SV := Lib.hid (show FC11 w V9 c A len cap x w1.heap.size #[.slice none 0 0, .int .i64 0, .int .i64 0] A1 n c1 wk cp gs A4 m4 c4 rs by rw [← hV]; exact SO.out.fresh ((Below.refl _ _).drew))
      clear SO
      go_wp2_with fail
      refine wp_region_held_drew (S := (fun W' => Blk W' x 26 #[.slice A1 n c1, .int .i64 wk, .int .i64 cp])) (by kernel_rfl) ?_ (fun hHeld => ?_)
      · rw [hV]; exact SV.out.kx
      change wpAnyH _ _ opsD11 _ _ 8 (#[false, false, false, false, false, false, false, false] : Array Bool) _ _
      rw [hV] at hHeld ⊢
      clear hV
      refine regY tD11_e_0 (.agg #[.slice A1 n c1, .int .i64 wk, .int .i64 cp]) (fun W hSw => by unfold qD11_0; (have h0 : W.cell? ⟨x, 0, none⟩ = some (.slice A1 n c1) := by rw [Blk.cell hSw]; rfl); (have h1 : W.cell? ⟨x, 1, none⟩ = some (.int .i64 wk) := by rw [Blk.cell hSw]; rfl); (have h2 : W.cell? ⟨x, 2, none⟩ = some (.int .i64 cp) := by rw [Blk.cell hSw]; rfl); go_simp) hHeld ?_
      try simp only [pt, List.set]
      refine regY tD11_0_1 (.pointer (some ⟨c, 0, none⟩)) (fun W hSw => by unfold qD11_1; go_simp) hHeld ?_
      try simp only [pt, List.set]
      refine regY tD11_01_4 (.slice A4 m4 c4) (fun W hSw => by unfold qD11_4; go_simp) hHeld ?_
      try simp only [pt, List.set]
      refine cD11_014_2 (fun K hK => ?_)
      rw [if_pos (by rfl)]
      unfold qD11_2
      go_simp
      refine (below_any 5 (by omega) (by omega) V9 c A len cap hlen SV.out.cur).mono ?_
      rintro e V9c ⟨y, hy, rfl, hcn, gn⟩
      have SVc := Lib.hid (SV.out.draw hcn gn)
      clear hcn gn
      refine Shut.out hK _ _ ?_ (fun hHeld => ?_)
      · exact SVc.out.kx
      clear hK K
      try simp only [pt, List.set]
      refine regY tD11_0124_3 (.int .i64 ((y : Int) - 1)) (fun W hSw => by unfold qD11_3; go_simp; rw [IntWalk.i64_in ((y : Int) - 1) (by omega)]) hHeld ?_
      try simp only [pt, List.set]
      refine cD11_01234_5 (fun K hK => ?_)
      rw [if_pos (by rfl)]
      unfold qD11_5
      have l0 : V9c.cell? ⟨w.heap.size, 0, none⟩ = some (.slice none 0 0) := by rw [SVc.out.kg.cell]; rfl
      have l1 : V9c.cell? ⟨w.heap.size, 1, none⟩ = some (.int .i64 0) := by rw [SVc.out.kg.cell]; rfl
      have l2 : V9c.cell? ⟨w.heap.size, 2, none⟩ = some (.int .i64 0) := by rw [SVc.out.kg.cell]; rfl
      have lf0 := SVc.out.kg.frozen 0
      have lf1 := SVc.out.kg.frozen 1
      have lf2 := SVc.out.kg.frozen 2
      go_simp
      clear l0 lf0 l1 lf1 l2 lf2
      generalize hV : ((V9c.setCell _ _).setCell _ _).setCell _ _ = V9cg
      have SVcg := Lib.hid (show FC11 w V9cg c A len cap x w1.heap.size #[.slice A1 n c1, .int .i64 wk, .int .i64 cp] A1 n c1 wk cp gs A4 m4 c4 rs by rw [← hV]; exact ((SVc.out.setg 0 _).setg 1 _).setg 2 _)
      clear hV
      refine Shut.out hK _ _ ?_ (fun hHeld => ?_)
      · exact SVcg.out.kx
      clear hK K
      try simp only [pn]
      refine regY tD11_012345_6 (.int .i64 ((y : Int) - 1)) (fun W hSw => by unfold qD11_6; go_simp) hHeld ?_
      try simp only [pt, List.set]
      refine regY tD11_0123456_7 (.slice A4 m4 c4) (fun W hSw => by unfold qD11_7; go_simp) hHeld ?_
      try simp only [pt, List.set]
      refine wpAnyH_done (by kernel_rfl) ?_ _
      clear hHeld
      have e0 : V9cg.cell? ⟨w.heap.size, 0, none⟩ = some (.slice A1 n c1) := by rw [SVcg.out.kg.cell]; rfl
      have e1 : V9cg.cell? ⟨w.heap.size, 1, none⟩ = some (.int .i64 wk) := by rw [SVcg.out.kg.cell]; rfl
      have e2 : V9cg.cell? ⟨w.heap.size, 2, none⟩ = some (.int .i64 cp) := by rw [SVcg.out.kg.cell]; rfl
      go_wp2_with fail
      exact bodyPost_ret (v := .tuple #[.agg #[.slice A1 n c1, .int .i64 wk, .int .i64 cp], .int .i64 ((y : Int) - 1), .slice A4 m4 c4]) (by simp [results, Try.results46, go_sem, e0, e1, e2]) rfl ⟨A1, n, c1, wk, cp, gs, (y : Int) - 1, A4, m4, c4, rs, h9, HL.out, HO.out, by omega, HR.out, by omega, rfl, SVcg.out.nds.lower (by have h1 := SVcg.out.bc; have h2 := SVcg.out.cB; omega), SVcg.out.row, SVcg.out.bel⟩
    | true =>
      go_wp2_with fail
      refine (anyRc_draw wo c A len cap hlen LO.out.cur).mono ?_
      rintro e v1 ⟨p0, p1, p2, p3, p4, _, rfl, hcn, gn⟩
      have LY := Lib.hid (LO.out.draw hcn gn)
      clear hcn gn LO
      obtain ⟨V, hV⟩ : ∃ z, v1.alloc (.cells #[.int .i64 p0, .int .i64 p1, .int .i64 p2, .int .i64 p3, .int .i64 p4] 51) = z := ⟨_, rfl⟩
      have NR := Lib.hid (show Rcs V (some ⟨v1.heap.size, 0, none⟩) [(p0, (p1, p2), p3, p4)] by rw [← hV]; exact rc_new _ _ _ _ _ _)
      have LZ := Lib.hid (show LC11 w w3 V c A len cap x w1.heap.size A1 n c1 wk cp gs A4 m4 c4 rs by rw [← hV]; exact LY.out.fresh ((Below.refl _ _).alloc (Nat.le_refl _) _))
      clear LY
      go_wp2_with (at_builtin; refine wpList_append_rc rfl (.tmp 20) (.tmp 23) (by rfl) w3.heap.size (.slice A4 m4 c4) m4 rs (by rfl) LZ.out.lst (some ⟨v1.heap.size, 0, none⟩) 1 1 [(p0, (p1, p2), p3, p4)] (by rfl) (fun h => by cases h) rfl NR.out (by omega) LZ.out.gx.size ?_; intro vn w9 own gr; generalize hG : wpList _ _ _ _ _ _ = GG)
      obtain ⟨A5, c5, rfl, hS9⟩ := LZ.out.app own gr
      have L9 := Lib.hid hS9
      clear own gr hS9 LZ NR hV
      subst hG
      obtain ⟨m5, hm5⟩ : ∃ m, m = m4 + 1 := ⟨_, rfl⟩
      obtain ⟨rs5, hrs5⟩ : ∃ z, z = rs ++ [(p0, (p1, p2), p3, p4)] := ⟨_, rfl⟩
      have HR := Lib.hid (show rs5.length = m5 by rw [hrs5, hm5, List.length_append, HR0.out]; rfl)
      have le5 : m5 ≤ 7 := by omega
      rw [← hm5, ← hrs5] at L9
      rw [← hm5]
      clear hm5 hrs5
      have SO := Lib.hid L9.out.out_
      clear L9
      obtain ⟨V9, hV⟩ : ∃ v, w9.drew = v := ⟨_, rfl⟩
      have SV := Lib.hid (show FC11 w V9 c A len cap x w1.heap.size #[.slice none 0 0, .int .i64 0, .int .i64 0] A1 n c1 wk cp gs A5 m5 c5 rs5 by rw [← hV]; exact SO.out.fresh ((Below.refl _ _).drew))
      clear SO
      go_wp2_with fail
      refine wp_region_held_drew (S := (fun W' => Blk W' x 26 #[.slice A1 n c1, .int .i64 wk, .int .i64 cp])) (by kernel_rfl) ?_ (fun hHeld => ?_)
      · rw [hV]; exact SV.out.kx
      change wpAnyH _ _ opsD11 _ _ 8 (#[false, false, false, false, false, false, false, false] : Array Bool) _ _
      rw [hV] at hHeld ⊢
      clear hV
      refine regY tD11_e_0 (.agg #[.slice A1 n c1, .int .i64 wk, .int .i64 cp]) (fun W hSw => by unfold qD11_0; (have h0 : W.cell? ⟨x, 0, none⟩ = some (.slice A1 n c1) := by rw [Blk.cell hSw]; rfl); (have h1 : W.cell? ⟨x, 1, none⟩ = some (.int .i64 wk) := by rw [Blk.cell hSw]; rfl); (have h2 : W.cell? ⟨x, 2, none⟩ = some (.int .i64 cp) := by rw [Blk.cell hSw]; rfl); go_simp) hHeld ?_
      try simp only [pt, List.set]
      refine regY tD11_0_1 (.pointer (some ⟨c, 0, none⟩)) (fun W hSw => by unfold qD11_1; go_simp) hHeld ?_
      try simp only [pt, List.set]
      refine regY tD11_01_4 (.slice A5 m5 c5) (fun W hSw => by unfold qD11_4; go_simp) hHeld ?_
      try simp only [pt, List.set]
      refine cD11_014_2 (fun K hK => ?_)
      rw [if_pos (by rfl)]
      unfold qD11_2
      go_simp
      refine (below_any 5 (by omega) (by omega) V9 c A len cap hlen SV.out.cur).mono ?_
      rintro e V9c ⟨y, hy, rfl, hcn, gn⟩
      have SVc := Lib.hid (SV.out.draw hcn gn)
      clear hcn gn
      refine Shut.out hK _ _ ?_ (fun hHeld => ?_)
      · exact SVc.out.kx
      clear hK K
      try simp only [pt, List.set]
      refine regY tD11_0124_3 (.int .i64 ((y : Int) - 1)) (fun W hSw => by unfold qD11_3; go_simp; rw [IntWalk.i64_in ((y : Int) - 1) (by omega)]) hHeld ?_
      try simp only [pt, List.set]
      refine cD11_01234_5 (fun K hK => ?_)
      rw [if_pos (by rfl)]
      unfold qD11_5
      have l0 : V9c.cell? ⟨w.heap.size, 0, none⟩ = some (.slice none 0 0) := by rw [SVc.out.kg.cell]; rfl
      have l1 : V9c.cell? ⟨w.heap.size, 1, none⟩ = some (.int .i64 0) := by rw [SVc.out.kg.cell]; rfl
      have l2 : V9c.cell? ⟨w.heap.size, 2, none⟩ = some (.int .i64 0) := by rw [SVc.out.kg.cell]; rfl
      have lf0 := SVc.out.kg.frozen 0
      have lf1 := SVc.out.kg.frozen 1
      have lf2 := SVc.out.kg.frozen 2
      go_simp
      clear l0 lf0 l1 lf1 l2 lf2
      generalize hV : ((V9c.setCell _ _).setCell _ _).setCell _ _ = V9cg
      have SVcg := Lib.hid (show FC11 w V9cg c A len cap x w1.heap.size #[.slice A1 n c1, .int .i64 wk, .int .i64 cp] A1 n c1 wk cp gs A5 m5 c5 rs5 by rw [← hV]; exact ((SVc.out.setg 0 _).setg 1 _).setg 2 _)
      clear hV
      refine Shut.out hK _ _ ?_ (fun hHeld => ?_)
      · exact SVcg.out.kx
      clear hK K
      try simp only [pn]
      refine regY tD11_012345_6 (.int .i64 ((y : Int) - 1)) (fun W hSw => by unfold qD11_6; go_simp) hHeld ?_
      try simp only [pt, List.set]
      refine regY tD11_0123456_7 (.slice A5 m5 c5) (fun W hSw => by unfold qD11_7; go_simp) hHeld ?_
      try simp only [pt, List.set]
      refine wpAnyH_done (by kernel_rfl) ?_ _
      clear hHeld
      have e0 : V9cg.cell? ⟨w.heap.size, 0, none⟩ = some (.slice A1 n c1) := by rw [SVcg.out.kg.cell]; rfl
      have e1 : V9cg.cell? ⟨w.heap.size, 1, none⟩ = some (.int .i64 wk) := by rw [SVcg.out.kg.cell]; rfl
      have e2 : V9cg.cell? ⟨w.heap.size, 2, none⟩ = some (.int .i64 cp) := by rw [SVcg.out.kg.cell]; rfl
      go_wp2_with fail
      exact bodyPost_ret (v := .tuple #[.agg #[.slice A1 n c1, .int .i64 wk, .int .i64 cp], .int .i64 ((y : Int) - 1), .slice A5 m5 c5]) (by simp [results, Try.results46, go_sem, e0, e1, e2]) rfl ⟨A1, n, c1, wk, cp, gs, (y : Int) - 1, A5, m5, c5, rs5, h9, HL.out, HO.out, by omega, HR.out, by omega, rfl, SVcg.out.nds.lower (by have h1 := SVcg.out.bc; have h2 := SVcg.out.cB; omega), SVcg.out.row, SVcg.out.bel⟩
  | true =>
    go_wp2_with fail
    refine (graphAny_draw w3 c A len cap hlen S2.out.cur).mono ?_
    rintro e w4 ⟨A1', n', c1', wk', cp', gs', h9', hgl, hgo, rfl, hF, hcn, gn⟩
    have HL' := Lib.hid hgl
    have HO' := Lib.hid hgo
    have xl := S2.out.kx.lt
    have cl3 := S2.out.cur.lt
    have S3 := Lib.hid (S2.out.draw hcn gn)
    have F3 := Lib.hid hF
    clear hgl hgo hcn gn hF S2
    have k0 : w4.cell? ⟨x, 0, none⟩ = some (.slice A1 n c1) := by rw [S3.out.kx.cell]; rfl
    have k1 : w4.cell? ⟨x, 1, none⟩ = some (.int .i64 wk) := by rw [S3.out.kx.cell]; rfl
    have k2 : w4.cell? ⟨x, 2, none⟩ = some (.int .i64 cp) := by rw [S3.out.kx.cell]; rfl
    have kf0 := S3.out.kx.frozen 0
    have kf1 := S3.out.kx.frozen 1
    have kf2 := S3.out.kx.frozen 2
    go_upto_region 5 with fail
    clear k0 kf0 k1 kf1 k2 kf2
    generalize hV : ((w4.setCell _ _).setCell _ _).setCell _ _ = U2
    have S4 := Lib.hid (show PC11 w U2 c A len cap x w3.heap.size A1' n' c1' wk' cp' gs' by rw [← hV]; exact S3.out.setx F3.out xl cl3 rfl)
    clear hV S3 F3
    go_wp2_with fail
    refine (ins11_draw U2 c A len cap hlen S4.out.cur).mono ?_
    rintro e wi ⟨m4, rs, vv, h6, hrl, rfl, hrow, hcn, gn⟩
    obtain ⟨A4, c4, rfl, _⟩ := own_form hrow
    have HR0 := Lib.hid hrl
    have LI := Lib.hid (show LC11 w U2 wi c A len cap x w3.heap.size A1' n' c1' wk' cp' gs' A4 m4 c4 rs from S4.out.start hcn gn hrow)
    clear hrow hcn gn hrl S4
    go_wp2_with fail
    refine (once_any 6 (by omega) (by omega) wi c A len cap hlen LI.out.cur).mono ?_
    rintro e wo ⟨o2, rfl, hcn, gn⟩
    have LO := Lib.hid (LI.out.draw hcn gn)
    clear hcn gn LI
    cases o2 with
    | false =>
      have HR := HR0
      have SO := Lib.hid LO.out.out_
      clear LO
      obtain ⟨V9, hV⟩ : ∃ v, wo.drew = v := ⟨_, rfl⟩
      have SV := Lib.hid (show FC11 w V9 c A len cap x w3.heap.size #[.slice none 0 0, .int .i64 0, .int .i64 0] A1' n' c1' wk' cp' gs' A4 m4 c4 rs by rw [← hV]; exact SO.out.fresh ((Below.refl _ _).drew))
      clear SO
      go_wp2_with fail
      refine wp_region_held_drew (S := (fun W' => Blk W' x 26 #[.slice A1' n' c1', .int .i64 wk', .int .i64 cp'])) (by kernel_rfl) ?_ (fun hHeld => ?_)
      · rw [hV]; exact SV.out.kx
      change wpAnyH _ _ opsD11 _ _ 8 (#[false, false, false, false, false, false, false, false] : Array Bool) _ _
      rw [hV] at hHeld ⊢
      clear hV
      refine regY tD11_e_0 (.agg #[.slice A1' n' c1', .int .i64 wk', .int .i64 cp']) (fun W hSw => by unfold qD11_0; (have h0 : W.cell? ⟨x, 0, none⟩ = some (.slice A1' n' c1') := by rw [Blk.cell hSw]; rfl); (have h1 : W.cell? ⟨x, 1, none⟩ = some (.int .i64 wk') := by rw [Blk.cell hSw]; rfl); (have h2 : W.cell? ⟨x, 2, none⟩ = some (.int .i64 cp') := by rw [Blk.cell hSw]; rfl); go_simp) hHeld ?_
      try simp only [pt, List.set]
      refine regY tD11_0_1 (.pointer (some ⟨c, 0, none⟩)) (fun W hSw => by unfold qD11_1; go_simp) hHeld ?_
      try simp only [pt, List.set]
      refine regY tD11_01_4 (.slice A4 m4 c4) (fun W hSw => by unfold qD11_4; go_simp) hHeld ?_
      try simp only [pt, List.set]
      refine cD11_014_2 (fun K hK => ?_)
      rw [if_pos (by rfl)]
      unfold qD11_2
      go_simp
      refine (below_any 5 (by omega) (by omega) V9 c A len cap hlen SV.out.cur).mono ?_
      rintro e V9c ⟨y, hy, rfl, hcn, gn⟩
      have SVc := Lib.hid (SV.out.draw hcn gn)
      clear hcn gn
      refine Shut.out hK _ _ ?_ (fun hHeld => ?_)
      · exact SVc.out.kx
      clear hK K
      try simp only [pt, List.set]
      refine regY tD11_0124_3 (.int .i64 ((y : Int) - 1)) (fun W hSw => by unfold qD11_3; go_simp; rw [IntWalk.i64_in ((y : Int) - 1) (by omega)]) hHeld ?_
      try simp only [pt, List.set]
      refine cD11_01234_5 (fun K hK => ?_)
      rw [if_pos (by rfl)]
      unfold qD11_5
      have l0 : V9c.cell? ⟨w.heap.size, 0, none⟩ = some (.slice none 0 0) := by rw [SVc.out.kg.cell]; rfl
      have l1 : V9c.cell? ⟨w.heap.size, 1, none⟩ = some (.int .i64 0) := by rw [SVc.out.kg.cell]; rfl
      have l2 : V9c.cell? ⟨w.heap.size, 2, none⟩ = some (.int .i64 0) := by rw [SVc.out.kg.cell]; rfl
      have lf0 := SVc.out.kg.frozen 0
      have lf1 := SVc.out.kg.frozen 1
      have lf2 := SVc.out.kg.frozen 2
      go_simp
      clear l0 lf0 l1 lf1 l2 lf2
      generalize hV : ((V9c.setCell _ _).setCell _ _).setCell _ _ = V9cg
      have SVcg := Lib.hid (show FC11 w V9cg c A len cap x w3.heap.size #[.slice A1' n' c1', .int .i64 wk', .int .i64 cp'] A1' n' c1' wk' cp' gs' A4 m4 c4 rs by rw [← hV]; exact ((SVc.out.setg 0 _).setg 1 _).setg 2 _)
      clear hV
      refine Shut.out hK _ _ ?_ (fun hHeld => ?_)
      · exact SVcg.out.kx
      clear hK K
      try simp only [pn]
      refine regY tD11_012345_6 (.int .i64 ((y : Int) - 1)) (fun W hSw => by unfold qD11_6; go_simp) hHeld ?_
      try simp only [pt, List.set]
      refine regY tD11_0123456_7 (.slice A4 m4 c4) (fun W hSw => by unfold qD11_7; go_simp) hHeld ?_
      try simp only [pt, List.set]
      refine wpAnyH_done (by kernel_rfl) ?_ _
      clear hHeld
      have e0 : V9cg.cell? ⟨w.heap.size, 0, none⟩ = some (.slice A1' n' c1') := by rw [SVcg.out.kg.cell]; rfl
      have e1 : V9cg.cell? ⟨w.heap.size, 1, none⟩ = some (.int .i64 wk') := by rw [SVcg.out.kg.cell]; rfl
      have e2 : V9cg.cell? ⟨w.heap.size, 2, none⟩ = some (.int .i64 cp') := by rw [SVcg.out.kg.cell]; rfl
      go_wp2_with fail
      exact bodyPost_ret (v := .tuple #[.agg #[.slice A1' n' c1', .int .i64 wk', .int .i64 cp'], .int .i64 ((y : Int) - 1), .slice A4 m4 c4]) (by simp [results, Try.results46, go_sem, e0, e1, e2]) rfl ⟨A1', n', c1', wk', cp', gs', (y : Int) - 1, A4, m4, c4, rs, h9', HL'.out, HO'.out, by omega, HR.out, by omega, rfl, SVcg.out.nds.lower (by have h1 := SVcg.out.bc; have h2 := SVcg.out.cB; omega), SVcg.out.row, SVcg.out.bel⟩
    | true =>
      go_wp2_with fail
      refine (anyRc_draw wo c A len cap hlen LO.out.cur).mono ?_
      rintro e v1 ⟨p0, p1, p2, p3, p4, _, rfl, hcn, gn⟩
      have LY := Lib.hid (LO.out.draw hcn gn)
      clear hcn gn LO
      obtain ⟨V, hV⟩ : ∃ z, v1.alloc (.cells #[.int .i64 p0, .int .i64 p1, .int .i64 p2, .int .i64 p3, .int .i64 p4] 51) = z := ⟨_, rfl⟩
      have NR := Lib.hid (show Rcs V (some ⟨v1.heap.size, 0, none⟩) [(p0, (p1, p2), p3, p4)] by rw [← hV]; exact rc_new _ _ _ _ _ _)
      have LZ := Lib.hid (show LC11 w U2 V c A len cap x w3.heap.size A1' n' c1' wk' cp' gs' A4 m4 c4 rs by rw [← hV]; exact LY.out.fresh ((Below.refl _ _).alloc (Nat.le_refl _) _))
      clear LY
      go_wp2_with (at_builtin; refine wpList_append_rc rfl (.tmp 20) (.tmp 23) (by rfl) U2.heap.size (.slice A4 m4 c4) m4 rs (by rfl) LZ.out.lst (some ⟨v1.heap.size, 0, none⟩) 1 1 [(p0, (p1, p2), p3, p4)] (by rfl) (fun h => by cases h) rfl NR.out (by omega) LZ.out.gx.size ?_; intro vn w9 own gr; generalize hG : wpList _ _ _ _ _ _ = GG)
      obtain ⟨A5, c5, rfl, hS9⟩ := LZ.out.app own gr
      have L9 := Lib.hid hS9
      clear own gr hS9 LZ NR hV
      subst hG
      obtain ⟨m5, hm5⟩ : ∃ m, m = m4 + 1 := ⟨_, rfl⟩
      obtain ⟨rs5, hrs5⟩ : ∃ z, z = rs ++ [(p0, (p1, p2), p3, p4)] := ⟨_, rfl⟩
      have HR := Lib.hid (show rs5.length = m5 by rw [hrs5, hm5, List.length_append, HR0.out]; rfl)
      have le5 : m5 ≤ 7 := by omega
      rw [← hm5, ← hrs5] at L9
      rw [← hm5]
      clear hm5 hrs5
      have SO := Lib.hid L9.out.out_
      clear L9
      obtain ⟨V9, hV⟩ : ∃ v, w9.drew = v := ⟨_, rfl⟩
      have SV := Lib.hid (show FC11 w V9 c A len cap x w3.heap.size #[.slice none 0 0, .int .i64 0, .int .i64 0] A1' n' c1' wk' cp' gs' A5 m5 c5 rs5 by rw [← hV]; exact SO.out.fresh ((Below.refl _ _).drew))
      clear SO
      go_wp2_with fail
      refine wp_region_held_drew (S := (fun W' => Blk W' x 26 #[.slice A1' n' c1', .int .i64 wk', .int .i64 cp'])) (by kernel_rfl) ?_ (fun hHeld => ?_)
      · rw [hV]; exact SV.out.kx
      change wpAnyH _ _ opsD11 _ _ 8 (#[false, false, false, false, false, false, false, false] : Array Bool) _ _
      rw [hV] at hHeld ⊢
      clear hV
      refine regY tD11_e_0 (.agg #[.slice A1' n' c1', .int .i64 wk', .int .i64 cp']) (fun W hSw => by unfold qD11_0; (have h0 : W.cell? ⟨x, 0, none⟩ = some (.slice A1' n' c1') := by rw [Blk.cell hSw]; rfl); (have h1 : W.cell? ⟨x, 1, none⟩ = some (.int .i64 wk') := by rw [Blk.cell hSw]; rfl); (have h2 : W.cell? ⟨x, 2, none⟩ = some (.int .i64 cp') := by rw [Blk.cell hSw]; rfl); go_simp) hHeld ?_
      try simp only [pt, List.set]
      refine regY tD11_0_1 (.pointer (some ⟨c, 0, none⟩)) (fun W hSw => by unfold qD11_1; go_simp) hHeld ?_
      try simp only [pt, List.set]
      refine regY tD11_01_4 (.slice A5 m5 c5) (fun W hSw => by unfold qD11_4; go_simp) hHeld ?_
      try simp only [pt, List.set]
      refine cD11_014_2 (fun K hK => ?_)
      rw [if_pos (by rfl)]
      unfold qD11_2
      go_simp
      refine (below_any 5 (by omega) (by omega) V9 c A len cap hlen SV.out.cur).mono ?_
      rintro e V9c ⟨y, hy, rfl, hcn, gn⟩
      have SVc := Lib.hid (SV.out.draw hcn gn)
      clear hcn gn
      refine Shut.out hK _ _ ?_ (fun hHeld => ?_)
      · exact SVc.out.kx
      clear hK K
      try simp only [pt, List.set]
      refine regY tD11_0124_3 (.int .i64 ((y : Int) - 1)) (fun W hSw => by unfold qD11_3; go_simp; rw [IntWalk.i64_in ((y : Int) - 1) (by omega)]) hHeld ?_
      try simp only [pt, List.set]
      refine cD11_01234_5 (fun K hK => ?_)
      rw [if_pos (by rfl)]
      unfold qD11_5
      have l0 : V9c.cell? ⟨w.heap.size, 0, none⟩ = some (.slice none 0 0) := by rw [SVc.out.kg.cell]; rfl
      have l1 : V9c.cell? ⟨w.heap.size, 1, none⟩ = some (.int .i64 0) := by rw [SVc.out.kg.cell]; rfl
      have l2 : V9c.cell? ⟨w.heap.size, 2, none⟩ = some (.int .i64 0) := by rw [SVc.out.kg.cell]; rfl
      have lf0 := SVc.out.kg.frozen 0
      have lf1 := SVc.out.kg.frozen 1
      have lf2 := SVc.out.kg.frozen 2
      go_simp
      clear l0 lf0 l1 lf1 l2 lf2
      generalize hV : ((V9c.setCell _ _).setCell _ _).setCell _ _ = V9cg
      have SVcg := Lib.hid (show FC11 w V9cg c A len cap x w3.heap.size #[.slice A1' n' c1', .int .i64 wk', .int .i64 cp'] A1' n' c1' wk' cp' gs' A5 m5 c5 rs5 by rw [← hV]; exact ((SVc.out.setg 0 _).setg 1 _).setg 2 _)
      clear hV
      refine Shut.out hK _ _ ?_ (fun hHeld => ?_)
      · exact SVcg.out.kx
      clear hK K
      try simp only [pn]
      refine regY tD11_012345_6 (.int .i64 ((y : Int) - 1)) (fun W hSw => by unfold qD11_6; go_simp) hHeld ?_
      try simp only [pt, List.set]
      refine regY tD11_0123456_7 (.slice A5 m5 c5) (fun W hSw => by unfold qD11_7; go_simp) hHeld ?_
      try simp only [pt, List.set]
      refine wpAnyH_done (by kernel_rfl) ?_ _
      clear hHeld
      have e0 : V9cg.cell? ⟨w.heap.size, 0, none⟩ = some (.slice A1' n' c1') := by rw [SVcg.out.kg.cell]; rfl
      have e1 : V9cg.cell? ⟨w.heap.size, 1, none⟩ = some (.int .i64 wk') := by rw [SVcg.out.kg.cell]; rfl
      have e2 : V9cg.cell? ⟨w.heap.size, 2, none⟩ = some (.int .i64 cp') := by rw [SVcg.out.kg.cell]; rfl
      go_wp2_with fail
      exact bodyPost_ret (v := .tuple #[.agg #[.slice A1' n' c1', .int .i64 wk', .int .i64 cp'], .int .i64 ((y : Int) - 1), .slice A5 m5 c5]) (by simp [results, Try.results46, go_sem, e0, e1, e2]) rfl ⟨A1', n', c1', wk', cp', gs', (y : Int) - 1, A5, m5, c5, rs5, h9', HL'.out, HO'.out, by omega, HR.out, by omega, rfl, SVcg.out.nds.lower (by have h1 := SVcg.out.bc; have h2 := SVcg.out.cB; omega), SVcg.out.row, SVcg.out.bel⟩
end Go.Proofs.Ytbbagpnjjjohpaa.hexes

