/-
  What StepAll is drawn: the contract of spec.DrawStepAll.
-/
import Derived.Test.YtlanmkimaambgaaS39
import Derived.Test.YtlanmkimaambgaaS41
import Derived.Test.YtlanmkimaambgaaS8
import Derived.Test.YtlanmkimaambgaaS49
import Derived.Test.YtlanmkimaambgaaS47

namespace Go.Proofs.Ytlanmkimaambgaa.hexes
open Go.RowKit

def AllDraw (w : World) (e : Ending) (w' : World) : Prop := ∃ (A1 : Option Addr) (n c1 : Nat) (wk cp : Int) (gs : List Nd) (A3 : Option Addr) (m3 c3 : Nat) (zs : List Ce) (A4 : Option Addr) (m4 c4 : Nat) (rs : List Rc) (mo : Int), n ≤ 9 ∧ gs.length = n ∧ (∀ x ∈ gs, x.2.2.2.length ≤ 4) ∧ m3 ≤ 6 ∧ zs.length = m3 ∧ m4 ≤ 4 ∧ rs.length = m4 ∧ e = .returned (.tuple #[.agg #[.slice A1 n c1, .int .i64 wk, .int .i64 cp], .slice A3 m3 c3, .slice A4 m4 c4, .int .i64 mo]) ∧ Nds w' A1 gs ∧ w'.ownsRow w.heap.size 75 4 (.slice A3 m3 c3) m3 (ceCells zs) ∧ w'.ownsRow w.heap.size 31 5 (.slice A4 m4 c4) m4 (rcCells rs) ∧ Below w.heap.size w w'
/-- What the draw keeps from step to step. -/
structure SA (b wx : World) (c : Nat) (A : Option Addr) (len cap x B : Nat) (G : Array Value) (A1 : Option Addr) (n c1 : Nat) (wk cp : Int) (gs : List Nd) (A4 : Option Addr) (m4 c4 : Nat) (rs : List Rc) (A3 : Option Addr) (m3 c3 : Nat) (zs : List Ce) : Prop where
  came : Came b A len
  bc : b.heap.size + 1 ≤ c
  cx : c < x
  cB : c < B
  cur : Cursor wx c A len cap
  bel : Below b.heap.size b wx
  kg : Blk wx b.heap.size 26 G
  kx : Blk wx x 26 #[.slice A1 n c1, .int .i64 wk, .int .i64 cp]
  lst : wx.ownsRow b.heap.size 31 5 (.slice A4 m4 c4) m4 (rcCells rs)
  row : wx.ownsRow b.heap.size 75 4 (.slice A3 m3 c3) m3 (ceCells zs)
  nds : NdsF B wx A1 gs
variable {b wx w' : World} {c : Nat} {A : Option Addr} {len cap x B : Nat} {G : Array Value} {A1 : Option Addr} {n c1 : Nat} {wk cp : Int} {gs : List Nd} {A4 : Option Addr} {m4 c4 : Nat} {rs : List Rc} {A3 : Option Addr} {m3 c3 : Nat} {zs : List Ce}
theorem SA.draw (S : SA b wx c A len cap x B G A1 n c1 wk cp gs A4 m4 c4 rs A3 m3 c3 zs) (hc : Cursor w' c A len cap) (g : wx.grownBy w' (some c)) : SA b w' c A len cap x B G A1 n c1 wk cp gs A4 m4 c4 rs A3 m3 c3 zs := by
  have h1 := S.bc
  have h2 := S.cx
  obtain ⟨i, hh, hi, hblk⟩ := S.cur.at_
  exact ⟨S.came, S.bc, S.cx, S.cB, hc, S.bel.grown g S.bel.size (fun k hk => by simp at hk; omega), S.kg.grown g (by simp; omega), S.kx.grown g (by simp; omega), S.lst.kept g (.inr (own_type S.lst hblk (by decide))), S.row.kept g (.inr (own_type S.row hblk (by decide))), S.nds.grown g S.cB⟩
theorem SA.fresh (S : SA b wx c A len cap x B G A1 n c1 wk cp gs A4 m4 c4 rs A3 m3 c3 zs) (hb : Below wx.heap.size wx w') : SA b w' c A len cap x B G A1 n c1 wk cp gs A4 m4 c4 rs A3 m3 c3 zs :=
  ⟨S.came, S.bc, S.cx, S.cB, S.cur.belowD hb, below_chain S.bel hb, S.kg.below hb, S.kx.below hb, own_below S.lst hb, own_below S.row hb, S.nds.below hb⟩
theorem SA.cells (S : SA b wx c A len cap x B G A1 n c1 wk cp gs A4 m4 c4 rs A3 m3 c3 zs) (hc : Cursor w' c A len cap) (g : wx.grownBy w' (some c)) {A5 : Option Addr} {m5 c5 : Nat} {us : List Ce} (ho : w'.ownsRow wx.heap.size 75 4 (.slice A5 m5 c5) m5 (ceCells us)) : SA b w' c A len cap x B G A1 n c1 wk cp gs A4 m4 c4 rs A5 m5 c5 us :=
  have T := S.draw hc g
  ⟨T.came, T.bc, T.cx, T.cB, T.cur, T.bel, T.kg, T.kx, T.lst, own_base ho S.bel.size, T.nds⟩
theorem SA.setg (S : SA b wx c A len cap x B G A1 n c1 wk cp gs A4 m4 c4 rs A3 m3 c3 zs) (i : Nat) (u : Value) : SA b (wx.setCell ⟨b.heap.size, i, none⟩ u) c A len cap x B (G.setIfInBounds i u) A1 n c1 wk cp gs A4 m4 c4 rs A3 m3 c3 zs := by
  have h1 := S.bc
  have h2 := S.cx
  have h3 := S.cB
  have g' : wx.grownBy (wx.setCell ⟨b.heap.size, i, none⟩ u) (some b.heap.size) := grown_set wx ⟨b.heap.size, i, none⟩ u
  obtain ⟨j, hh, hi, hblk⟩ := S.cur.at_
  have bel' := S.bel.setCell (p := ⟨b.heap.size, i, none⟩) (Nat.le_refl _) u
  exact ⟨S.came, S.bc, S.cx, S.cB, ⟨⟨j, hh, hi, hblk.grown g' (by simp; omega)⟩, S.came.bytes bel' (by omega)⟩, bel', S.kg.put i u, S.kx.other (by simp; omega) u, S.lst.kept g' (.inr (own_type S.lst S.kg (by decide))), S.row.kept g' (.inr (own_type S.row S.kg (by decide))), S.nds.grown g' (by omega)⟩
/-- What the list's loop keeps. -/
structure SL (b v wx : World) (c : Nat) (A : Option Addr) (len cap x B : Nat) (A1 : Option Addr) (n c1 : Nat) (wk cp : Int) (gs : List Nd) (A4 : Option Addr) (m4 c4 : Nat) (rs : List Rc) : Prop where
  came : Came b A len
  bc : b.heap.size + 1 ≤ c
  cx : c < x
  cB : c < B
  cv : c < v.heap.size
  vb : Below b.heap.size b v
  kg : Blk v b.heap.size 26 #[.slice none 0 0, .int .i64 0, .int .i64 0]
  n0 : NdsF B v A1 gs
  gx : v.grownBy wx (some c)
  cur : Cursor wx c A len cap
  kx : Blk wx x 26 #[.slice A1 n c1, .int .i64 wk, .int .i64 cp]
  lst : wx.ownsRow v.heap.size 31 5 (.slice A4 m4 c4) m4 (rcCells rs)
variable {v : World}
theorem SL.bel (S : SL b v wx c A len cap x B A1 n c1 wk cp gs A4 m4 c4 rs) : Below b.heap.size b wx := S.vb.grown S.gx S.vb.size (fun k hk => by have := S.bc; simp at hk; omega)
theorem SL.draw (S : SL b v wx c A len cap x B A1 n c1 wk cp gs A4 m4 c4 rs) (hc : Cursor w' c A len cap) (g : wx.grownBy w' (some c)) : SL b v w' c A len cap x B A1 n c1 wk cp gs A4 m4 c4 rs := by
  have h2 := S.cx
  obtain ⟨i, hh, hi, hblk⟩ := S.cur.at_
  exact ⟨S.came, S.bc, S.cx, S.cB, S.cv, S.vb, S.kg, S.n0, grown_trans S.gx g, hc, S.kx.grown g (by simp; omega), S.lst.kept g (.inr (own_type S.lst hblk (by decide)))⟩
theorem SL.fresh (S : SL b v wx c A len cap x B A1 n c1 wk cp gs A4 m4 c4 rs) (hb : Below wx.heap.size wx w') : SL b v w' c A len cap x B A1 n c1 wk cp gs A4 m4 c4 rs :=
  ⟨S.came, S.bc, S.cx, S.cB, S.cv, S.vb, S.kg, S.n0, grown_below S.gx hb, S.cur.belowD hb, S.kx.below hb, own_below S.lst hb⟩
theorem SL.app (S : SL b v wx c A len cap x B A1 n c1 wk cp gs A4 m4 c4 rs) {r : Rc} {u : Value} (ho : w'.ownsRow v.heap.size 31 5 u (m4 + 1) (rcCells (rs ++ [r]))) (gr : wx.grownBy w' (Value.slice A4 m4 c4).ownBlock) : ∃ A5 c5, u = .slice A5 (m4 + 1) c5 ∧ SL b v w' c A len cap x B A1 n c1 wk cp gs A5 (m4 + 1) c5 (rs ++ [r]) := by
  obtain ⟨A5, c5, rfl, _⟩ := own_form ho
  obtain ⟨i, hh, hi, hblk⟩ := S.cur.at_
  have h1 := S.bc
  have gx' : v.grownBy w' (some c) := grown_row S.gx gr (fun g hg => own_ge S.lst g hg)
  have bel' := S.vb.grown gx' S.vb.size (fun k hk => by simp at hk; omega)
  exact ⟨A5, c5, rfl, S.came, S.bc, S.cx, S.cB, S.cv, S.vb, S.kg, S.n0, gx', ⟨⟨i, hh, hi, hblk.grown gr (Ne.symm (own_type S.lst hblk (by decide)))⟩, S.came.bytes bel' (by omega)⟩, S.kx.grown gr (Ne.symm (own_type S.lst S.kx (by decide))), ho⟩
theorem SL.out_ (S : SL b v wx c A len cap x B A1 n c1 wk cp gs A4 m4 c4 rs) : SA b wx c A len cap x B #[.slice none 0 0, .int .i64 0, .int .i64 0] A1 n c1 wk cp gs A4 m4 c4 rs none 0 0 [] :=
  ⟨S.came, S.bc, S.cx, S.cB, S.cur, S.bel, S.kg.grown S.gx (by have := S.bc; simp; omega), S.kx, own_base S.lst S.vb.size, ⟨by simp [ceCells], .inl ⟨rfl, rfl⟩⟩, S.n0.grown S.gx S.cB⟩

set_option maxRecDepth 100000 in
set_option maxHeartbeats 8000000 in
theorem drawAll_any (w : World) (A : Option Addr) (len cap : Nat) (hlen : len ≤ 2097152) (hcame : Came w A len) :
    Calls Try.prog 15 #[.slice A len cap] w (AllDraw w) := by
  have HC := Lib.hid hcame
  clear hcame
  obtain ⟨W, hW⟩ : ∃ z, w.alloc (.cells #[.slice none 0 0, .int .i64 0, .int .i64 0] 26) = z := ⟨_, rfl⟩
  have bW : Below w.heap.size w W := by rw [← hW]; exact (Below.refl _ _).alloc (Nat.le_refl _) _
  have NG := Lib.hid (show Blk W w.heap.size 26 #[.slice none 0 0, .int .i64 0, .int .i64 0] by rw [← hW]; exact Blk.new _ _ _)
  go_enter Try.func15, Try.ntmps15
  go_wp2_with fail
  clear hW
  refine (new_any W A len cap hlen (HC.out.below bW)).mono ?_
  rintro e w1 ⟨c, rfl, hcw, hcur, hb1⟩
  have hcl := hcur.lt
  have hld := NG.out.lt
  have CU := Lib.hid hcur
  have BW := Lib.hid (below_chain bW hb1)
  have NG1 := Lib.hid (NG.out.below hb1)
  clear hcur hb1 bW NG
  go_wp2_with fail
  refine (graphGa_draw w1 c A len cap hlen CU.out).mono ?_
  rintro e w2 ⟨A1, n, c1, wk, cp, gs, h9, hgl, hgo, rfl, hF, hc2, g2⟩
  have HL := Lib.hid hgl
  have HO := Lib.hid hgo
  have sz2 := g2.size
  obtain ⟨B, hB⟩ : ∃ q, q = w1.heap.size := ⟨_, rfl⟩
  rw [← hB] at hF
  obtain ⟨x, hx⟩ : ∃ x, w2.heap.size = x := ⟨_, rfl⟩
  obtain ⟨U, hU⟩ : ∃ z, (w2.alloc (.cells #[.slice A1 n c1, .int .i64 wk, .int .i64 cp] 26)).alloc (.cells #[] 31) = z := ⟨_, rfl⟩
  have hb : Below w2.heap.size w2 U := by rw [← hU]; exact ((Below.refl _ _).alloc (Nat.le_refl _) _).alloc (by simp) _
  have kx : Blk U x 26 #[.slice A1 n c1, .int .i64 wk, .int .i64 cp] := by rw [← hU, ← hx]; exact ((Below.heap_alloc _ _ _ (by first | (simp; done) | (simp; omega))).trans (Blk.new _ _ _))
  have kl : U.ownsRow w2.heap.size 31 5 (.slice (some ⟨x + 1, 0, none⟩) 0 0) 0 (rcCells []) := by
    rw [← hU, ← hx]
    have h := World.ownsRow_lit (base := w2.heap.size) (e := 31) (size := 5) (w2.alloc (.cells #[.slice A1 n c1, .int .i64 wk, .int .i64 cp] 26)) #[] 0 (by simp) (by decide) (by rfl)
    rw [World.size_alloc] at h
    exact h
  have S1 := Lib.hid (show SL w w2 U c A len cap x B A1 n c1 wk cp gs (some ⟨x + 1, 0, none⟩) 0 0 [] from
    ⟨HC.out, by omega, by omega, by omega, by omega, BW.out.grown g2 BW.out.size (fun k hk => by simp at hk; omega), NG1.out.grown g2 (by simp; omega), hF, grown_below (grown_refl w2 (some c)) hb, hc2.belowD hb, kx, kl⟩)
  clear hgl hgo hc2 g2 hF hb kx kl HC CU BW NG1 hB
  go_wp2_with fail
  clear hU hx
  go_loopw [8, 9] (fun t i wr => ∃ (j : Nat) (A4 : Option Addr) (m4 c4 : Nat) (rs : List Rc), i = .int .i64 (j : Int) ∧ j ≤ 3 ∧ t = .slice A4 m4 c4 ∧ rs.length = m4 ∧ m4 ≤ j ∧ SL w w2 wr c A len cap x B A1 n c1 wk cp gs A4 m4 c4 rs) (fun _ i _ => 4 - (intOf i).toNat)
  case atStart => exact ⟨0, _, 0, 0, [], rfl, by omega, rfl, rfl, by omega, S1.out⟩
  case round =>
    obtain ⟨j, A4, m4, c4, rs, rfl, hj, rfl, hr, hm, hS⟩ := hrel
    have SR := Lib.hid hS
    have HR := Lib.hid hr
    clear hS hr S1
    go_wp2_with fail
    refine (below_any 4 (by omega) (by omega) wr c A len cap hlen SR.out.cur).mono ?_
    rintro e wq ⟨y, hy, rfl, hcq, gq⟩
    have SX := Lib.hid (SR.out.draw hcq gq)
    clear hcq gq SR
    by_cases hlt : j < y
    · have i1 : (j : Int) < (y : Int) := by omega
      have k0 : wq.cell? ⟨x, 0, none⟩ = some (.slice A1 n c1) := by rw [SX.out.kx.cell]; rfl
      have k1 : wq.cell? ⟨x, 1, none⟩ = some (.int .i64 wk) := by rw [SX.out.kx.cell]; rfl
      have k2 : wq.cell? ⟨x, 2, none⟩ = some (.int .i64 cp) := by rw [SX.out.kx.cell]; rfl
      go_wp2_with fail
      clear k0 k1 k2
      refine (rec10_draw A1 n c1 wk cp (by omega) wq c A len cap hlen SX.out.cur).mono ?_
      rintro e v1 ⟨p0, p1, p2, p3, p4, rfl, hcn, gn⟩
      have SY := Lib.hid (SX.out.draw hcn gn)
      clear hcn gn SX
      obtain ⟨V, hV⟩ : ∃ z, v1.alloc (.cells #[.int .i64 p0, .int .i64 p1, .int .i64 p2, .int .i64 p3, .int .i64 p4] 31) = z := ⟨_, rfl⟩
      have NR := Lib.hid (show Rcs V (some ⟨v1.heap.size, 0, none⟩) [(p0, (p1, p2), p3, p4)] by rw [← hV]; exact rc_new _ _ _ _ _ _)
      have SZ := Lib.hid (show SL w w2 V c A len cap x B A1 n c1 wk cp gs A4 m4 c4 rs by rw [← hV]; exact SY.out.fresh ((Below.refl _ _).alloc (Nat.le_refl _) _))
      clear SY
      go_wp2_with (at_builtin; refine wpList_append_rc rfl (.tmp 21) (.tmp 25) (by rfl) w2.heap.size (.slice A4 m4 c4) m4 rs (by rfl) SZ.out.lst (some ⟨v1.heap.size, 0, none⟩) 1 1 [(p0, (p1, p2), p3, p4)] (by rfl) (fun h => by cases h) rfl NR.out (by omega) SZ.out.gx.size ?_; intro vn w9 own gr; generalize hG : wpList _ _ _ _ _ _ = GG)
      obtain ⟨A5, c5, rfl, hS9⟩ := SZ.out.app own gr
      have S9 := Lib.hid hS9
      clear own gr hS9 SZ NR hV
      subst hG
      go_wp2
      go_roundw
      case rel => first | exact ⟨j + 1, A5, m4 + 1, c5, rs ++ [(p0, (p1, p2), p3, p4)], by go_num, by omega, rfl, by rw [List.length_append, HR.out]; rfl, by omega, S9.out⟩ | ((repeat apply Exists.intro); refine ⟨?_, rfl⟩; exact ⟨j + 1, A5, m4 + 1, c5, rs ++ [(p0, (p1, p2), p3, p4)], by go_num, by omega, rfl, by rw [List.length_append, HR.out]; rfl, by omega, S9.out⟩)
      case measure => simp [intOf]; omega
    · have dl : decide ((j : Int) < (y : Int)) = false := by simp; omega
      have SQ := Lib.hid SX.out.out_
      clear SX
      obtain ⟨V9, hV⟩ : ∃ v, wq.drew = v := ⟨_, rfl⟩
      have SV := Lib.hid (show SA w V9 c A len cap x B #[.slice none 0 0, .int .i64 0, .int .i64 0] A1 n c1 wk cp gs A4 m4 c4 rs none 0 0 [] by rw [← hV]; exact SQ.out.fresh ((Below.refl _ _).drew))
      clear SQ
      go_wp2_with fail
      refine wp_region_held_drew (S := (fun W' => Blk W' x 26 #[.slice A1 n c1, .int .i64 wk, .int .i64 cp])) (by kernel_rfl) ?_ (fun hHeld => ?_)
      · rw [hV]; exact SV.out.kx
      change wpAnyH _ _ opsD9 _ _ 12 (#[false, false, false, false, false, false, false, false, false, false, false, false] : Array Bool) _ _
      rw [hV] at hHeld ⊢
      clear hV
      refine regY tD9_e_0 (.agg #[.slice A1 n c1, .int .i64 wk, .int .i64 cp]) (fun W hSw => by unfold qD9_0; (have h0 : W.cell? ⟨x, 0, none⟩ = some (.slice A1 n c1) := by rw [Blk.cell hSw]; rfl); (have h1 : W.cell? ⟨x, 1, none⟩ = some (.int .i64 wk) := by rw [Blk.cell hSw]; rfl); (have h2 : W.cell? ⟨x, 2, none⟩ = some (.int .i64 cp) := by rw [Blk.cell hSw]; rfl); go_simp) hHeld ?_
      try simp only [pt, List.set]
      refine regY tD9_0_1 (.pointer (some ⟨c, 0, none⟩)) (fun W hSw => by unfold qD9_1; go_simp) hHeld ?_
      try simp only [pt, List.set]
      refine regY tD9_01_2 (.agg #[.slice A1 n c1, .int .i64 wk, .int .i64 cp]) (fun W hSw => by unfold qD9_2; (have h0 : W.cell? ⟨x, 0, none⟩ = some (.slice A1 n c1) := by rw [Blk.cell hSw]; rfl); (have h1 : W.cell? ⟨x, 1, none⟩ = some (.int .i64 wk) := by rw [Blk.cell hSw]; rfl); (have h2 : W.cell? ⟨x, 2, none⟩ = some (.int .i64 cp) := by rw [Blk.cell hSw]; rfl); go_simp) hHeld ?_
      try simp only [pt, List.set]
      refine regY tD9_012_4 (.slice A4 m4 c4) (fun W hSw => by unfold qD9_4; go_simp) hHeld ?_
      try simp only [pt, List.set]
      refine regY tD9_0124_5 (.pointer (some ⟨c, 0, none⟩)) (fun W hSw => by unfold qD9_5; go_simp) hHeld ?_
      try simp only [pt, List.set]
      refine cD9_01245_36 (fun K hK => ?_) (fun K hK => ?_)
      · rw [if_pos (by rfl)]
        unfold qD9_3
        go_simp
        refine (cells10_draw gs wk cp A1 n c1 HL.out (fun y hy => Nat.le_trans (HO.out y hy) (by omega)) (by omega) V9 B c SV.out.cB A len cap hlen SV.out.cur SV.out.nds).mono ?_
        rintro e y1 ⟨A3, m3, c3, zs, h6, hz, rfl, hrow, hcn, gn⟩
        have HZ := Lib.hid hz
        have Ty1 := Lib.hid (SV.out.cells hcn gn hrow)
        clear hz hrow hcn gn
        refine Shut.out hK _ _ ?_ (fun hHeld => ?_)
        · exact Ty1.out.kx
        clear hK K
        try simp only [pt, List.set]
        refine cD9_012345_6 (fun K hK => ?_)
        rw [if_pos (by rfl)]
        unfold qD9_6
        go_simp
        generalize hV : World.alloc _ _ = y2
        have hbv : Below y1.heap.size y1 y2 := by rw [← hV]; exact (Below.refl _ _).alloc (Nat.le_refl _) _
        have Py2 := Lib.hid (show Blk y2 y1.heap.size 3 (([300, 300, 10, 1, 0, -1] : List Int).map fun n => Value.int .i64 n).toArray by rw [← hV]; exact Blk.new _ _ _)
        have hlc := Ty1.out.cur.lt
        have Ty2 := Lib.hid (Ty1.out.fresh hbv)
        clear hbv hV
        refine Shut.out hK _ _ ?_ (fun hHeld => ?_)
        · exact Ty2.out.kx
        clear hK K
        try simp only [pt, List.set]
        refine cD9_0123456_7 (fun K hK => ?_)
        rw [if_pos (by rfl)]
        unfold qD9_7
        go_simp
        refine (pickInt_any y2 c y1.heap.size A len cap 6 [300, 300, 10, 1, 0, -1] rfl (by omega) (by omega) hlen Ty2.out.cur (by omega) Py2.out).mono ?_
        rintro e y3 ⟨mo, hmo, rfl, hcn, gn⟩
        have Ty3 := Lib.hid (Ty2.out.draw hcn gn)
        clear hcn gn hmo
        refine Shut.out hK _ _ ?_ (fun hHeld => ?_)
        · exact Ty3.out.kx
        clear hK K
        try simp only [pt, List.set]
        refine cD9_01234567_8 (fun K hK => ?_)
        rw [if_pos (by rfl)]
        unfold qD9_8
        have l0 : y3.cell? ⟨w.heap.size, 0, none⟩ = some (.slice none 0 0) := by rw [Ty3.out.kg.cell]; rfl
        have l1 : y3.cell? ⟨w.heap.size, 1, none⟩ = some (.int .i64 0) := by rw [Ty3.out.kg.cell]; rfl
        have l2 : y3.cell? ⟨w.heap.size, 2, none⟩ = some (.int .i64 0) := by rw [Ty3.out.kg.cell]; rfl
        have lf0 := Ty3.out.kg.frozen 0
        have lf1 := Ty3.out.kg.frozen 1
        have lf2 := Ty3.out.kg.frozen 2
        go_simp
        clear l0 lf0 l1 lf1 l2 lf2
        generalize hV : ((World.setCell y3 _ _).setCell _ _).setCell _ _ = y4
        have Ty4 := Lib.hid (show SA w y4 c A len cap x B #[.slice A1 n c1, .int .i64 wk, .int .i64 cp] A1 n c1 wk cp gs A4 m4 c4 rs A3 m3 c3 zs by rw [← hV]; exact ((Ty3.out.setg 0 _).setg 1 _).setg 2 _)
        clear hV
        refine Shut.out hK _ _ ?_ (fun hHeld => ?_)
        · exact Ty4.out.kx
        clear hK K
        try simp only [pn]
        refine regY tD9_012345678_9 (.slice A3 m3 c3) (fun W hSw => by unfold qD9_9; go_simp) hHeld ?_
        try simp only [pt, List.set]
        refine regY tD9_0123456789_10 (.slice A4 m4 c4) (fun W hSw => by unfold qD9_10; go_simp) hHeld ?_
        try simp only [pt, List.set]
        refine regY tD9_0123456789_10_11 (.int .i64 mo) (fun W hSw => by unfold qD9_11; go_simp) hHeld ?_
        try simp only [pt, List.set]
        refine wpAnyH_done (by kernel_rfl) ?_ _
        clear hHeld
        have e0 : y4.cell? ⟨w.heap.size, 0, none⟩ = some (.slice A1 n c1) := by rw [Ty4.out.kg.cell]; rfl
        have e1 : y4.cell? ⟨w.heap.size, 1, none⟩ = some (.int .i64 wk) := by rw [Ty4.out.kg.cell]; rfl
        have e2 : y4.cell? ⟨w.heap.size, 2, none⟩ = some (.int .i64 cp) := by rw [Ty4.out.kg.cell]; rfl
        go_wp2_with fail
        exact bodyPost_ret (v := .tuple #[.agg #[.slice A1 n c1, .int .i64 wk, .int .i64 cp], .slice A3 m3 c3, .slice A4 m4 c4, .int .i64 mo]) (by simp [results, Try.results15, go_sem, e0, e1, e2]) rfl ⟨A1, n, c1, wk, cp, gs, A3, m3, c3, zs, A4, m4, c4, rs, mo, h9, HL.out, HO.out, h6, HZ.out, by omega, HR.out, rfl, Ty4.out.nds.nds, Ty4.out.row, Ty4.out.lst, Ty4.out.bel⟩
      · rw [if_pos (by rfl)]
        unfold qD9_6
        go_simp
        generalize hV : World.alloc _ _ = y5
        have hbv : Below V9.heap.size V9 y5 := by rw [← hV]; exact (Below.refl _ _).alloc (Nat.le_refl _) _
        have Py5 := Lib.hid (show Blk y5 V9.heap.size 3 (([300, 300, 10, 1, 0, -1] : List Int).map fun n => Value.int .i64 n).toArray by rw [← hV]; exact Blk.new _ _ _)
        have hlc := SV.out.cur.lt
        have Ty5 := Lib.hid (SV.out.fresh hbv)
        clear hbv hV
        refine Shut.out hK _ _ ?_ (fun hHeld => ?_)
        · exact Ty5.out.kx
        clear hK K
        try simp only [pt, List.set]
        refine cD9_012456_3 (fun K hK => ?_)
        rw [if_pos (by rfl)]
        unfold qD9_3
        go_simp
        refine (cells10_draw gs wk cp A1 n c1 HL.out (fun y hy => Nat.le_trans (HO.out y hy) (by omega)) (by omega) y5 B c Ty5.out.cB A len cap hlen Ty5.out.cur Ty5.out.nds).mono ?_
        rintro e y6 ⟨A3, m3, c3, zs, h6, hz, rfl, hrow, hcn, gn⟩
        have HZ := Lib.hid hz
        have Ty6 := Lib.hid (Ty5.out.cells hcn gn hrow)
        have Py6 := Lib.hid (Py5.out.grown gn (by simp; omega))
        clear hz hrow hcn gn
        refine Shut.out hK _ _ ?_ (fun hHeld => ?_)
        · exact Ty6.out.kx
        clear hK K
        try simp only [pt, List.set]
        refine cD9_0123456_7 (fun K hK => ?_)
        rw [if_pos (by rfl)]
        unfold qD9_7
        go_simp
        refine (pickInt_any y6 c V9.heap.size A len cap 6 [300, 300, 10, 1, 0, -1] rfl (by omega) (by omega) hlen Ty6.out.cur (by omega) Py6.out).mono ?_
        rintro e y7 ⟨mo, hmo, rfl, hcn, gn⟩
        have Ty7 := Lib.hid (Ty6.out.draw hcn gn)
        clear hcn gn hmo
        refine Shut.out hK _ _ ?_ (fun hHeld => ?_)
        · exact Ty7.out.kx
        clear hK K
        try simp only [pt, List.set]
        refine cD9_01234567_8 (fun K hK => ?_)
        rw [if_pos (by rfl)]
        unfold qD9_8
        have l0 : y7.cell? ⟨w.heap.size, 0, none⟩ = some (.slice none 0 0) := by rw [Ty7.out.kg.cell]; rfl
        have l1 : y7.cell? ⟨w.heap.size, 1, none⟩ = some (.int .i64 0) := by rw [Ty7.out.kg.cell]; rfl
        have l2 : y7.cell? ⟨w.heap.size, 2, none⟩ = some (.int .i64 0) := by rw [Ty7.out.kg.cell]; rfl
        have lf0 := Ty7.out.kg.frozen 0
        have lf1 := Ty7.out.kg.frozen 1
        have lf2 := Ty7.out.kg.frozen 2
        go_simp
        clear l0 lf0 l1 lf1 l2 lf2
        generalize hV : ((World.setCell y7 _ _).setCell _ _).setCell _ _ = y8
        have Ty8 := Lib.hid (show SA w y8 c A len cap x B #[.slice A1 n c1, .int .i64 wk, .int .i64 cp] A1 n c1 wk cp gs A4 m4 c4 rs A3 m3 c3 zs by rw [← hV]; exact ((Ty7.out.setg 0 _).setg 1 _).setg 2 _)
        clear hV
        refine Shut.out hK _ _ ?_ (fun hHeld => ?_)
        · exact Ty8.out.kx
        clear hK K
        try simp only [pn]
        refine regY tD9_012345678_9 (.slice A3 m3 c3) (fun W hSw => by unfold qD9_9; go_simp) hHeld ?_
        try simp only [pt, List.set]
        refine regY tD9_0123456789_10 (.slice A4 m4 c4) (fun W hSw => by unfold qD9_10; go_simp) hHeld ?_
        try simp only [pt, List.set]
        refine regY tD9_0123456789_10_11 (.int .i64 mo) (fun W hSw => by unfold qD9_11; go_simp) hHeld ?_
        try simp only [pt, List.set]
        refine wpAnyH_done (by kernel_rfl) ?_ _
        clear hHeld
        have e0 : y8.cell? ⟨w.heap.size, 0, none⟩ = some (.slice A1 n c1) := by rw [Ty8.out.kg.cell]; rfl
        have e1 : y8.cell? ⟨w.heap.size, 1, none⟩ = some (.int .i64 wk) := by rw [Ty8.out.kg.cell]; rfl
        have e2 : y8.cell? ⟨w.heap.size, 2, none⟩ = some (.int .i64 cp) := by rw [Ty8.out.kg.cell]; rfl
        go_wp2_with fail
        exact bodyPost_ret (v := .tuple #[.agg #[.slice A1 n c1, .int .i64 wk, .int .i64 cp], .slice A3 m3 c3, .slice A4 m4 c4, .int .i64 mo]) (by simp [results, Try.results15, go_sem, e0, e1, e2]) rfl ⟨A1, n, c1, wk, cp, gs, A3, m3, c3, zs, A4, m4, c4, rs, mo, h9, HL.out, HO.out, h6, HZ.out, by omega, HR.out, rfl, Ty8.out.nds.nds, Ty8.out.row, Ty8.out.lst, Ty8.out.bel⟩
end Go.Proofs.Ytlanmkimaambgaa.hexes

