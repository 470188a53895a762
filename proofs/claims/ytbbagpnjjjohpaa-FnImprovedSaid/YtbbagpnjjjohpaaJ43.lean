/-
  What Improve is drawn: the contract of spec.DrawImprove.
-/
import Derived.Test.YtbbagpnjjjohpaaJ41
import Derived.Test.YtbbagpnjjjohpaaJ21
import Derived.Test.YtbbagpnjjjohpaaJ42

namespace Go.Proofs.Ytbbagpnjjjohpaa.hexes
open Go.RowKit

/-- How the draw of a graph, cells and a cell ends. -/
def ImDraw (w : World) (e : Ending) (w' : World) : Prop := ∃ (A1 : Option Addr) (n c1 : Nat) (wk cp : Int) (gs : List Nd) (A4 : Option Addr) (m4 c4 : Nat) (zs : List Ce) (x0 x1 x2 x3 : Int), CeR x1 x2 x3 ∧ n ≤ 9 ∧ gs.length = n ∧ (∀ x ∈ gs, x.2.2.2.length ≤ 4) ∧ m4 ≤ 6 ∧ zs.length = m4 ∧ (A4 = none → c4 = 0) ∧ m4 ≤ c4 ∧ e = .returned (.tuple #[.agg #[.slice A1 n c1, .int .i64 wk, .int .i64 cp], .slice A4 m4 c4, .agg #[.int .i64 x0, .int .i64 x1, .int .i64 x2, .int .i64 x3]]) ∧ Nds w' A1 gs ∧ Ces w' A4 zs ∧ Below w.heap.size w w'
/-- The draw's state: the results' blocks, the cursor, the graph's variable, the cells. -/
structure IM11 (b wx : World) (c : Nat) (A : Option Addr) (len cap x B : Nat) (G X : Array Value) (A1 : Option Addr) (n c1 : Nat) (wk cp : Int) (gs : List Nd) (A4 : Option Addr) (m4 c4 : Nat) (zs : List Ce) : Prop where
  came : Came b A len
  bc : b.heap.size + 2 ≤ c
  cx : c < x
  cB : c < B
  cur : Cursor wx c A len cap
  bel : Below b.heap.size b wx
  kg : Blk wx b.heap.size 26 G
  kr : Blk wx (b.heap.size + 1) 38 X
  kx : Blk wx x 26 #[.slice A1 n c1, .int .i64 wk, .int .i64 cp]
  nds : NdsF B wx A1 gs
  lst : Wce wx (b.heap.size + 2) wx.heap.size A4 m4 c4 zs
variable {b wx w' : World} {c : Nat} {A : Option Addr} {len cap x B : Nat} {G X : Array Value} {A1 : Option Addr} {n c1 : Nat} {wk cp : Int} {gs : List Nd} {A4 : Option Addr} {m4 c4 : Nat} {zs : List Ce}
theorem Wce.keptG {w w' : World} {lo hi n c g : Nat} {A : Option Addr} {zs : List Ce} (h : Wce w lo hi A n c zs) (gr : w.grownBy w' (some g)) (hg : g < lo) : Wce w' lo hi A n c zs :=
  ⟨h.1, h.2.1, h.2.2.imp id fun ⟨g2, k2, pre, h1, h2, h3, h4⟩ => ⟨g2, k2, pre, h1, h2, h3, h4.kept gr (.inr (fun e => by have := own_ge h4 g (by rw [← e]); omega))⟩⟩
theorem IM11.draw (S : IM11 b wx c A len cap x B G X A1 n c1 wk cp gs A4 m4 c4 zs) (hc : Cursor w' c A len cap) (g : wx.grownBy w' (some c)) : IM11 b w' c A len cap x B G X A1 n c1 wk cp gs A4 m4 c4 zs := by
  have h1 := S.bc
  have h2 := S.cx
  obtain ⟨i, hh, hi, hblk⟩ := S.cur.at_
  exact ⟨S.came, S.bc, S.cx, S.cB, hc, S.bel.grown g S.bel.size (fun k hk => by simp at hk; omega), S.kg.grown g (by simp; omega), S.kr.grown g (by simp; omega), S.kx.grown g (by simp; omega), S.nds.grown g S.cB, (S.lst.beside hblk g (by decide)).bounds (Nat.le_refl _) g.size⟩
theorem IM11.fresh (S : IM11 b wx c A len cap x B G X A1 n c1 wk cp gs A4 m4 c4 zs) (hb : Below wx.heap.size wx w') : IM11 b w' c A len cap x B G X A1 n c1 wk cp gs A4 m4 c4 zs :=
  ⟨S.came, S.bc, S.cx, S.cB, S.cur.belowD hb, below_chain S.bel hb, S.kg.below hb, S.kr.below hb, S.kx.below hb, S.nds.below hb, (S.lst.below hb).bounds (Nat.le_refl _) hb.size⟩
theorem IM11.list (S : IM11 b wx c A len cap x B G X A1 n c1 wk cp gs A4 m4 c4 zs) {A5 : Option Addr} {m5 c5 lo hi : Nat} {ys : List Ce} (h : Wce wx lo hi A5 m5 c5 ys) (hl : b.heap.size + 2 ≤ lo) (hh : hi ≤ wx.heap.size) : IM11 b wx c A len cap x B G X A1 n c1 wk cp gs A5 m5 c5 ys := ⟨S.came, S.bc, S.cx, S.cB, S.cur, S.bel, S.kg, S.kr, S.kx, S.nds, h.bounds hl hh⟩
theorem IM11.setg (S : IM11 b wx c A len cap x B G X A1 n c1 wk cp gs A4 m4 c4 zs) (i : Nat) (u : Value) : IM11 b (wx.setCell ⟨b.heap.size, i, none⟩ u) c A len cap x B (G.setIfInBounds i u) X A1 n c1 wk cp gs A4 m4 c4 zs := by
  have h1 := S.bc
  have h2 := S.cx
  have h3 := S.cB
  have gs' : wx.grownBy (wx.setCell ⟨b.heap.size, i, none⟩ u) (some b.heap.size) := grown_set wx ⟨b.heap.size, i, none⟩ u
  obtain ⟨j, hh, hi, hblk⟩ := S.cur.at_
  have bel' := S.bel.setCell (p := ⟨b.heap.size, i, none⟩) (Nat.le_refl _) u
  exact ⟨S.came, S.bc, S.cx, S.cB, ⟨⟨j, hh, hi, hblk.grown gs' (by simp; omega)⟩, S.came.bytes bel' (by omega)⟩, bel', S.kg.put i u, S.kr.grown gs' (by simp), S.kx.other (by simp; omega) u, S.nds.grown gs' (by omega), (S.lst.keptG gs' (by omega)).bounds (Nat.le_refl _) gs'.size⟩
theorem IM11.setr (S : IM11 b wx c A len cap x B G X A1 n c1 wk cp gs A4 m4 c4 zs) (i : Nat) (u : Value) : IM11 b (wx.setCell ⟨b.heap.size + 1, i, none⟩ u) c A len cap x B G (X.setIfInBounds i u) A1 n c1 wk cp gs A4 m4 c4 zs := by
  have h1 := S.bc
  have h2 := S.cx
  have h3 := S.cB
  have gs' : wx.grownBy (wx.setCell ⟨b.heap.size + 1, i, none⟩ u) (some (b.heap.size + 1)) := grown_set wx ⟨b.heap.size + 1, i, none⟩ u
  obtain ⟨j, hh, hi, hblk⟩ := S.cur.at_
  have bel' := S.bel.setCell (p := ⟨b.heap.size + 1, i, none⟩) (by simp) u
  exact ⟨S.came, S.bc, S.cx, S.cB, ⟨⟨j, hh, hi, hblk.grown gs' (by simp; omega)⟩, S.came.bytes bel' (by omega)⟩, bel', S.kg.grown gs' (by simp), S.kr.put i u, S.kx.other (by simp; omega) u, S.nds.grown gs' (by omega), (S.lst.keptG gs' (by omega)).bounds (Nat.le_refl _) gs'.size⟩
/-- The list begins. -/
theorem PC11.im (S : PC11 b wx c A len cap x B A1 n c1 wk cp gs) (h2 : b.heap.size + 2 ≤ c) (kr : Blk wx (b.heap.size + 1) 38 X) {A4 : Option Addr} : IM11 b wx c A len cap x B #[.slice none 0 0, .int .i64 0, .int .i64 0] X A1 n c1 wk cp gs A4 0 0 [] := ⟨S.came, h2, S.cx, S.cB, S.cur, S.bel, S.kg, kr, S.kx, S.nds, Wce.empty _ _ _ _⟩

set_option maxRecDepth 100000 in
set_option maxHeartbeats 16000000 in
theorem drawIm_any (w : World) (A : Option Addr) (len cap : Nat) (hlen : len ≤ 2097152) (hcame : Came w A len) :
    Calls Try.prog 20 #[.slice A len cap] w (ImDraw w) := by
  have HC := Lib.hid hcame
  clear hcame
  obtain ⟨W, hW⟩ : ∃ z, (w.alloc (.cells #[.slice none 0 0, .int .i64 0, .int .i64 0] 26)).alloc (.cells #[.int .i64 0, .int .i64 0, .int .i64 0, .int .i64 0] 38) = z := ⟨_, rfl⟩
  have zW : W.heap.size = w.heap.size + 2 := by rw [← hW]; simp
  have bW : Below w.heap.size w W := by rw [← hW]; exact ((Below.refl _ _).alloc (Nat.le_refl _) _).alloc (by simp) _
  have NG := Lib.hid (show Blk W w.heap.size 26 #[.slice none 0 0, .int .i64 0, .int .i64 0] by rw [← hW]; exact ((Below.heap_alloc _ _ _ (by simp)).trans (Blk.new _ _ _)))
  have NR := Lib.hid (show Blk W (w.heap.size + 1) 38 #[.int .i64 0, .int .i64 0, .int .i64 0, .int .i64 0] by rw [← hW]; exact ((show w.heap.size + 1 = ((w.alloc (.cells #[.slice none 0 0, .int .i64 0, .int .i64 0] 26)).heap.size) by simp) ▸ Blk.new _ _ _))
  go_enter Try.func20, Try.ntmps20
  go_wp2_with fail
  clear hW
  refine (new_any W A len cap hlen (HC.out.below bW)).mono ?_
  rintro e w1 ⟨c, rfl, hcw, hcur, hb1⟩
  have hcl := hcur.lt
  have hld := NG.out.lt
  have CU := Lib.hid hcur
  have BW := Lib.hid (below_chain bW hb1)
  have NG1 := Lib.hid (NG.out.below hb1)
  have NR1 := Lib.hid (NR.out.below hb1)
  clear hcur hb1 bW NG NR
  go_wp2_with fail
  refine (graphGa_draw w1 c A len cap hlen CU.out).mono ?_
  rintro e w2 ⟨A1, n, c1, wk, cp, gs, h9, hgl, hgo, rfl, hF, hc2, g2⟩
  have HL := Lib.hid hgl
  have HO := Lib.hid hgo
  have sz2 := g2.size
  obtain ⟨x, hx⟩ : ∃ x, w2.heap.size = x := ⟨_, rfl⟩
  obtain ⟨U, hU⟩ : ∃ z, w2.alloc (.cells #[.slice A1 n c1, .int .i64 wk, .int .i64 cp] 26) = z := ⟨_, rfl⟩
  have hb : Below w2.heap.size w2 U := by rw [← hU]; exact (Below.refl _ _).alloc (Nat.le_refl _) _
  have kx : Blk U x 26 #[.slice A1 n c1, .int .i64 wk, .int .i64 cp] := by rw [← hU, ← hx]; exact Blk.new _ _ _
  have S1 := Lib.hid (show PC11 w U c A len cap x w1.heap.size A1 n c1 wk cp gs from
    ⟨HC.out, by omega, by omega, hcl, hc2.belowD hb, below_chain (BW.out.grown g2 BW.out.size (fun k hk => by simp at hk; omega)) hb, (NG1.out.grown g2 (by simp; omega)).below hb, kx, hF.below hb⟩)
  have NR2 := Lib.hid ((NR1.out.grown g2 (by simp; omega)).below hb)
  clear hgl hgo hc2 g2 hF hb kx HC CU BW NG1 NR1
  go_upto_region 3 with fail
  clear hU hx
  go_wp2_with fail
  refine (once_any 10 (by omega) (by omega) U c A len cap hlen S1.out.cur).mono ?_
  rintro e w3 ⟨o1, rfl, hcn, gn⟩
  have S2 := Lib.hid (S1.out.draw hcn gn)
  have NR3 := Lib.hid (NR2.out.grown gn (by simp; omega))
  clear hcn gn S1 NR2
  cases o1 with
  | false =>
    have SI := Lib.hid (S2.out.im (A4 := some ⟨w3.heap.size, 0, none⟩) (by omega) NR3.out)
    clear S2 NR3
    obtain ⟨V, hV⟩ : ∃ z, w3.alloc (.cells #[] 38) = z := ⟨_, rfl⟩
    have hbV : Below w3.heap.size w3 V := by rw [← hV]; exact (Below.refl _ _).alloc (Nat.le_refl _) _
    have L0 := Lib.hid (show IM11 w V c A len cap x w1.heap.size #[.slice none 0 0, .int .i64 0, .int .i64 0] #[.int .i64 0, .int .i64 0, .int .i64 0, .int .i64 0] A1 n c1 wk cp gs (some ⟨w3.heap.size, 0, none⟩) 0 0 [] from SI.out.fresh hbV)
    clear hbV SI
    go_wp2_with fail
    clear hV
    go_loopw [7, 8] (fun v i wr => ∃ (j : Nat) (A4 : Option Addr) (m4 c4 : Nat) (zs : List Ce), i = .int .i64 (j : Int) ∧ j ≤ 6 ∧ m4 ≤ j ∧ v = .slice A4 m4 c4 ∧ IM11 w wr c A len cap x w1.heap.size #[.slice none 0 0, .int .i64 0, .int .i64 0] #[.int .i64 0, .int .i64 0, .int .i64 0, .int .i64 0] A1 n c1 wk cp gs A4 m4 c4 zs) (fun _ i _ => 6 - (intOf i).toNat)
    case atStart => exact ⟨0, _, 0, 0, [], rfl, by omega, Nat.le_refl _, rfl, L0.out⟩
    case round =>
      obtain ⟨j, A4, m4, c4, zs, rfl, hj, hmj, rfl, hS⟩ := hrel
      have SR := Lib.hid hS
      clear hS L0
      go_wp2_with fail
      refine (below_any 6 (by omega) (by omega) wr c A len cap hlen SR.out.cur).mono ?_
      rintro e wb ⟨y, hy, rfl, hcn, gn⟩
      have SB := Lib.hid (SR.out.draw hcn gn)
      clear hcn gn SR
      by_cases hlt : j < y
      · have i1 : (j : Int) < (y : Int) := by omega
        have dl : decide ((j : Int) < (y : Int)) = true := by simp; omega
        obtain ⟨V9, hV⟩ : ∃ v, wb.drew = v := ⟨_, rfl⟩
        have SV := Lib.hid (show IM11 w V9 c A len cap x w1.heap.size #[.slice none 0 0, .int .i64 0, .int .i64 0] #[.int .i64 0, .int .i64 0, .int .i64 0, .int .i64 0] A1 n c1 wk cp gs A4 m4 c4 zs by rw [← hV]; exact SB.out.fresh ((Below.refl _ _).drew))
        clear SB
        go_wp2_with fail
        refine wp_region_held_drew (S := (fun W' => Blk W' x 26 #[.slice A1 n c1, .int .i64 wk, .int .i64 cp])) (by kernel_rfl) ?_ (fun hHeld => ?_)
        · rw [hV]; exact SV.out.kx
        change wpAnyH _ _ opsQ9 _ _ 10 (#[false, false, false, false, false, false, false, false, false, false] : Array Bool) _ _
        rw [hV] at hHeld ⊢
        clear hV
        refine regY tQ9_e_0 (.agg #[.slice A1 n c1, .int .i64 wk, .int .i64 cp]) (fun W hSw => by unfold qQ9_0; (have h0 : W.cell? ⟨x, 0, none⟩ = some (.slice A1 n c1) := by rw [Blk.cell hSw]; rfl); (have h1 : W.cell? ⟨x, 1, none⟩ = some (.int .i64 wk) := by rw [Blk.cell hSw]; rfl); (have h2 : W.cell? ⟨x, 2, none⟩ = some (.int .i64 cp) := by rw [Blk.cell hSw]; rfl); go_simp) hHeld ?_
        try simp only [pt, List.set]
        refine regY tQ9_0_1 (.slice A4 m4 c4) (fun W hSw => by unfold qQ9_1; go_simp) hHeld ?_
        try simp only [pt, List.set]
        refine regY tQ9_01_2 (.pointer (some ⟨c, 0, none⟩)) (fun W hSw => by unfold qQ9_2; go_simp) hHeld ?_
        try simp only [pt, List.set]
        refine regY tQ9_012_3 (.agg #[.slice A1 n c1, .int .i64 wk, .int .i64 cp]) (fun W hSw => by unfold qQ9_3; (have h0 : W.cell? ⟨x, 0, none⟩ = some (.slice A1 n c1) := by rw [Blk.cell hSw]; rfl); (have h1 : W.cell? ⟨x, 1, none⟩ = some (.int .i64 wk) := by rw [Blk.cell hSw]; rfl); (have h2 : W.cell? ⟨x, 2, none⟩ = some (.int .i64 cp) := by rw [Blk.cell hSw]; rfl); go_simp) hHeld ?_
        try simp only [pt, List.set]
        refine cQ9_0123_4 (fun K hK => ?_)
        rw [if_pos (by rfl)]
        unfold qQ9_4
        go_simp
        refine (cell11_draw A1 n c1 wk cp (by omega) V9 c A len cap hlen SV.out.cur).mono ?_
        rintro e V9c ⟨p0, p1, p2, p3, _, rfl, hcn, gn⟩
        have SVc := Lib.hid (SV.out.draw hcn gn)
        clear hcn gn
        refine Shut.out hK _ _ ?_ (fun hHeld => ?_)
        · exact SVc.out.kx
        clear hK K
        try simp only [pt, List.set]
        refine cQ9_01234_5 (fun K hK => ?_)
        rw [if_pos (by rfl)]
        unfold qQ9_5
        go_simp
        refine (specImp_any gs wk cp A1 n c1 HL.out (fun y hy => Nat.le_trans (HO.out y hy) (by omega)) (by omega) zs A4 m4 c4 SVc.out.lst.1 SVc.out.lst.nil SVc.out.lst.cap (by omega) p0 p1 p2 p3 V9c SVc.out.nds.nds SVc.out.lst.ce).mono ?_
        rintro e V9ci ⟨A5, c5, m5, A6, c6, m6, hm5, _, rfl, hn5, _, _, bq⟩
        have bz := SVc.out.bel.size
        have bc := SVc.out.bc
        have cz := SVc.out.cur.lt
        have SVci := Lib.hid ((SVc.out.fresh bq).list hn5 (by omega) (Nat.le_refl _))
        have L5 := Lib.hid (show m5 ≤ m4 + 1 by rw [← hm5, ← SVc.out.lst.1]; exact impG_best _ _ _ _ _)
        clear hm5 hn5 bq
        refine Shut.out hK _ _ ?_ (fun hHeld => ?_)
        · exact SVci.out.kx
        clear hK K
        try simp only [pt, List.set]
        refine regY tQ9_012345_6 (.tuple #[.slice A5 m5 c5, .slice A6 m6 c6]) (fun W hSw => by unfold qQ9_6; go_simp) hHeld ?_
        try simp only [pt, List.set]
        refine regY tQ9_0123456_7 (.slice A5 m5 c5) (fun W hSw => by unfold qQ9_7; go_simp) hHeld ?_
        try simp only [pt, List.set]
        refine regY tQ9_01234567_8 (.slice A6 m6 c6) (fun W hSw => by unfold qQ9_8; go_simp) hHeld ?_
        try simp only [pt, List.set]
        refine regY tQ9_012345678_9 (.slice A5 m5 c5) (fun W hSw => by unfold qQ9_9; go_simp) hHeld ?_
        try simp only [pt, List.set]
        refine wpAnyH_done (by kernel_rfl) ?_ _
        clear hHeld
        have l5 := L5.out
        clear L5
        go_wp2
        go_roundw
        case rel => first | exact ⟨j + 1, A5, m5, c5, _, by go_num, by omega, by omega, rfl, SVci.out⟩ | ((repeat apply Exists.intro); refine ⟨?_, rfl⟩; exact ⟨j + 1, A5, m5, c5, _, by go_num, by omega, by omega, rfl, SVci.out⟩)
        case measure => simp [intOf]; omega
      · have dl : decide ((j : Int) < (y : Int)) = false := by simp; omega
        obtain ⟨V9, hV⟩ : ∃ v, wb.drew = v := ⟨_, rfl⟩
        have SV := Lib.hid (show IM11 w V9 c A len cap x w1.heap.size #[.slice none 0 0, .int .i64 0, .int .i64 0] #[.int .i64 0, .int .i64 0, .int .i64 0, .int .i64 0] A1 n c1 wk cp gs A4 m4 c4 zs by rw [← hV]; exact SB.out.fresh ((Below.refl _ _).drew))
        clear SB
        go_wp2_with fail
        refine wp_region_held_drew (S := (fun W' => Blk W' x 26 #[.slice A1 n c1, .int .i64 wk, .int .i64 cp])) (by kernel_rfl) ?_ (fun hHeld => ?_)
        · rw [hV]; exact SV.out.kx
        change wpAnyH _ _ opsQ10 _ _ 8 (#[false, false, false, false, false, false, false, false] : Array Bool) _ _
        rw [hV] at hHeld ⊢
        clear hV
        refine regY tQ10_e_0 (.agg #[.slice A1 n c1, .int .i64 wk, .int .i64 cp]) (fun W hSw => by unfold qQ10_0; (have h0 : W.cell? ⟨x, 0, none⟩ = some (.slice A1 n c1) := by rw [Blk.cell hSw]; rfl); (have h1 : W.cell? ⟨x, 1, none⟩ = some (.int .i64 wk) := by rw [Blk.cell hSw]; rfl); (have h2 : W.cell? ⟨x, 2, none⟩ = some (.int .i64 cp) := by rw [Blk.cell hSw]; rfl); go_simp) hHeld ?_
        try simp only [pt, List.set]
        refine regY tQ10_0_1 (.slice A4 m4 c4) (fun W hSw => by unfold qQ10_1; go_simp) hHeld ?_
        try simp only [pt, List.set]
        refine regY tQ10_01_2 (.pointer (some ⟨c, 0, none⟩)) (fun W hSw => by unfold qQ10_2; go_simp) hHeld ?_
        try simp only [pt, List.set]
        refine regY tQ10_012_3 (.agg #[.slice A1 n c1, .int .i64 wk, .int .i64 cp]) (fun W hSw => by unfold qQ10_3; (have h0 : W.cell? ⟨x, 0, none⟩ = some (.slice A1 n c1) := by rw [Blk.cell hSw]; rfl); (have h1 : W.cell? ⟨x, 1, none⟩ = some (.int .i64 wk) := by rw [Blk.cell hSw]; rfl); (have h2 : W.cell? ⟨x, 2, none⟩ = some (.int .i64 cp) := by rw [Blk.cell hSw]; rfl); go_simp) hHeld ?_
        try simp only [pt, List.set]
        refine cQ10_0123_4 (fun K hK => ?_)
        rw [if_pos (by rfl)]
        unfold qQ10_4
        go_simp
        refine (cell11_draw A1 n c1 wk cp (by omega) V9 c A len cap hlen SV.out.cur).mono ?_
        rintro e V9c ⟨p0, p1, p2, p3, hR, rfl, hcn, gn⟩
        have RC := Lib.hid hR
        have SVc := Lib.hid (SV.out.draw hcn gn)
        clear hcn gn hR
        refine Shut.out hK _ _ ?_ (fun hHeld => ?_)
        · exact SVc.out.kx
        clear hK K
        try simp only [pt, List.set]
        refine cQ10_01234_5 (fun K hK => ?_)
        rw [if_pos (by rfl)]
        unfold qQ10_5
        have l0 : V9c.cell? ⟨w.heap.size, 0, none⟩ = some (.slice none 0 0) := by rw [SVc.out.kg.cell]; rfl
        have l1 : V9c.cell? ⟨w.heap.size, 1, none⟩ = some (.int .i64 0) := by rw [SVc.out.kg.cell]; rfl
        have l2 : V9c.cell? ⟨w.heap.size, 2, none⟩ = some (.int .i64 0) := by rw [SVc.out.kg.cell]; rfl
        have lf0 := SVc.out.kg.frozen 0
        have lf1 := SVc.out.kg.frozen 1
        have lf2 := SVc.out.kg.frozen 2
        go_simp
        clear l0 lf0 l1 lf1 l2 lf2
        generalize hV : ((V9c.setCell _ _).setCell _ _).setCell _ _ = V9cg
        have SVcg := Lib.hid (show IM11 w V9cg c A len cap x w1.heap.size #[.slice A1 n c1, .int .i64 wk, .int .i64 cp] #[.int .i64 0, .int .i64 0, .int .i64 0, .int .i64 0] A1 n c1 wk cp gs A4 m4 c4 zs by rw [← hV]; exact ((SVc.out.setg 0 _).setg 1 _).setg 2 _)
        clear hV
        refine Shut.out hK _ _ ?_ (fun hHeld => ?_)
        · exact SVcg.out.kx
        clear hK K
        try simp only [pn]
        refine regY tQ10_012345_6 (.slice A4 m4 c4) (fun W hSw => by unfold qQ10_6; go_simp) hHeld ?_
        try simp only [pt, List.set]
        refine cQ10_0123456_7 (fun K hK => ?_)
        rw [if_pos (by rfl)]
        unfold qQ10_7
        have l0 : V9cg.cell? ⟨w.heap.size + 1, 0, none⟩ = some (.int .i64 0) := by rw [SVcg.out.kr.cell]; rfl
        have l1 : V9cg.cell? ⟨w.heap.size + 1, 1, none⟩ = some (.int .i64 0) := by rw [SVcg.out.kr.cell]; rfl
        have l2 : V9cg.cell? ⟨w.heap.size + 1, 2, none⟩ = some (.int .i64 0) := by rw [SVcg.out.kr.cell]; rfl
        have l3 : V9cg.cell? ⟨w.heap.size + 1, 3, none⟩ = some (.int .i64 0) := by rw [SVcg.out.kr.cell]; rfl
        have lf0 := SVcg.out.kr.frozen 0
        have lf1 := SVcg.out.kr.frozen 1
        have lf2 := SVcg.out.kr.frozen 2
        have lf3 := SVcg.out.kr.frozen 3
        go_simp
        clear l0 lf0 l1 lf1 l2 lf2 l3 lf3
        generalize hV : (((V9cg.setCell _ _).setCell _ _).setCell _ _).setCell _ _ = V9cgx
        have SVcgx := Lib.hid (show IM11 w V9cgx c A len cap x w1.heap.size #[.slice A1 n c1, .int .i64 wk, .int .i64 cp] #[.int .i64 p0, .int .i64 p1, .int .i64 p2, .int .i64 p3] A1 n c1 wk cp gs A4 m4 c4 zs by rw [← hV]; exact (((SVcg.out.setr 0 _).setr 1 _).setr 2 _).setr 3 _)
        clear hV
        refine Shut.out hK _ _ ?_ (fun hHeld => ?_)
        · exact SVcgx.out.kx
        clear hK K
        try simp only [pn]
        refine wpAnyH_done (by kernel_rfl) ?_ _
        clear hHeld
        have e0 : V9cgx.cell? ⟨w.heap.size, 0, none⟩ = some (.slice A1 n c1) := by rw [SVcgx.out.kg.cell]; rfl
        have e1 : V9cgx.cell? ⟨w.heap.size, 1, none⟩ = some (.int .i64 wk) := by rw [SVcgx.out.kg.cell]; rfl
        have e2 : V9cgx.cell? ⟨w.heap.size, 2, none⟩ = some (.int .i64 cp) := by rw [SVcgx.out.kg.cell]; rfl
        have r0 : V9cgx.cell? ⟨w.heap.size + 1, 0, none⟩ = some (.int .i64 p0) := by rw [SVcgx.out.kr.cell]; rfl
        have r1 : V9cgx.cell? ⟨w.heap.size + 1, 1, none⟩ = some (.int .i64 p1) := by rw [SVcgx.out.kr.cell]; rfl
        have r2 : V9cgx.cell? ⟨w.heap.size + 1, 2, none⟩ = some (.int .i64 p2) := by rw [SVcgx.out.kr.cell]; rfl
        have r3 : V9cgx.cell? ⟨w.heap.size + 1, 3, none⟩ = some (.int .i64 p3) := by rw [SVcgx.out.kr.cell]; rfl
        have EE := Lib.hid (show m4 ≤ 6 by omega)
        go_wp2_with fail
        exact bodyPost_ret (v := .tuple #[.agg #[.slice A1 n c1, .int .i64 wk, .int .i64 cp], .slice A4 m4 c4, .agg #[.int .i64 p0, .int .i64 p1, .int .i64 p2, .int .i64 p3]]) (by simp [results, Try.results20, go_sem, e0, e1, e2, r0, r1, r2, r3]) rfl ⟨A1, n, c1, wk, cp, gs, A4, m4, c4, zs, p0, p1, p2, p3, RC.out, h9, HL.out, HO.out, EE.out, SVcgx.out.lst.1, SVcgx.out.lst.nil, SVcgx.out.lst.cap, rfl, SVcgx.out.nds.nds, SVcgx.out.lst.ce, SVcgx.out.bel⟩
  | true =>
    go_wp2_with fail
    refine (graphAny_draw w3 c A len cap hlen S2.out.cur).mono ?_
    rintro e w4 ⟨A1', n', c1', wk', cp', gs', h9', hgl, hgo, rfl, hF, hcn, gn⟩
    have HL' := Lib.hid hgl
    have HO' := Lib.hid hgo
    have xl := S2.out.kx.lt
    have cl3 := S2.out.cur.lt
    have cx := S2.out.cx
    have S3 := Lib.hid (S2.out.draw hcn gn)
    have NR4 := Lib.hid (NR3.out.grown gn (by simp; omega))
    have F3 := Lib.hid hF
    clear hgl hgo hcn gn hF S2 NR3
    have k0 : w4.cell? ⟨x, 0, none⟩ = some (.slice A1 n c1) := by rw [S3.out.kx.cell]; rfl
    have k1 : w4.cell? ⟨x, 1, none⟩ = some (.int .i64 wk) := by rw [S3.out.kx.cell]; rfl
    have k2 : w4.cell? ⟨x, 2, none⟩ = some (.int .i64 cp) := by rw [S3.out.kx.cell]; rfl
    have kf0 := S3.out.kx.frozen 0
    have kf1 := S3.out.kx.frozen 1
    have kf2 := S3.out.kx.frozen 2
    go_upto_region 5 with fail
    clear k0 kf0 k1 kf1 k2 kf2
    generalize hV : ((w4.setCell _ _).setCell _ _).setCell _ _ = U2
    have S4 := Lib.hid (show PC11 w U2 c A len cap x w3.heap.size A1' n' c1' wk' cp' gs' by rw [← hV]; exact S3.out.setx F3.out xl cl3 rfl)
    have NR5 := Lib.hid (show Blk U2 (w.heap.size + 1) 38 #[.int .i64 0, .int .i64 0, .int .i64 0, .int .i64 0] by rw [← hV]; exact ((NR4.out.other (by simp; omega) _).other (by simp; omega) _).other (by simp; omega) _)
    clear hV S3 F3 NR4
    have SI := Lib.hid (S4.out.im (A4 := some ⟨U2.heap.size, 0, none⟩) (by omega) NR5.out)
    clear S4 NR5
    obtain ⟨V, hV⟩ : ∃ z, U2.alloc (.cells #[] 38) = z := ⟨_, rfl⟩
    have hbV : Below U2.heap.size U2 V := by rw [← hV]; exact (Below.refl _ _).alloc (Nat.le_refl _) _
    have L0 := Lib.hid (show IM11 w V c A len cap x w3.heap.size #[.slice none 0 0, .int .i64 0, .int .i64 0] #[.int .i64 0, .int .i64 0, .int .i64 0, .int .i64 0] A1' n' c1' wk' cp' gs' (some ⟨U2.heap.size, 0, none⟩) 0 0 [] from SI.out.fresh hbV)
    clear hbV SI
    go_wp2_with fail
    clear hV
    go_loopw [7, 8] (fun v i wr => ∃ (j : Nat) (A4 : Option Addr) (m4 c4 : Nat) (zs : List Ce), i = .int .i64 (j : Int) ∧ j ≤ 6 ∧ m4 ≤ j ∧ v = .slice A4 m4 c4 ∧ IM11 w wr c A len cap x w3.heap.size #[.slice none 0 0, .int .i64 0, .int .i64 0] #[.int .i64 0, .int .i64 0, .int .i64 0, .int .i64 0] A1' n' c1' wk' cp' gs' A4 m4 c4 zs) (fun _ i _ => 6 - (intOf i).toNat)
    case atStart => exact ⟨0, _, 0, 0, [], rfl, by omega, Nat.le_refl _, rfl, L0.out⟩
    case round =>
      obtain ⟨j, A4, m4, c4, zs, rfl, hj, hmj, rfl, hS⟩ := hrel
      have SR := Lib.hid hS
      clear hS L0
      go_wp2_with fail
      refine (below_any 6 (by omega) (by omega) wr c A len cap hlen SR.out.cur).mono ?_
      rintro e wb ⟨y, hy, rfl, hcn, gn⟩
      have SB := Lib.hid (SR.out.draw hcn gn)
      clear hcn gn SR
      by_cases hlt : j < y
      · have i1 : (j : Int) < (y : Int) := by omega
        have dl : decide ((j : Int) < (y : Int)) = true := by simp; omega
        obtain ⟨V9, hV⟩ : ∃ v, wb.drew = v := ⟨_, rfl⟩
        have SV := Lib.hid (show IM11 w V9 c A len cap x w3.heap.size #[.slice none 0 0, .int .i64 0, .int .i64 0] #[.int .i64 0, .int .i64 0, .int .i64 0, .int .i64 0] A1' n' c1' wk' cp' gs' A4 m4 c4 zs by rw [← hV]; exact SB.out.fresh ((Below.refl _ _).drew))
        clear SB
        go_wp2_with fail
        refine wp_region_held_drew (S := (fun W' => Blk W' x 26 #[.slice A1' n' c1', .int .i64 wk', .int .i64 cp'])) (by kernel_rfl) ?_ (fun hHeld => ?_)
        · rw [hV]; exact SV.out.kx
        change wpAnyH _ _ opsQ9 _ _ 10 (#[false, false, false, false, false, false, false, false, false, false] : Array Bool) _ _
        rw [hV] at hHeld ⊢
        clear hV
        refine regY tQ9_e_0 (.agg #[.slice A1' n' c1', .int .i64 wk', .int .i64 cp']) (fun W hSw => by unfold qQ9_0; (have h0 : W.cell? ⟨x, 0, none⟩ = some (.slice A1' n' c1') := by rw [Blk.cell hSw]; rfl); (have h1 : W.cell? ⟨x, 1, none⟩ = some (.int .i64 wk') := by rw [Blk.cell hSw]; rfl); (have h2 : W.cell? ⟨x, 2, none⟩ = some (.int .i64 cp') := by rw [Blk.cell hSw]; rfl); go_simp) hHeld ?_
        try simp only [pt, List.set]
        refine regY tQ9_0_1 (.slice A4 m4 c4) (fun W hSw => by unfold qQ9_1; go_simp) hHeld ?_
        try simp only [pt, List.set]
        refine regY tQ9_01_2 (.pointer (some ⟨c, 0, none⟩)) (fun W hSw => by unfold qQ9_2; go_simp) hHeld ?_
        try simp only [pt, List.set]
        refine regY tQ9_012_3 (.agg #[.slice A1' n' c1', .int .i64 wk', .int .i64 cp']) (fun W hSw => by unfold qQ9_3; (have h0 : W.cell? ⟨x, 0, none⟩ = some (.slice A1' n' c1') := by rw [Blk.cell hSw]; rfl); (have h1 : W.cell? ⟨x, 1, none⟩ = some (.int .i64 wk') := by rw [Blk.cell hSw]; rfl); (have h2 : W.cell? ⟨x, 2, none⟩ = some (.int .i64 cp') := by rw [Blk.cell hSw]; rfl); go_simp) hHeld ?_
        try simp only [pt, List.set]
        refine cQ9_0123_4 (fun K hK => ?_)
        rw [if_pos (by rfl)]
        unfold qQ9_4
        go_simp
        refine (cell11_draw A1' n' c1' wk' cp' (by omega) V9 c A len cap hlen SV.out.cur).mono ?_
        rintro e V9c ⟨p0, p1, p2, p3, _, rfl, hcn, gn⟩
        have SVc := Lib.hid (SV.out.draw hcn gn)
        clear hcn gn
        refine Shut.out hK _ _ ?_ (fun hHeld => ?_)
        · exact SVc.out.kx
        clear hK K
        try simp only [pt, List.set]
        refine cQ9_01234_5 (fun K hK => ?_)
        rw [if_pos (by rfl)]
        unfold qQ9_5
        go_simp
        refine (specImp_any gs' wk' cp' A1' n' c1' HL'.out (fun y hy => Nat.le_trans (HO'.out y hy) (by omega)) (by omega) zs A4 m4 c4 SVc.out.lst.1 SVc.out.lst.nil SVc.out.lst.cap (by omega) p0 p1 p2 p3 V9c SVc.out.nds.nds SVc.out.lst.ce).mono ?_
        rintro e V9ci ⟨A5, c5, m5, A6, c6, m6, hm5, _, rfl, hn5, _, _, bq⟩
        have bz := SVc.out.bel.size
        have bc := SVc.out.bc
        have cz := SVc.out.cur.lt
        have SVci := Lib.hid ((SVc.out.fresh bq).list hn5 (by omega) (Nat.le_refl _))
        have L5 := Lib.hid (show m5 ≤ m4 + 1 by rw [← hm5, ← SVc.out.lst.1]; exact impG_best _ _ _ _ _)
        clear hm5 hn5 bq
        refine Shut.out hK _ _ ?_ (fun hHeld => ?_)
        · exact SVci.out.kx
        clear hK K
        try simp only [pt, List.set]
        refine regY tQ9_012345_6 (.tuple #[.slice A5 m5 c5, .slice A6 m6 c6]) (fun W hSw => by unfold qQ9_6; go_simp) hHeld ?_
        try simp only [pt, List.set]
        refine regY tQ9_0123456_7 (.slice A5 m5 c5) (fun W hSw => by unfold qQ9_7; go_simp) hHeld ?_
        try simp only [pt, List.set]
        refine regY tQ9_01234567_8 (.slice A6 m6 c6) (fun W hSw => by unfold qQ9_8; go_simp) hHeld ?_
        try simp only [pt, List.set]
        refine regY tQ9_012345678_9 (.slice A5 m5 c5) (fun W hSw => by unfold qQ9_9; go_simp) hHeld ?_
        try simp only [pt, List.set]
        refine wpAnyH_done (by kernel_rfl) ?_ _
        clear hHeld
        have l5 := L5.out
        clear L5
        go_wp2
        go_roundw
        case rel => first | exact ⟨j + 1, A5, m5, c5, _, by go_num, by omega, by omega, rfl, SVci.out⟩ | ((repeat apply Exists.intro); refine ⟨?_, rfl⟩; exact ⟨j + 1, A5, m5, c5, _, by go_num, by omega, by omega, rfl, SVci.out⟩)
        case measure => simp [intOf]; omega
      · have dl : decide ((j : Int) < (y : Int)) = false := by simp; omega
        obtain ⟨V9, hV⟩ : ∃ v, wb.drew = v := ⟨_, rfl⟩
        have SV := Lib.hid (show IM11 w V9 c A len cap x w3.heap.size #[.slice none 0 0, .int .i64 0, .int .i64 0] #[.int .i64 0, .int .i64 0, .int .i64 0, .int .i64 0] A1' n' c1' wk' cp' gs' A4 m4 c4 zs by rw [← hV]; exact SB.out.fresh ((Below.refl _ _).drew))
        clear SB
        go_wp2_with fail
        refine wp_region_held_drew (S := (fun W' => Blk W' x 26 #[.slice A1' n' c1', .int .i64 wk', .int .i64 cp'])) (by kernel_rfl) ?_ (fun hHeld => ?_)
        · rw [hV]; exact SV.out.kx
        change wpAnyH _ _ opsQ10 _ _ 8 (#[false, false, false, false, false, false, false, false] : Array Bool) _ _
        rw [hV] at hHeld ⊢
        clear hV
        refine regY tQ10_e_0 (.agg #[.slice A1' n' c1', .int .i64 wk', .int .i64 cp']) (fun W hSw => by unfold qQ10_0; (have h0 : W.cell? ⟨x, 0, none⟩ = some (.slice A1' n' c1') := by rw [Blk.cell hSw]; rfl); (have h1 : W.cell? ⟨x, 1, none⟩ = some (.int .i64 wk') := by rw [Blk.cell hSw]; rfl); (have h2 : W.cell? ⟨x, 2, none⟩ = some (.int .i64 cp') := by rw [Blk.cell hSw]; rfl); go_simp) hHeld ?_
        try simp only [pt, List.set]
        refine regY tQ10_0_1 (.slice A4 m4 c4) (fun W hSw => by unfold qQ10_1; go_simp) hHeld ?_
        try simp only [pt, List.set]
        refine regY tQ10_01_2 (.pointer (some ⟨c, 0, none⟩)) (fun W hSw => by unfold qQ10_2; go_simp) hHeld ?_
        try simp only [pt, List.set]
        refine regY tQ10_012_3 (.agg #[.slice A1' n' c1', .int .i64 wk', .int .i64 cp']) (fun W hSw => by unfold qQ10_3; (have h0 : W.cell? ⟨x, 0, none⟩ = some (.slice A1' n' c1') := by rw [Blk.cell hSw]; rfl); (have h1 : W.cell? ⟨x, 1, none⟩ = some (.int .i64 wk') := by rw [Blk.cell hSw]; rfl); (have h2 : W.cell? ⟨x, 2, none⟩ = some (.int .i64 cp') := by rw [Blk.cell hSw]; rfl); go_simp) hHeld ?_
        try simp only [pt, List.set]
        refine cQ10_0123_4 (fun K hK => ?_)
        rw [if_pos (by rfl)]
        unfold qQ10_4
        go_simp
        refine (cell11_draw A1' n' c1' wk' cp' (by omega) V9 c A len cap hlen SV.out.cur).mono ?_
        rintro e V9c ⟨p0, p1, p2, p3, hR, rfl, hcn, gn⟩
        have RC := Lib.hid hR
        have SVc := Lib.hid (SV.out.draw hcn gn)
        clear hcn gn hR
        refine Shut.out hK _ _ ?_ (fun hHeld => ?_)
        · exact SVc.out.kx
        clear hK K
        try simp only [pt, List.set]
        refine cQ10_01234_5 (fun K hK => ?_)
        rw [if_pos (by rfl)]
        unfold qQ10_5
        have l0 : V9c.cell? ⟨w.heap.size, 0, none⟩ = some (.slice none 0 0) := by rw [SVc.out.kg.cell]; rfl
        have l1 : V9c.cell? ⟨w.heap.size, 1, none⟩ = some (.int .i64 0) := by rw [SVc.out.kg.cell]; rfl
        have l2 : V9c.cell? ⟨w.heap.size, 2, none⟩ = some (.int .i64 0) := by rw [SVc.out.kg.cell]; rfl
        have lf0 := SVc.out.kg.frozen 0
        have lf1 := SVc.out.kg.frozen 1
        have lf2 := SVc.out.kg.frozen 2
        go_simp
        clear l0 lf0 l1 lf1 l2 lf2
        generalize hV : ((V9c.setCell _ _).setCell _ _).setCell _ _ = V9cg
        have SVcg := Lib.hid (show IM11 w V9cg c A len cap x w3.heap.size #[.slice A1' n' c1', .int .i64 wk', .int .i64 cp'] #[.int .i64 0, .int .i64 0, .int .i64 0, .int .i64 0] A1' n' c1' wk' cp' gs' A4 m4 c4 zs by rw [← hV]; exact ((SVc.out.setg 0 _).setg 1 _).setg 2 _)
        clear hV
        refine Shut.out hK _ _ ?_ (fun hHeld => ?_)
        · exact SVcg.out.kx
        clear hK K
        try simp only [pn]
        refine regY tQ10_012345_6 (.slice A4 m4 c4) (fun W hSw => by unfold qQ10_6; go_simp) hHeld ?_
        try simp only [pt, List.set]
        refine cQ10_0123456_7 (fun K hK => ?_)
        rw [if_pos (by rfl)]
        unfold qQ10_7
        have l0 : V9cg.cell? ⟨w.heap.size + 1, 0, none⟩ = some (.int .i64 0) := by rw [SVcg.out.kr.cell]; rfl
        have l1 : V9cg.cell? ⟨w.heap.size + 1, 1, none⟩ = some (.int .i64 0) := by rw [SVcg.out.kr.cell]; rfl
        have l2 : V9cg.cell? ⟨w.heap.size + 1, 2, none⟩ = some (.int .i64 0) := by rw [SVcg.out.kr.cell]; rfl
        have l3 : V9cg.cell? ⟨w.heap.size + 1, 3, none⟩ = some (.int .i64 0) := by rw [SVcg.out.kr.cell]; rfl
        have lf0 := SVcg.out.kr.frozen 0
        have lf1 := SVcg.out.kr.frozen 1
        have lf2 := SVcg.out.kr.frozen 2
        have lf3 := SVcg.out.kr.frozen 3
        go_simp
        clear l0 lf0 l1 lf1 l2 lf2 l3 lf3
        generalize hV : (((V9cg.setCell _ _).setCell _ _).setCell _ _).setCell _ _ = V9cgx
        have SVcgx := Lib.hid (show IM11 w V9cgx c A len cap x w3.heap.size #[.slice A1' n' c1', .int .i64 wk', .int .i64 cp'] #[.int .i64 p0, .int .i64 p1, .int .i64 p2, .int .i64 p3] A1' n' c1' wk' cp' gs' A4 m4 c4 zs by rw [← hV]; exact (((SVcg.out.setr 0 _).setr 1 _).setr 2 _).setr 3 _)
        clear hV
        refine Shut.out hK _ _ ?_ (fun hHeld => ?_)
        · exact SVcgx.out.kx
        clear hK K
        try simp only [pn]
        refine wpAnyH_done (by kernel_rfl) ?_ _
        clear hHeld
        have e0 : V9cgx.cell? ⟨w.heap.size, 0, none⟩ = some (.slice A1' n' c1') := by rw [SVcgx.out.kg.cell]; rfl
        have e1 : V9cgx.cell? ⟨w.heap.size, 1, none⟩ = some (.int .i64 wk') := by rw [SVcgx.out.kg.cell]; rfl
        have e2 : V9cgx.cell? ⟨w.heap.size, 2, none⟩ = some (.int .i64 cp') := by rw [SVcgx.out.kg.cell]; rfl
        have r0 : V9cgx.cell? ⟨w.heap.size + 1, 0, none⟩ = some (.int .i64 p0) := by rw [SVcgx.out.kr.cell]; rfl
        have r1 : V9cgx.cell? ⟨w.heap.size + 1, 1, none⟩ = some (.int .i64 p1) := by rw [SVcgx.out.kr.cell]; rfl
        have r2 : V9cgx.cell? ⟨w.heap.size + 1, 2, none⟩ = some (.int .i64 p2) := by rw [SVcgx.out.kr.cell]; rfl
        have r3 : V9cgx.cell? ⟨w.heap.size + 1, 3, none⟩ = some (.int .i64 p3) := by rw [SVcgx.out.kr.cell]; rfl
        have EE := Lib.hid (show m4 ≤ 6 by omega)
        go_wp2_with fail
        exact bodyPost_ret (v := .tuple #[.agg #[.slice A1' n' c1', .int .i64 wk', .int .i64 cp'], .slice A4 m4 c4, .agg #[.int .i64 p0, .int .i64 p1, .int .i64 p2, .int .i64 p3]]) (by simp [results, Try.results20, go_sem, e0, e1, e2, r0, r1, r2, r3]) rfl ⟨A1', n', c1', wk', cp', gs', A4, m4, c4, zs, p0, p1, p2, p3, RC.out, h9', HL'.out, HO'.out, EE.out, SVcgx.out.lst.1, SVcgx.out.lst.nil, SVcgx.out.lst.cap, rfl, SVcgx.out.nds.nds, SVcgx.out.lst.ce, SVcgx.out.bel⟩
end Go.Proofs.Ytbbagpnjjjohpaa.hexes

