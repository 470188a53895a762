/-
  What a law is told of the code that it draws from; the law's own bound on it.
  A case of chapter 11, drawn: the contract of spec.l11Case.
  A cell drawn for a graph: the contract of spec.l11Cell.
-/
import Derived.Test.YtbbagpnjjjohpaaJ1
import Derived.OpenShut
import Derived.Test.YtbbagpnjjjohpaaJ32
import Derived.Test.YtbbagpnjjjohpaaJ0
import Derived.Test.YtbbagpnjjjohpaaJ35
import Derived.Test.YtbbagpnjjjohpaaJ40
import Derived.Test.YtbbagpnjjjohpaaJ4
import Derived.Test.YtbbagpnjjjohpaaJ10
import Derived.Test.YtbbagpnjjjohpaaJ12
import Derived.Test.YtbbagpnjjjohpaaJ8
import Derived.Deep.CutBlock
import Derived.Deep.DeepCutAuto
import Derived.IntWalk

namespace Go.Proofs.Ytbbagpnjjjohpaa.hexes
open Go.RowKit

/-- WHAT THE WALK IS TOLD OF A SLICE OF INTEGERS THAT CAME IN. -/
def IsRow (k : IntKind) (w : World) (a : Option Addr) (len cap : Nat) (zs : List Int) : Prop :=
  (a = none ∧ len = 0 ∧ cap = 0 ∧ zs = []) ∨
  ∃ x, a = some x ∧ len ≤ cap ∧ cap ≤ maxLen ∧ zs.length = cap ∧ (∀ i, i < zs.length → w.cell? (x.add i) = some (.int k (zs.getD i 0))) ∧ ∀ n ∈ zs, (Lit.int k n).wf = true

theorem came_of_row {w : World} {a : Option Addr} {len cap : Nat} {zs : List Int} (h : IsRow .u8 w a len cap zs) : Came w a len := fun hl => by
  rcases h with ⟨_, rfl, _⟩ | ⟨x, rfl, hlc, _, hz, hcell, hwf⟩
  · omega
  · obtain ⟨b, off, spot⟩ := x
    have hc0 := hcell 0 (by omega)
    have hspot : spot = none := by simpa [Addr.add] using World.cell?_spot hc0
    subst hspot
    have hadd : ∀ j, (Addr.add ⟨b, off, none⟩ j) = ⟨b, off + j, none⟩ := fun j => by unfold Addr.add; split <;> simp_all
    refine ⟨b, off, rfl, ?_, fun j hj => ?_⟩
    · rw [hadd 0] at hc0
      exact World.block_lt_of_cell? w _ hc0
    · have hcj := hcell j (by omega)
      rw [hadd j] at hcj
      have hj' : j < zs.length := by omega
      have hm : zs.getD j 0 ∈ zs := by rw [List.getD_eq_getElem?_getD, List.getElem?_eq_getElem hj']; exact List.getElem_mem hj'
      have hb := bounds_u8 (hwf _ hm)
      refine ⟨(zs.getD j 0).toNat, by omega, ?_⟩
      rw [hcj]
      congr 2
      omega

theorem big_any (A : Option Addr) (len cap : Nat) (w : World) :
    Calls Try.prog 11 #[.slice A len cap] w fun e w' => e = .returned (.bool (decide (1048576 < (len : Int)))) ∧ w = w' := by
  go_enter Try.func11, Try.ntmps11
  go_wp2
  go_ret
  exact ⟨rfl, rfl⟩

end Go.Proofs.Ytbbagpnjjjohpaa.hexes

namespace Go.Proofs.Ytbbagpnjjjohpaa.hexes
open Go.RowKit

/-- The graph's variable in block x. -/
structure PC11 (b wx : World) (c : Nat) (A : Option Addr) (len cap x B : Nat) (A1 : Option Addr) (n c1 : Nat) (wk cp : Int) (gs : List Nd) : Prop where
  came : Came b A len
  bc : b.heap.size + 1 ≤ c
  cx : c < x
  cB : c < B
  cur : Cursor wx c A len cap
  bel : Below b.heap.size b wx
  kg : Blk wx b.heap.size 26 #[.slice none 0 0, .int .i64 0, .int .i64 0]
  kx : Blk wx x 26 #[.slice A1 n c1, .int .i64 wk, .int .i64 cp]
  nds : NdsF B wx A1 gs
/-- A list under draw, in a block that is younger than v. -/
structure LC11 (b v wx : World) (c : Nat) (A : Option Addr) (len cap x B : Nat) (A1 : Option Addr) (n c1 : Nat) (wk cp : Int) (gs : List Nd) (A4 : Option Addr) (m4 c4 : Nat) (rs : List Rc) : Prop where
  p : PC11 b v c A len cap x B A1 n c1 wk cp gs
  cur : Cursor wx c A len cap
  gx : v.grownBy wx (some c)
  lst : wx.ownsRow v.heap.size 51 5 (.slice A4 m4 c4) m4 (rcCells rs)
/-- The end: the result is written. -/
structure FC11 (b wx : World) (c : Nat) (A : Option Addr) (len cap x B : Nat) (G : Array Value) (A1 : Option Addr) (n c1 : Nat) (wk cp : Int) (gs : List Nd) (A4 : Option Addr) (m4 c4 : Nat) (rs : List Rc) : Prop where
  came : Came b A len
  bc : b.heap.size + 1 ≤ c
  cx : c < x
  cB : c < B
  cur : Cursor wx c A len cap
  bel : Below b.heap.size b wx
  kg : Blk wx b.heap.size 26 G
  kx : Blk wx x 26 #[.slice A1 n c1, .int .i64 wk, .int .i64 cp]
  row : wx.ownsRow b.heap.size 51 5 (.slice A4 m4 c4) m4 (rcCells rs)
  nds : NdsF B wx A1 gs
variable {b v wx w' : World} {c : Nat} {A : Option Addr} {len cap x B : Nat} {G : Array Value} {A1 : Option Addr} {n c1 : Nat} {wk cp : Int} {gs : List Nd} {A4 : Option Addr} {m4 c4 : Nat} {rs : List Rc}
theorem PC11.draw (S : PC11 b wx c A len cap x B A1 n c1 wk cp gs) (hc : Cursor w' c A len cap) (g : wx.grownBy w' (some c)) : PC11 b w' c A len cap x B A1 n c1 wk cp gs := by
  have h1 := S.bc
  have h2 := S.cx
  exact ⟨S.came, S.bc, S.cx, S.cB, hc, S.bel.grown g S.bel.size (fun k hk => by simp at hk; omega), S.kg.grown g (by simp; omega), S.kx.grown g (by simp; omega), S.nds.grown g S.cB⟩
/-- The variable is given another graph. -/
theorem PC11.setx {B' : Nat} {A1' : Option Addr} {n' c1' : Nat} {wk' cp' : Int} {gs' : List Nd} (S : PC11 b wx c A len cap x B A1 n c1 wk cp gs) (hF : NdsF B' wx A1' gs') (hx : x < B') (hc : c < B') {wf : World} (hw : wf = ((wx.setCell ⟨x, 0, none⟩ (.slice A1' n' c1')).setCell ⟨x, 1, none⟩ (.int .i64 wk')).setCell ⟨x, 2, none⟩ (.int .i64 cp')) : PC11 b wf c A len cap x B' A1' n' c1' wk' cp' gs' := by
  subst hw
  have h1 := S.bc
  have h2 := S.cx
  have g1 := grown_set wx ⟨x, 0, none⟩ (.slice A1' n' c1')
  have g2 := grown_set (wx.setCell ⟨x, 0, none⟩ (.slice A1' n' c1')) ⟨x, 1, none⟩ (.int .i64 wk')
  have g3 := grown_set ((wx.setCell ⟨x, 0, none⟩ (.slice A1' n' c1')).setCell ⟨x, 1, none⟩ (.int .i64 wk')) ⟨x, 2, none⟩ (.int .i64 cp')
  have g := grown_trans (grown_trans g1 g2) g3
  obtain ⟨j, hh, hi, hblk⟩ := S.cur.at_
  have bel' := S.bel.grown g S.bel.size (fun k hk => by simp at hk; omega)
  exact ⟨S.came, S.bc, S.cx, hc, ⟨⟨j, hh, hi, hblk.grown g (by simp; omega)⟩, S.came.bytes bel' (by omega)⟩, bel', S.kg.grown g (by simp; omega), ((S.kx.put 0 _).put 1 _).put 2 _, hF.grown g hx⟩
theorem PC11.start (S : PC11 b v c A len cap x B A1 n c1 wk cp gs) (hc : Cursor wx c A len cap) (g : v.grownBy wx (some c)) (ho : wx.ownsRow v.heap.size 51 5 (.slice A4 m4 c4) m4 (rcCells rs)) : LC11 b v wx c A len cap x B A1 n c1 wk cp gs A4 m4 c4 rs := ⟨S, hc, g, ho⟩
theorem LC11.draw (S : LC11 b v wx c A len cap x B A1 n c1 wk cp gs A4 m4 c4 rs) (hc : Cursor w' c A len cap) (g : wx.grownBy w' (some c)) : LC11 b v w' c A len cap x B A1 n c1 wk cp gs A4 m4 c4 rs := by
  obtain ⟨i, hh, hi, hblk⟩ := S.cur.at_
  exact ⟨S.p, hc, grown_trans S.gx g, S.lst.kept g (.inr (own_type S.lst hblk (by decide)))⟩
theorem LC11.fresh (S : LC11 b v wx c A len cap x B A1 n c1 wk cp gs A4 m4 c4 rs) (hb : Below wx.heap.size wx w') : LC11 b v w' c A len cap x B A1 n c1 wk cp gs A4 m4 c4 rs :=
  ⟨S.p, S.cur.belowD hb, grown_below S.gx hb, own_below S.lst hb⟩
theorem LC11.app (S : LC11 b v wx c A len cap x B A1 n c1 wk cp gs A4 m4 c4 rs) {r : Rc} {u : Value} (ho : w'.ownsRow v.heap.size 51 5 u (m4 + 1) (rcCells (rs ++ [r]))) (gr : wx.grownBy w' (Value.slice A4 m4 c4).ownBlock) : ∃ A5 c5, u = .slice A5 (m4 + 1) c5 ∧ LC11 b v w' c A len cap x B A1 n c1 wk cp gs A5 (m4 + 1) c5 (rs ++ [r]) := by
  obtain ⟨A5, c5, rfl, _⟩ := own_form ho
  obtain ⟨i, hh, hi, hblk⟩ := S.cur.at_
  have h1 := S.p.bc
  have gx' : v.grownBy w' (some c) := grown_row S.gx gr (fun g hg => own_ge S.lst g hg)
  have bel' := S.p.bel.grown gx' S.p.bel.size (fun k hk => by simp at hk; omega)
  exact ⟨A5, c5, rfl, S.p, ⟨⟨i, hh, hi, hblk.grown gr (Ne.symm (own_type S.lst hblk (by decide)))⟩, S.p.came.bytes bel' (by omega)⟩, gx', ho⟩
theorem FC11.draw (S : FC11 b wx c A len cap x B G A1 n c1 wk cp gs A4 m4 c4 rs) (hc : Cursor w' c A len cap) (g : wx.grownBy w' (some c)) : FC11 b w' c A len cap x B G A1 n c1 wk cp gs A4 m4 c4 rs := by
  have h1 := S.bc
  have h2 := S.cx
  obtain ⟨i, hh, hi, hblk⟩ := S.cur.at_
  exact ⟨S.came, S.bc, S.cx, S.cB, hc, S.bel.grown g S.bel.size (fun k hk => by simp at hk; omega), S.kg.grown g (by simp; omega), S.kx.grown g (by simp; omega), S.row.kept g (.inr (own_type S.row hblk (by decide))), S.nds.grown g S.cB⟩
theorem FC11.fresh (S : FC11 b wx c A len cap x B G A1 n c1 wk cp gs A4 m4 c4 rs) (hb : Below wx.heap.size wx w') : FC11 b w' c A len cap x B G A1 n c1 wk cp gs A4 m4 c4 rs :=
  ⟨S.came, S.bc, S.cx, S.cB, S.cur.belowD hb, below_chain S.bel hb, S.kg.below hb, S.kx.below hb, own_below S.row hb, S.nds.below hb⟩
theorem FC11.setg (S : FC11 b wx c A len cap x B G A1 n c1 wk cp gs A4 m4 c4 rs) (i : Nat) (u : Value) : FC11 b (wx.setCell ⟨b.heap.size, i, none⟩ u) c A len cap x B (G.setIfInBounds i u) A1 n c1 wk cp gs A4 m4 c4 rs := by
  have h1 := S.bc
  have h2 := S.cx
  have h3 := S.cB
  have gs' : wx.grownBy (wx.setCell ⟨b.heap.size, i, none⟩ u) (some b.heap.size) := grown_set wx ⟨b.heap.size, i, none⟩ u
  obtain ⟨j, hh, hi, hblk⟩ := S.cur.at_
  have bel' := S.bel.setCell (p := ⟨b.heap.size, i, none⟩) (Nat.le_refl _) u
  exact ⟨S.came, S.bc, S.cx, S.cB, ⟨⟨j, hh, hi, hblk.grown gs' (by simp; omega)⟩, S.came.bytes bel' (by omega)⟩, bel', S.kg.put i u, S.kx.other (by simp; omega) u, S.row.kept gs' (.inr (own_type S.row S.kg (by decide))), S.nds.grown gs' (by omega)⟩

end Go.Proofs.Ytbbagpnjjjohpaa.hexes

namespace Go.Proofs.Ytbbagpnjjjohpaa.hexes
open Go.RowKit

/-- The drawn cell's epoch, key and value. -/
def CeR (p1 p2 p3 : Int) : Prop := (0 ≤ p1 ∧ p1 ≤ 1) ∧ (0 ≤ p2 ∧ p2 ≤ 5) ∧ 0 ≤ p3 ∧ p3 ≤ 8
/-- How a cell drawn for a graph ends. -/
def Ce11End (w : World) (c : Nat) (A : Option Addr) (len cap : Nat) (e : Ending) (w' : World) : Prop :=
  ∃ p0 p1 p2 p3 : Int, CeR p1 p2 p3 ∧ e = .returned (.agg #[.int .i64 p0, .int .i64 p1, .int .i64 p2, .int .i64 p3]) ∧ Cursor w' c A len cap ∧ w.grownBy w' (some c)
/-- A cell under draw: the cursor, the graph's block, the result's block, the cell's block. -/
structure C11 (b wx : World) (c : Nat) (A : Option Addr) (len cap g d r : Nat) (G : Array Value) (p0 p1 p2 p3 : Int) : Prop where
  c0 : Cursor b c A len cap
  bg : b.heap.size ≤ g
  bd : b.heap.size ≤ d
  br : b.heap.size ≤ r
  gr_ : g ≠ r
  dr : d ≠ r
  cur : Cursor wx c A len cap
  gr : b.grownBy wx (some c)
  kg : Blk wx g 26 G
  kd : Blk wx d 38 #[.int .i64 0, .int .i64 0, .int .i64 0, .int .i64 0]
  kr : Blk wx r 38 #[.int .i64 p0, .int .i64 p1, .int .i64 p2, .int .i64 p3]
variable {b wx w' : World} {c len cap g d r : Nat} {A : Option Addr} {G : Array Value} {p0 p1 p2 p3 : Int}
theorem C11.draw (S : C11 b wx c A len cap g d r G p0 p1 p2 p3) (hc : Cursor w' c A len cap) (h : wx.grownBy w' (some c)) : C11 b w' c A len cap g d r G p0 p1 p2 p3 := by
  have h0 := S.c0.lt
  have h1 := S.bg
  have h2 := S.bd
  have h3 := S.br
  exact ⟨S.c0, S.bg, S.bd, S.br, S.gr_, S.dr, hc, grown_trans S.gr h, S.kg.grown h (by simp; omega), S.kd.grown h (by simp; omega), S.kr.grown h (by simp; omega)⟩
theorem C11.fresh (S : C11 b wx c A len cap g d r G p0 p1 p2 p3) (hb : Below wx.heap.size wx w') : C11 b w' c A len cap g d r G p0 p1 p2 p3 :=
  ⟨S.c0, S.bg, S.bd, S.br, S.gr_, S.dr, S.cur.belowD hb, grown_below S.gr hb, S.kg.below hb, S.kd.below hb, S.kr.below hb⟩
theorem C11.put0 (S : C11 b wx c A len cap g d r G p0 p1 p2 p3) (v : Int) : C11 b (wx.setCell ⟨r, 0, none⟩ (.int .i64 v)) c A len cap g d r G v p1 p2 p3 := by
  have h0 := S.c0.lt
  have h3 := S.br
  have hg := grown_set_new S.gr (p := ⟨r, 0, none⟩) S.br (.int .i64 v)
  exact ⟨S.c0, S.bg, S.bd, S.br, S.gr_, S.dr, S.c0.back S.cur hg (Below.heap_setCell _ _ _ c (by simp; omega)), hg, S.kg.other (by simpa using S.gr_) _, S.kd.other (by simpa using S.dr) _, S.kr.put 0 _⟩
/-- The cell laid into the result. -/
theorem C11.fin (S : C11 b wx c A len cap g d r G p0 p1 p2 p3) {wf : World} (hw : (((wx.setCell ⟨d, 0, none⟩ (.int .i64 p0)).setCell ⟨d, 1, none⟩ (.int .i64 p1)).setCell ⟨d, 2, none⟩ (.int .i64 p2)).setCell ⟨d, 3, none⟩ (.int .i64 p3) = wf) :
    Blk wf d 38 #[.int .i64 p0, .int .i64 p1, .int .i64 p2, .int .i64 p3] ∧ Cursor wf c A len cap ∧ b.grownBy wf (some c) := by
  subst hw
  have h0 := S.c0.lt
  have h2 := S.bd
  have hg := grown_set_new (grown_set_new (grown_set_new (grown_set_new S.gr (p := ⟨d, 0, none⟩) S.bd (.int .i64 p0)) (p := ⟨d, 1, none⟩) S.bd (.int .i64 p1)) (p := ⟨d, 2, none⟩) S.bd (.int .i64 p2)) (p := ⟨d, 3, none⟩) S.bd (.int .i64 p3)
  refine ⟨(((S.kd.put 0 _).put 1 _).put 2 _).put 3 _, S.c0.back S.cur hg ?_, hg⟩
  exact (Below.heap_setCell _ _ _ c (by simp; omega)).trans ((Below.heap_setCell _ _ _ c (by simp; omega)).trans ((Below.heap_setCell _ _ _ c (by simp; omega)).trans (Below.heap_setCell _ _ _ c (by simp; omega))))

set_option maxRecDepth 100000 in
set_option maxHeartbeats 4000000 in
theorem cell11_draw (A1 : Option Addr) (n c1 : Nat) (wk cp : Int) (hn : n ≤ 1048576) (w : World) (c : Nat) (A : Option Addr) (len cap : Nat) (hlen : len ≤ 2097152) (hcur : Cursor w c A len cap) :
    Calls Try.prog 55 #[.pointer (some ⟨c, 0, none⟩), .agg #[.slice A1 n c1, .int .i64 wk, .int .i64 cp]] w (Ce11End w c A len cap) := by
  have hc := hcur.lt
  have HC := Lib.hid hcur
  clear hcur
  obtain ⟨W, hW⟩ : ∃ z, (w.alloc (.cells #[.slice A1 n c1, .int .i64 wk, .int .i64 cp] 26)).alloc (.cells #[.int .i64 0, .int .i64 0, .int .i64 0, .int .i64 0] 38) = z := ⟨_, rfl⟩
  have hb : Below w.heap.size w W := by rw [← hW]; exact ((Below.refl _ _).alloc (Nat.le_refl _) _).alloc (by simp) _
  have NG := Lib.hid (show Blk W w.heap.size 26 #[.slice A1 n c1, .int .i64 wk, .int .i64 cp] by rw [← hW]; exact ((Below.heap_alloc _ _ _ (by first | (simp; done) | (simp; omega))).trans (Blk.new _ _ _)))
  have ND := Lib.hid (show Blk W (w.heap.size + 1) 38 #[.int .i64 0, .int .i64 0, .int .i64 0, .int .i64 0] by rw [← hW]; exact ((show w.heap.size + 1 = ((w.alloc _)).heap.size by simp) ▸ Blk.new _ _ _))
  have GW := Lib.hid (grown_below (row := some c) (grown_refl w (some c)) hb)
  have CW := Lib.hid (HC.out.belowD hb)
  clear hb
  go_enter Try.func55, Try.ntmps55
  go_wp2_with fail
  clear hW
  refine (below_any 2 (by omega) (by omega) W c A len cap hlen CW.out).mono ?_
  rintro e w1 ⟨p1, hp1, rfl, hc1, g1⟩
  have CW1 := Lib.hid hc1
  clear hc1
  go_wp2_with fail
  refine (below_any 6 (by omega) (by omega) w1 c A len cap hlen CW1.out).mono ?_
  rintro e w2 ⟨p2, hp2, rfl, hc1, g2⟩
  have CW2 := Lib.hid hc1
  clear hc1
  go_wp2_with fail
  refine (below_any 9 (by omega) (by omega) w2 c A len cap hlen CW2.out).mono ?_
  rintro e w3 ⟨p3, hp3, rfl, hc1, g3⟩
  have gg := Lib.hid (grown_trans (grown_trans g1 g2) g3)
  have RG := Lib.hid (show CeR (p1 : Int) (p2 : Int) (p3 : Int) by unfold CeR; omega)
  have hlg := NG.out.lt
  have hld := ND.out.lt
  have sz1 := gg.out.size
  clear g1 g2 g3
  obtain ⟨W1, hW⟩ : ∃ z, w3.alloc (.cells #[.int .i64 0, .int .i64 p1, .int .i64 p2, .int .i64 p3] 38) = z := ⟨_, rfl⟩
  have hb : Below w3.heap.size w3 W1 := by rw [← hW]; exact (Below.refl _ _).alloc (Nat.le_refl _) _
  have S1 := Lib.hid (show C11 w W1 c A len cap w.heap.size (w.heap.size + 1) w3.heap.size #[.slice A1 n c1, .int .i64 wk, .int .i64 cp] 0 p1 p2 p3 from
    ⟨HC.out, Nat.le_refl _, by omega, by omega, by omega, by omega, hc1.belowD hb, grown_below (grown_trans GW.out gg.out) hb, (NG.out.grown gg.out (by simp; omega)).below hb, (ND.out.grown gg.out (by simp; omega)).below hb, by rw [← hW]; exact Blk.new _ _ _⟩)
  clear hc1 gg hb NG ND GW CW CW1 CW2 hp1 hp2 hp3
  have x0 : W1.cell? ⟨w.heap.size, 0, none⟩ = some (.slice A1 n c1) := by rw [S1.out.kg.cell]; rfl
  by_cases hn0 : 0 < n
  · have qk : decide ((n : Int) > 0) = true := by simp; omega
    go_wp2_with fail
    clear x0 qk hW
    refine (below_any n hn0 (by omega) W1 c A len cap hlen S1.out.cur).mono ?_
    rintro e w4 ⟨q0, hq0, rfl, hc2, g2⟩
    have S2 := Lib.hid (S1.out.draw hc2 g2)
    clear hc2 g2 S1
    have m0 : w4.cell? ⟨w3.heap.size, 0, none⟩ = some (.int .i64 0) := by rw [S2.out.kr.cell]; rfl
    have m1 : w4.cell? ⟨w3.heap.size, 1, none⟩ = some (.int .i64 (p1 : Int)) := by rw [S2.out.kr.cell]; rfl
    have m2 : w4.cell? ⟨w3.heap.size, 2, none⟩ = some (.int .i64 (p2 : Int)) := by rw [S2.out.kr.cell]; rfl
    have m3 : w4.cell? ⟨w3.heap.size, 3, none⟩ = some (.int .i64 (p3 : Int)) := by rw [S2.out.kr.cell]; rfl
    have q0f := S2.out.kr.frozen 0
    go_upto_region 4 with fail
    clear q0f m0 m1 m2 m3
    generalize hU : World.setCell w4 _ _ = U0
    have QU0 := Lib.hid (show C11 w U0 c A len cap w.heap.size (w.heap.size + 1) w3.heap.size #[.slice A1 n c1, .int .i64 wk, .int .i64 cp] (q0 : Int) (p1 : Int) (p2 : Int) (p3 : Int) by rw [← hU]; exact S2.out.put0 _)
    clear hU S2
    go_wp2_with fail
    refine (once_any 12 (by omega) (by omega) U0 c A len cap hlen QU0.out.cur).mono ?_
    rintro e v3 ⟨bb, rfl, hc2, g2⟩
    have T3 := Lib.hid (QU0.out.draw hc2 g2)
    clear hc2 g2 QU0
    cases bb with
    | false =>
      have m0 : v3.cell? ⟨w3.heap.size, 0, none⟩ = some (.int .i64 (q0 : Int)) := by rw [T3.out.kr.cell]; rfl
      have m1 : v3.cell? ⟨w3.heap.size, 1, none⟩ = some (.int .i64 (p1 : Int)) := by rw [T3.out.kr.cell]; rfl
      have m2 : v3.cell? ⟨w3.heap.size, 2, none⟩ = some (.int .i64 (p2 : Int)) := by rw [T3.out.kr.cell]; rfl
      have m3 : v3.cell? ⟨w3.heap.size, 3, none⟩ = some (.int .i64 (p3 : Int)) := by rw [T3.out.kr.cell]; rfl
      have z0 : v3.cell? ⟨w.heap.size + 1, 0, none⟩ = some (.int .i64 0) := by rw [T3.out.kd.cell]; rfl
      have z1 : v3.cell? ⟨w.heap.size + 1, 1, none⟩ = some (.int .i64 0) := by rw [T3.out.kd.cell]; rfl
      have z2 : v3.cell? ⟨w.heap.size + 1, 2, none⟩ = some (.int .i64 0) := by rw [T3.out.kd.cell]; rfl
      have z3 : v3.cell? ⟨w.heap.size + 1, 3, none⟩ = some (.int .i64 0) := by rw [T3.out.kd.cell]; rfl
      have f0 := T3.out.kd.frozen 0
      have f1 := T3.out.kd.frozen 1
      have f2 := T3.out.kd.frozen 2
      have f3 := T3.out.kd.frozen 3
      go_wp2_with fail
      generalize hWf : (((World.setCell v3 _ _).setCell _ _).setCell _ _).setCell _ _ = Wf
      obtain ⟨bf, cf, gf⟩ := T3.out.fin hWf
      have r0 : Wf.cell? ⟨w.heap.size + 1, 0, none⟩ = some (.int .i64 (q0 : Int)) := by rw [bf.cell]; rfl
      have r1 : Wf.cell? ⟨w.heap.size + 1, 1, none⟩ = some (.int .i64 (p1 : Int)) := by rw [bf.cell]; rfl
      have r2 : Wf.cell? ⟨w.heap.size + 1, 2, none⟩ = some (.int .i64 (p2 : Int)) := by rw [bf.cell]; rfl
      have r3 : Wf.cell? ⟨w.heap.size + 1, 3, none⟩ = some (.int .i64 (p3 : Int)) := by rw [bf.cell]; rfl
      exact bodyPost_ret (v := .agg #[.int .i64 (q0 : Int), .int .i64 (p1 : Int), .int .i64 (p2 : Int), .int .i64 (p3 : Int)]) (by simp [results, Try.results55, go_sem, r0, r1, r2, r3]) rfl ⟨_, _, _, _, RG.out, rfl, cf, gf⟩
    | true =>
      obtain ⟨v4, hv4⟩ : ∃ z, v3.alloc (.cells #[.int .i64 (-1), .int .i64 7, .int .i64 8] 3) = z := ⟨_, rfl⟩
      have hb4 : Below v3.heap.size v3 v4 := by rw [← hv4]; exact (Below.refl _ _).alloc (Nat.le_refl _) _
      have hl4 := T3.out.cur.lt
      have Q4 := Lib.hid (show Blk v4 v3.heap.size 3 (([-1, 7, 8] : List Int).map fun n => Value.int .i64 n).toArray by rw [← hv4]; exact Blk.new _ _ _)
      have T4 := Lib.hid (T3.out.fresh hb4)
      clear hb4 T3
      go_wp2_with fail
      clear hv4
      refine (pickInt_any v4 c v3.heap.size A len cap 3 [-1, 7, 8] rfl (by omega) (by omega) hlen T4.out.cur (by omega) Q4.out).mono ?_
      rintro e v5 ⟨q, hq, rfl, hcn, gn⟩
      have T5 := Lib.hid (T4.out.draw hcn gn)
      clear hcn gn hq T4 Q4
      have m0 : v5.cell? ⟨w3.heap.size, 0, none⟩ = some (.int .i64 (q0 : Int)) := by rw [T5.out.kr.cell]; rfl
      have m1 : v5.cell? ⟨w3.heap.size, 1, none⟩ = some (.int .i64 (p1 : Int)) := by rw [T5.out.kr.cell]; rfl
      have m2 : v5.cell? ⟨w3.heap.size, 2, none⟩ = some (.int .i64 (p2 : Int)) := by rw [T5.out.kr.cell]; rfl
      have m3 : v5.cell? ⟨w3.heap.size, 3, none⟩ = some (.int .i64 (p3 : Int)) := by rw [T5.out.kr.cell]; rfl
      have q0f := T5.out.kr.frozen 0
      go_upto_region 6 with fail
      clear q0f m0 m1 m2 m3
      generalize hU : World.setCell v5 _ _ = U6
      have T6 := Lib.hid (show C11 w U6 c A len cap w.heap.size (w.heap.size + 1) w3.heap.size #[.slice A1 n c1, .int .i64 wk, .int .i64 cp] q (p1 : Int) (p2 : Int) (p3 : Int) by rw [← hU]; exact T5.out.put0 _)
      clear hU T5
      have m0 : U6.cell? ⟨w3.heap.size, 0, none⟩ = some (.int .i64 q) := by rw [T6.out.kr.cell]; rfl
      have m1 : U6.cell? ⟨w3.heap.size, 1, none⟩ = some (.int .i64 (p1 : Int)) := by rw [T6.out.kr.cell]; rfl
      have m2 : U6.cell? ⟨w3.heap.size, 2, none⟩ = some (.int .i64 (p2 : Int)) := by rw [T6.out.kr.cell]; rfl
      have m3 : U6.cell? ⟨w3.heap.size, 3, none⟩ = some (.int .i64 (p3 : Int)) := by rw [T6.out.kr.cell]; rfl
      have z0 : U6.cell? ⟨w.heap.size + 1, 0, none⟩ = some (.int .i64 0) := by rw [T6.out.kd.cell]; rfl
      have z1 : U6.cell? ⟨w.heap.size + 1, 1, none⟩ = some (.int .i64 0) := by rw [T6.out.kd.cell]; rfl
      have z2 : U6.cell? ⟨w.heap.size + 1, 2, none⟩ = some (.int .i64 0) := by rw [T6.out.kd.cell]; rfl
      have z3 : U6.cell? ⟨w.heap.size + 1, 3, none⟩ = some (.int .i64 0) := by rw [T6.out.kd.cell]; rfl
      have f0 := T6.out.kd.frozen 0
      have f1 := T6.out.kd.frozen 1
      have f2 := T6.out.kd.frozen 2
      have f3 := T6.out.kd.frozen 3
      go_wp2_with fail
      generalize hWf : (((World.setCell U6 _ _).setCell _ _).setCell _ _).setCell _ _ = Wf
      obtain ⟨bf, cf, gf⟩ := T6.out.fin hWf
      have r0 : Wf.cell? ⟨w.heap.size + 1, 0, none⟩ = some (.int .i64 q) := by rw [bf.cell]; rfl
      have r1 : Wf.cell? ⟨w.heap.size + 1, 1, none⟩ = some (.int .i64 (p1 : Int)) := by rw [bf.cell]; rfl
      have r2 : Wf.cell? ⟨w.heap.size + 1, 2, none⟩ = some (.int .i64 (p2 : Int)) := by rw [bf.cell]; rfl
      have r3 : Wf.cell? ⟨w.heap.size + 1, 3, none⟩ = some (.int .i64 (p3 : Int)) := by rw [bf.cell]; rfl
      exact bodyPost_ret (v := .agg #[.int .i64 q, .int .i64 (p1 : Int), .int .i64 (p2 : Int), .int .i64 (p3 : Int)]) (by simp [results, Try.results55, go_sem, r0, r1, r2, r3]) rfl ⟨_, _, _, _, RG.out, rfl, cf, gf⟩
  · have qk : decide ((n : Int) > 0) = false := by simp; omega
    go_wp2_with fail
    clear x0 qk hW
    refine (once_any 12 (by omega) (by omega) W1 c A len cap hlen S1.out.cur).mono ?_
    rintro e v3 ⟨bb, rfl, hc2, g2⟩
    have T3 := Lib.hid (S1.out.draw hc2 g2)
    clear hc2 g2 S1
    cases bb with
    | false =>
      have m0 : v3.cell? ⟨w3.heap.size, 0, none⟩ = some (.int .i64 0) := by rw [T3.out.kr.cell]; rfl
      have m1 : v3.cell? ⟨w3.heap.size, 1, none⟩ = some (.int .i64 (p1 : Int)) := by rw [T3.out.kr.cell]; rfl
      have m2 : v3.cell? ⟨w3.heap.size, 2, none⟩ = some (.int .i64 (p2 : Int)) := by rw [T3.out.kr.cell]; rfl
      have m3 : v3.cell? ⟨w3.heap.size, 3, none⟩ = some (.int .i64 (p3 : Int)) := by rw [T3.out.kr.cell]; rfl
      have z0 : v3.cell? ⟨w.heap.size + 1, 0, none⟩ = some (.int .i64 0) := by rw [T3.out.kd.cell]; rfl
      have z1 : v3.cell? ⟨w.heap.size + 1, 1, none⟩ = some (.int .i64 0) := by rw [T3.out.kd.cell]; rfl
      have z2 : v3.cell? ⟨w.heap.size + 1, 2, none⟩ = some (.int .i64 0) := by rw [T3.out.kd.cell]; rfl
      have z3 : v3.cell? ⟨w.heap.size + 1, 3, none⟩ = some (.int .i64 0) := by rw [T3.out.kd.cell]; rfl
      have f0 := T3.out.kd.frozen 0
      have f1 := T3.out.kd.frozen 1
      have f2 := T3.out.kd.frozen 2
      have f3 := T3.out.kd.frozen 3
      go_wp2_with fail
      generalize hWf : (((World.setCell v3 _ _).setCell _ _).setCell _ _).setCell _ _ = Wf
      obtain ⟨bf, cf, gf⟩ := T3.out.fin hWf
      have r0 : Wf.cell? ⟨w.heap.size + 1, 0, none⟩ = some (.int .i64 0) := by rw [bf.cell]; rfl
      have r1 : Wf.cell? ⟨w.heap.size + 1, 1, none⟩ = some (.int .i64 (p1 : Int)) := by rw [bf.cell]; rfl
      have r2 : Wf.cell? ⟨w.heap.size + 1, 2, none⟩ = some (.int .i64 (p2 : Int)) := by rw [bf.cell]; rfl
      have r3 : Wf.cell? ⟨w.heap.size + 1, 3, none⟩ = some (.int .i64 (p3 : Int)) := by rw [bf.cell]; rfl
      exact bodyPost_ret (v := .agg #[.int .i64 0, .int .i64 (p1 : Int), .int .i64 (p2 : Int), .int .i64 (p3 : Int)]) (by simp [results, Try.results55, go_sem, r0, r1, r2, r3]) rfl ⟨_, _, _, _, RG.out, rfl, cf, gf⟩
    | true =>
      obtain ⟨v4, hv4⟩ : ∃ z, v3.alloc (.cells #[.int .i64 (-1), .int .i64 7, .int .i64 8] 3) = z := ⟨_, rfl⟩
      have hb4 : Below v3.heap.size v3 v4 := by rw [← hv4]; exact (Below.refl _ _).alloc (Nat.le_refl _) _
      have hl4 := T3.out.cur.lt
      have Q4 := Lib.hid (show Blk v4 v3.heap.size 3 (([-1, 7, 8] : List Int).map fun n => Value.int .i64 n).toArray by rw [← hv4]; exact Blk.new _ _ _)
      have T4 := Lib.hid (T3.out.fresh hb4)
      clear hb4 T3
      go_wp2_with fail
      clear hv4
      refine (pickInt_any v4 c v3.heap.size A len cap 3 [-1, 7, 8] rfl (by omega) (by omega) hlen T4.out.cur (by omega) Q4.out).mono ?_
      rintro e v5 ⟨q, hq, rfl, hcn, gn⟩
      have T5 := Lib.hid (T4.out.draw hcn gn)
      clear hcn gn hq T4 Q4
      have m0 : v5.cell? ⟨w3.heap.size, 0, none⟩ = some (.int .i64 0) := by rw [T5.out.kr.cell]; rfl
      have m1 : v5.cell? ⟨w3.heap.size, 1, none⟩ = some (.int .i64 (p1 : Int)) := by rw [T5.out.kr.cell]; rfl
      have m2 : v5.cell? ⟨w3.heap.size, 2, none⟩ = some (.int .i64 (p2 : Int)) := by rw [T5.out.kr.cell]; rfl
      have m3 : v5.cell? ⟨w3.heap.size, 3, none⟩ = some (.int .i64 (p3 : Int)) := by rw [T5.out.kr.cell]; rfl
      have q0f := T5.out.kr.frozen 0
      go_upto_region 6 with fail
      clear q0f m0 m1 m2 m3
      generalize hU : World.setCell v5 _ _ = U6
      have T6 := Lib.hid (show C11 w U6 c A len cap w.heap.size (w.heap.size + 1) w3.heap.size #[.slice A1 n c1, .int .i64 wk, .int .i64 cp] q (p1 : Int) (p2 : Int) (p3 : Int) by rw [← hU]; exact T5.out.put0 _)
      clear hU T5
      have m0 : U6.cell? ⟨w3.heap.size, 0, none⟩ = some (.int .i64 q) := by rw [T6.out.kr.cell]; rfl
      have m1 : U6.cell? ⟨w3.heap.size, 1, none⟩ = some (.int .i64 (p1 : Int)) := by rw [T6.out.kr.cell]; rfl
      have m2 : U6.cell? ⟨w3.heap.size, 2, none⟩ = some (.int .i64 (p2 : Int)) := by rw [T6.out.kr.cell]; rfl
      have m3 : U6.cell? ⟨w3.heap.size, 3, none⟩ = some (.int .i64 (p3 : Int)) := by rw [T6.out.kr.cell]; rfl
      have z0 : U6.cell? ⟨w.heap.size + 1, 0, none⟩ = some (.int .i64 0) := by rw [T6.out.kd.cell]; rfl
      have z1 : U6.cell? ⟨w.heap.size + 1, 1, none⟩ = some (.int .i64 0) := by rw [T6.out.kd.cell]; rfl
      have z2 : U6.cell? ⟨w.heap.size + 1, 2, none⟩ = some (.int .i64 0) := by rw [T6.out.kd.cell]; rfl
      have z3 : U6.cell? ⟨w.heap.size + 1, 3, none⟩ = some (.int .i64 0) := by rw [T6.out.kd.cell]; rfl
      have f0 := T6.out.kd.frozen 0
      have f1 := T6.out.kd.frozen 1
      have f2 := T6.out.kd.frozen 2
      have f3 := T6.out.kd.frozen 3
      go_wp2_with fail
      generalize hWf : (((World.setCell U6 _ _).setCell _ _).setCell _ _).setCell _ _ = Wf
      obtain ⟨bf, cf, gf⟩ := T6.out.fin hWf
      have r0 : Wf.cell? ⟨w.heap.size + 1, 0, none⟩ = some (.int .i64 q) := by rw [bf.cell]; rfl
      have r1 : Wf.cell? ⟨w.heap.size + 1, 1, none⟩ = some (.int .i64 (p1 : Int)) := by rw [bf.cell]; rfl
      have r2 : Wf.cell? ⟨w.heap.size + 1, 2, none⟩ = some (.int .i64 (p2 : Int)) := by rw [bf.cell]; rfl
      have r3 : Wf.cell? ⟨w.heap.size + 1, 3, none⟩ = some (.int .i64 (p3 : Int)) := by rw [bf.cell]; rfl
      exact bodyPost_ret (v := .agg #[.int .i64 q, .int .i64 (p1 : Int), .int .i64 (p2 : Int), .int .i64 (p3 : Int)]) (by simp [results, Try.results55, go_sem, r0, r1, r2, r3]) rfl ⟨_, _, _, _, RG.out, rfl, cf, gf⟩
end Go.Proofs.Ytbbagpnjjjohpaa.hexes

