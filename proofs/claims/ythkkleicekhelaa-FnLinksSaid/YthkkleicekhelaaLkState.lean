/-
  What a draw of a link keeps from step to step.
-/
import Derived.Test.YthkkleicekhelaaRcKit
import Derived.Test.YthkkleicekhelaaDrawKit
namespace Go.Proofs.Ythkkleicekhelaa.hexes
open Go.RowKit

structure LkSt (b wx : World) (c : Nat) (A : Option Addr) (len cap r x : Nat) (p a bb s g : Int) (A1 : Option Addr) (n c1 : Nat) (zs : List Rc) : Prop where
  c0 : Cursor b c A len cap
  br : b.heap.size ≤ r
  bx : b.heap.size ≤ x
  rx : r ≠ x
  cur : Cursor wx c A len cap
  gr : b.grownBy wx (some c)
  kr : Blk wx r 26 #[.int .i64 0, .slice none 0 0, .int .i64 0, .int .i64 0, .int .i64 0, .int .i64 0]
  kx : Blk wx x 26 #[.int .i64 p, .slice A1 n c1, .int .i64 a, .int .i64 bb, .int .i64 s, .int .i64 g]
  row : wx.ownsRow b.heap.size 30 5 (.slice A1 n c1) n (rcCells zs)

variable {b wx w' : World} {c len cap r x n c1 : Nat} {A A1 : Option Addr} {p a bb s g : Int} {zs : List Rc}

theorem LkSt.cr (S : LkSt b wx c A len cap r x p a bb s g A1 n c1 zs) : c < r ∧ c < x := by
  have := S.c0.lt
  have := S.br
  have := S.bx
  omega

theorem LkSt.fresh (S : LkSt b wx c A len cap r x p a bb s g A1 n c1 zs) (hb : Below wx.heap.size wx w') : LkSt b w' c A len cap r x p a bb s g A1 n c1 zs :=
  ⟨S.c0, S.br, S.bx, S.rx, S.cur.belowD hb, grown_below S.gr hb, S.kr.below hb, S.kx.below hb, own_below S.row hb⟩

theorem LkSt.drew (S : LkSt b wx c A len cap r x p a bb s g A1 n c1 zs) : LkSt b wx.drew c A len cap r x p a bb s g A1 n c1 zs := S.fresh ((Below.refl _ _).drew)

theorem LkSt.draw (S : LkSt b wx c A len cap r x p a bb s g A1 n c1 zs) (hc : Cursor w' c A len cap) (g' : wx.grownBy w' (some c)) : LkSt b w' c A len cap r x p a bb s g A1 n c1 zs := by
  have h := S.cr
  obtain ⟨i, hh, hi, hblk⟩ := S.cur.at_
  exact ⟨S.c0, S.br, S.bx, S.rx, hc, grown_trans S.gr g', S.kr.grown g' (by simp; omega), S.kx.grown g' (by simp; omega), S.row.kept g' (.inr (own_type S.row hblk (by decide)))⟩

theorem LkSt.store (S : LkSt b wx c A len cap r x p a bb s g A1 n c1 zs) (i : Nat) (u : Value) :
    Cursor (wx.setCell ⟨x, i, none⟩ u) c A len cap ∧ b.grownBy (wx.setCell ⟨x, i, none⟩ u) (some c) ∧ Blk (wx.setCell ⟨x, i, none⟩ u) r 26 #[.int .i64 0, .slice none 0 0, .int .i64 0, .int .i64 0, .int .i64 0, .int .i64 0] ∧ (wx.setCell ⟨x, i, none⟩ u).ownsRow b.heap.size 30 5 (.slice A1 n c1) n (rcCells zs) := by
  have h := S.cr
  have g1 := grown_set_new S.gr (p := ⟨x, i, none⟩) S.bx u
  exact ⟨S.c0.back S.cur g1 (Below.heap_setCell _ _ _ c (by simp; omega)), g1, S.kr.other (by simpa using S.rx) u, S.row.kept (grown_set wx ⟨x, i, none⟩ u) (.inr (own_type S.row S.kx (by decide)))⟩

theorem LkSt.put0 (S : LkSt b wx c A len cap r x p a bb s g A1 n c1 zs) (v : Int) : LkSt b (wx.setCell ⟨x, 0, none⟩ (.int .i64 v)) c A len cap r x v a bb s g A1 n c1 zs := by
  obtain ⟨h1, h2, h3, h4⟩ := S.store 0 (.int .i64 v)
  exact ⟨S.c0, S.br, S.bx, S.rx, h1, h2, h3, S.kx.put 0 _, h4⟩

theorem LkSt.put2 (S : LkSt b wx c A len cap r x p a bb s g A1 n c1 zs) (v : Int) : LkSt b (wx.setCell ⟨x, 2, none⟩ (.int .i64 v)) c A len cap r x p v bb s g A1 n c1 zs := by
  obtain ⟨h1, h2, h3, h4⟩ := S.store 2 (.int .i64 v)
  exact ⟨S.c0, S.br, S.bx, S.rx, h1, h2, h3, S.kx.put 2 _, h4⟩

theorem LkSt.put3 (S : LkSt b wx c A len cap r x p a bb s g A1 n c1 zs) (v : Int) : LkSt b (wx.setCell ⟨x, 3, none⟩ (.int .i64 v)) c A len cap r x p a v s g A1 n c1 zs := by
  obtain ⟨h1, h2, h3, h4⟩ := S.store 3 (.int .i64 v)
  exact ⟨S.c0, S.br, S.bx, S.rx, h1, h2, h3, S.kx.put 3 _, h4⟩

theorem LkSt.put4 (S : LkSt b wx c A len cap r x p a bb s g A1 n c1 zs) (v : Int) : LkSt b (wx.setCell ⟨x, 4, none⟩ (.int .i64 v)) c A len cap r x p a bb v g A1 n c1 zs := by
  obtain ⟨h1, h2, h3, h4⟩ := S.store 4 (.int .i64 v)
  exact ⟨S.c0, S.br, S.bx, S.rx, h1, h2, h3, S.kx.put 4 _, h4⟩

theorem LkSt.put5 (S : LkSt b wx c A len cap r x p a bb s g A1 n c1 zs) (v : Int) : LkSt b (wx.setCell ⟨x, 5, none⟩ (.int .i64 v)) c A len cap r x p a bb s v A1 n c1 zs := by
  obtain ⟨h1, h2, h3, h4⟩ := S.store 5 (.int .i64 v)
  exact ⟨S.c0, S.br, S.bx, S.rx, h1, h2, h3, S.kx.put 5 _, h4⟩

/-- Another list of records, of its own row, laid into the link. -/
theorem LkSt.putQ (S : LkSt b wx c A len cap r x p a bb s g A1 n c1 zs) {A2 : Option Addr} {m c2 : Nat} {us : List Rc} (hO : wx.ownsRow b.heap.size 30 5 (.slice A2 m c2) m (rcCells us)) :
    LkSt b (wx.setCell ⟨x, 1, none⟩ (.slice A2 m c2)) c A len cap r x p a bb s g A2 m c2 us := by
  obtain ⟨h1, h2, h3, _⟩ := S.store 1 (.slice A2 m c2)
  exact ⟨S.c0, S.br, S.bx, S.rx, h1, h2, h3, S.kx.put 1 _, hO.kept (grown_set wx ⟨x, 1, none⟩ _) (.inr (own_type hO S.kx (by decide)))⟩

/-- All fields laid anew, as an assignment of a whole link lays them. -/
theorem LkSt.put6 (S : LkSt b wx c A len cap r x p a bb s g A1 n c1 zs) {A2 : Option Addr} {m c2 : Nat} {us : List Rc} (hO : wx.ownsRow b.heap.size 30 5 (.slice A2 m c2) m (rcCells us)) (p' a' b' s' g' : Int) {wf : World}
    (hw : (((((wx.setCell ⟨x, 0, none⟩ (.int .i64 p')).setCell ⟨x, 1, none⟩ (.slice A2 m c2)).setCell ⟨x, 2, none⟩ (.int .i64 a')).setCell ⟨x, 3, none⟩ (.int .i64 b')).setCell ⟨x, 4, none⟩ (.int .i64 s')).setCell ⟨x, 5, none⟩ (.int .i64 g') = wf) :
    LkSt b wf c A len cap r x p' a' b' s' g' A2 m c2 us := by
  have S0 := S.put0 p'
  have hO0 := hO.kept (grown_set wx ⟨x, 0, none⟩ (.int .i64 p')) (.inr (own_type hO S.kx (by decide)))
  rw [← hw]
  exact ((((S0.putQ hO0).put2 a').put3 b').put4 s').put5 g'

/-- Behind an append to the list and the store of its result. -/
theorem LkSt.app (S : LkSt b wx c A len cap r x p a bb s g A1 n c1 zs) {z : Rc} {v : Value} (hO : w'.ownsRow b.heap.size 30 5 v (n + 1) (rcCells zs ++ rcCells [z])) (hG : wx.grownBy w' (Value.slice A1 n c1).ownBlock) :
    ∃ A2 c2, v = .slice A2 (n + 1) c2 ∧ LkSt b (w'.setCell ⟨x, 1, none⟩ v) c A len cap r x p a bb s g A2 (n + 1) c2 (zs ++ [z]) := by
  have h := S.cr
  obtain ⟨A2, c2, rfl, _⟩ := own_form hO
  have nr := own_type S.row S.kr (by decide)
  have nx := own_type S.row S.kx (by decide)
  obtain ⟨i, hh, hi, hblk⟩ := S.cur.at_
  have nc := own_type S.row hblk (by decide)
  have k1 := S.kr.grown hG (Ne.symm nr)
  have k2 := S.kx.grown hG (Ne.symm nx)
  have g1 : b.grownBy w' (some c) := grown_row S.gr hG (fun g hg => own_ge S.row g hg)
  have c1' : Cursor w' c A len cap := S.c0.back S.cur g1 (hG.block c hblk.lt (Ne.symm nc))
  have g2 := grown_set_new g1 (p := ⟨x, 1, none⟩) S.bx (.slice A2 (n + 1) c2)
  refine ⟨A2, c2, rfl, S.c0, S.br, S.bx, S.rx, S.c0.back c1' g2 (Below.heap_setCell _ _ _ c (by simp; omega)), g2, k1.other (by simpa using S.rx) _, k2.put 1 _, ?_⟩
  rw [rcCells_append]
  exact hO.kept (grown_set w' ⟨x, 1, none⟩ _) (.inr (own_type hO k2 (by decide)))

/-- The link laid into the result. -/
theorem LkSt.fin (S : LkSt b wx c A len cap r x p a bb s g A1 n c1 zs) {wf : World} (hw : (((((wx.setCell ⟨r, 0, none⟩ (.int .i64 p)).setCell ⟨r, 1, none⟩ (.slice A1 n c1)).setCell ⟨r, 2, none⟩ (.int .i64 a)).setCell ⟨r, 3, none⟩ (.int .i64 bb)).setCell ⟨r, 4, none⟩ (.int .i64 s)).setCell ⟨r, 5, none⟩ (.int .i64 g) = wf) :
    Blk wf r 26 #[.int .i64 p, .slice A1 n c1, .int .i64 a, .int .i64 bb, .int .i64 s, .int .i64 g] ∧ wf.ownsRow b.heap.size 30 5 (.slice A1 n c1) n (rcCells zs) ∧ Cursor wf c A len cap ∧ b.grownBy wf (some c) := by
  have h := S.cr
  have hr : ∀ {w1 : World} (k : Cursor w1 c A len cap ∧ b.grownBy w1 (some c)) (i : Nat) (u : Value), Cursor (w1.setCell ⟨r, i, none⟩ u) c A len cap ∧ b.grownBy (w1.setCell ⟨r, i, none⟩ u) (some c) := fun k i u => by
    have g1 := grown_set_new k.2 (p := ⟨r, i, none⟩) S.br u
    exact ⟨S.c0.back k.1 g1 (Below.heap_setCell _ _ _ c (by simp; omega)), g1⟩
  have ho : ∀ {w1 : World} {cs : Array Value} (k : Blk w1 r 26 cs ∧ w1.ownsRow b.heap.size 30 5 (.slice A1 n c1) n (rcCells zs)) (i : Nat) (u : Value), Blk (w1.setCell ⟨r, i, none⟩ u) r 26 (cs.setIfInBounds i u) ∧ (w1.setCell ⟨r, i, none⟩ u).ownsRow b.heap.size 30 5 (.slice A1 n c1) n (rcCells zs) := fun k i u =>
    ⟨k.1.put i u, k.2.kept (grown_set _ ⟨r, i, none⟩ u) (.inr (own_type k.2 k.1 (by decide)))⟩
  have h1 := hr (hr (hr (hr (hr (hr ⟨S.cur, S.gr⟩ 0 (.int .i64 p)) 1 (.slice A1 n c1)) 2 (.int .i64 a)) 3 (.int .i64 bb)) 4 (.int .i64 s)) 5 (.int .i64 g)
  have h2 := ho (ho (ho (ho (ho (ho ⟨S.kr, S.row⟩ 0 (.int .i64 p)) 1 (.slice A1 n c1)) 2 (.int .i64 a)) 3 (.int .i64 bb)) 4 (.int .i64 s)) 5 (.int .i64 g)
  rw [hw] at h1 h2
  exact ⟨h2.1, h2.2, h1.1, h1.2⟩

end Go.Proofs.Ythkkleicekhelaa.hexes
