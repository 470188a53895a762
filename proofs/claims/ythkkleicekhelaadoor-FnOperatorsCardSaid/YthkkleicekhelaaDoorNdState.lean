/-
  What a draw of a node keeps from step to step.
-/
import Derived.Test.YthkkleicekhelaaDoorIntKit
import Derived.Test.YthkkleicekhelaaDoorOwnSet
import Derived.Test.YthkkleicekhelaaDoorDrawStamps
namespace Go.Proofs.YthkkleicekhelaaDoor.hexes
open Go.RowKit

def K64 (x : Int) : Prop := -9223372036854775808 ≤ x ∧ x ≤ 9223372036854775807

/-- A row's block is not one of another type. -/
theorem own_type {w : World} {B e size n g : Nat} {t : TypeId} {v : Value} {xs : List Value} {cs : Array Value} (h : w.ownsRow B e size v n xs) (k : Blk w g t cs) (ht : t ≠ e) : v.ownBlock ≠ some g := by
  rcases h.2 with ⟨rfl, _⟩ | ⟨g', cap, cur, rfl, _, hg, _⟩
  · simp [Value.ownBlock]
  · simp only [Value.ownBlock, ne_eq, Option.some.injEq]
    rintro rfl
    unfold Blk at k
    rw [k] at hg
    simp only [Option.some.injEq, Obj.cells.injEq] at hg
    exact ht hg.2.1

theorem grown_row {a w w' : World} {row r2 : Option Nat} (h : a.grownBy w row) (k : w.grownBy w' r2) (hr : ∀ g, r2 = some g → a.heap.size ≤ g) : a.grownBy w' row :=
  ⟨k.os.trans h.os, k.tape.trans h.tape, k.output.trans h.output, Nat.le_trans h.size k.size, fun i hi hne => (k.block i (Nat.lt_of_lt_of_le hi h.size) (fun e => by have := hr i e.symm; omega)).trans (h.block i hi hne)⟩

theorem Cursor.belowD {w w' : World} {c len cap : Nat} {A : Option Addr} (h : Cursor w c A len cap) (hb : Below w.heap.size w w') : Cursor w' c A len cap := by
  obtain ⟨i, hh, hi, hblk⟩ := h.at_
  exact ⟨⟨i, hh, hi, hblk.below hb⟩, h.bytes.below hb⟩

structure NdSt (b wx : World) (c : Nat) (A : Option Addr) (len cap r x : Nat) (k a bb : Int) (A1 : Option Addr) (n c1 : Nat) (zs : List Int) : Prop where
  c0 : Cursor b c A len cap
  br : b.heap.size ≤ r
  bx : b.heap.size ≤ x
  rx : r ≠ x
  cur : Cursor wx c A len cap
  gr : b.grownBy wx (some c)
  kr : Blk wx r 26 #[.int .i64 0, .int .i64 0, .int .i64 0, .slice none 0 0]
  kx : Blk wx x 26 #[.int .i64 k, .int .i64 a, .int .i64 bb, .slice A1 n c1]
  row : wx.ownsRow b.heap.size 3 1 (.slice A1 n c1) n (isCells zs)

theorem grown_drewD (w : World) : w.grownBy w.drew none := ⟨rfl, rfl, rfl, Nat.le_refl _, fun _ _ _ => rfl⟩

variable {b wx w' : World} {c len cap r x n c1 : Nat} {A A1 : Option Addr} {k a bb : Int} {zs : List Int}

theorem NdSt.cr (S : NdSt b wx c A len cap r x k a bb A1 n c1 zs) : c < r ∧ c < x := by
  have := S.c0.lt
  have := S.br
  have := S.bx
  omega

theorem NdSt.fresh (S : NdSt b wx c A len cap r x k a bb A1 n c1 zs) (hb : Below wx.heap.size wx w') : NdSt b w' c A len cap r x k a bb A1 n c1 zs :=
  ⟨S.c0, S.br, S.bx, S.rx, S.cur.belowD hb, grown_below S.gr hb, S.kr.below hb, S.kx.below hb, own_below S.row hb⟩

theorem NdSt.drew (S : NdSt b wx c A len cap r x k a bb A1 n c1 zs) : NdSt b wx.drew c A len cap r x k a bb A1 n c1 zs := S.fresh ((Below.refl _ _).drew)

theorem NdSt.draw (S : NdSt b wx c A len cap r x k a bb A1 n c1 zs) (hc : Cursor w' c A len cap) (g : wx.grownBy w' (some c)) : NdSt b w' c A len cap r x k a bb A1 n c1 zs := by
  have h := S.cr
  obtain ⟨i, hh, hi, hblk⟩ := S.cur.at_
  exact ⟨S.c0, S.br, S.bx, S.rx, hc, grown_trans S.gr g, S.kr.grown g (by simp; omega), S.kx.grown g (by simp; omega), S.row.kept g (.inr (own_type S.row hblk (by decide)))⟩

theorem NdSt.store (S : NdSt b wx c A len cap r x k a bb A1 n c1 zs) (i : Nat) (u : Value) :
    Cursor (wx.setCell ⟨x, i, none⟩ u) c A len cap ∧ b.grownBy (wx.setCell ⟨x, i, none⟩ u) (some c) ∧ Blk (wx.setCell ⟨x, i, none⟩ u) r 26 #[.int .i64 0, .int .i64 0, .int .i64 0, .slice none 0 0] ∧ (wx.setCell ⟨x, i, none⟩ u).ownsRow b.heap.size 3 1 (.slice A1 n c1) n (isCells zs) := by
  have h := S.cr
  have g := grown_set_new S.gr (p := ⟨x, i, none⟩) S.bx u
  exact ⟨S.c0.back S.cur g (Below.heap_setCell _ _ _ c (by simp; omega)), g, S.kr.other (by simpa using S.rx) u, S.row.kept (grown_set wx ⟨x, i, none⟩ u) (.inr (own_type S.row S.kx (by decide)))⟩

theorem NdSt.put0 (S : NdSt b wx c A len cap r x k a bb A1 n c1 zs) (v : Int) : NdSt b (wx.setCell ⟨x, 0, none⟩ (.int .i64 v)) c A len cap r x v a bb A1 n c1 zs := by
  obtain ⟨h1, h2, h3, h4⟩ := S.store 0 (.int .i64 v)
  exact ⟨S.c0, S.br, S.bx, S.rx, h1, h2, h3, S.kx.put 0 _, h4⟩

theorem NdSt.put1 (S : NdSt b wx c A len cap r x k a bb A1 n c1 zs) (v : Int) : NdSt b (wx.setCell ⟨x, 1, none⟩ (.int .i64 v)) c A len cap r x k v bb A1 n c1 zs := by
  obtain ⟨h1, h2, h3, h4⟩ := S.store 1 (.int .i64 v)
  exact ⟨S.c0, S.br, S.bx, S.rx, h1, h2, h3, S.kx.put 1 _, h4⟩

theorem NdSt.put2 (S : NdSt b wx c A len cap r x k a bb A1 n c1 zs) (v : Int) : NdSt b (wx.setCell ⟨x, 2, none⟩ (.int .i64 v)) c A len cap r x k a v A1 n c1 zs := by
  obtain ⟨h1, h2, h3, h4⟩ := S.store 2 (.int .i64 v)
  exact ⟨S.c0, S.br, S.bx, S.rx, h1, h2, h3, S.kx.put 2 _, h4⟩

/-- Behind an append to the list and the store of its result. -/
theorem NdSt.app (S : NdSt b wx c A len cap r x k a bb A1 n c1 zs) {p : Int} {v : Value} (hO : w'.ownsRow b.heap.size 3 1 v (n + 1) (isCells zs ++ [.int .i64 p])) (hG : wx.grownBy w' (Value.slice A1 n c1).ownBlock) :
    ∃ A2 c2, v = .slice A2 (n + 1) c2 ∧ NdSt b (w'.setCell ⟨x, 3, none⟩ v) c A len cap r x k a bb A2 (n + 1) c2 (zs ++ [p]) := by
  have h := S.cr
  obtain ⟨A2, c2, rfl, _⟩ := own_form hO
  have nr := own_type S.row S.kr (by decide)
  have nx := own_type S.row S.kx (by decide)
  obtain ⟨i, hh, hi, hblk⟩ := S.cur.at_
  have nc := own_type S.row hblk (by decide)
  have k1 := S.kr.grown hG (Ne.symm nr)
  have k2 := S.kx.grown hG (Ne.symm nx)
  have kc := hblk.grown hG (Ne.symm nc)
  have g1 : b.grownBy w' (some c) := grown_row S.gr hG (fun g hg => own_ge S.row g hg)
  have c1' : Cursor w' c A len cap := S.c0.back S.cur g1 (hG.block c hblk.lt (Ne.symm nc))
  have g2 := grown_set_new g1 (p := ⟨x, 3, none⟩) S.bx (.slice A2 (n + 1) c2)
  refine ⟨A2, c2, rfl, S.c0, S.br, S.bx, S.rx, S.c0.back c1' g2 (Below.heap_setCell _ _ _ c (by simp; omega)), g2, k1.other (by simpa using S.rx) _, k2.put 3 _, ?_⟩
  have e : isCells (zs ++ [p]) = isCells zs ++ [.int .i64 p] := by simp [isCells]
  rw [e]
  exact hO.kept (grown_set w' ⟨x, 3, none⟩ _) (.inr (own_type hO k2 (by decide)))

/-- The node laid into the result. -/
theorem NdSt.fin (S : NdSt b wx c A len cap r x k a bb A1 n c1 zs) {wf : World} (hw : (((wx.setCell ⟨r, 0, none⟩ (.int .i64 k)).setCell ⟨r, 1, none⟩ (.int .i64 a)).setCell ⟨r, 2, none⟩ (.int .i64 bb)).setCell ⟨r, 3, none⟩ (.slice A1 n c1) = wf) :
    Blk wf r 26 #[.int .i64 k, .int .i64 a, .int .i64 bb, .slice A1 n c1] ∧ wf.ownsRow b.heap.size 3 1 (.slice A1 n c1) n (isCells zs) ∧ Cursor wf c A len cap ∧ b.grownBy wf (some c) := by
  have h := S.cr
  have k1 := (((S.kr.put 0 (.int .i64 k)).put 1 (.int .i64 a)).put 2 (.int .i64 bb)).put 3 (.slice A1 n c1)
  have g := grown_set_new (grown_set_new (grown_set_new (grown_set_new S.gr (p := ⟨r, 0, none⟩) S.br (.int .i64 k)) (p := ⟨r, 1, none⟩) S.br (.int .i64 a)) (p := ⟨r, 2, none⟩) S.br (.int .i64 bb)) (p := ⟨r, 3, none⟩) S.br (.slice A1 n c1)
  have o0 := S.row.kept (grown_set wx ⟨r, 0, none⟩ (.int .i64 k)) (.inr (own_type S.row S.kr (by decide)))
  have o1 := o0.kept (grown_set _ ⟨r, 1, none⟩ (.int .i64 a)) (.inr (own_type o0 (S.kr.put 0 _) (by decide)))
  have o2 := o1.kept (grown_set _ ⟨r, 2, none⟩ (.int .i64 bb)) (.inr (own_type o1 ((S.kr.put 0 _).put 1 _) (by decide)))
  have o3 := o2.kept (grown_set _ ⟨r, 3, none⟩ (.slice A1 n c1)) (.inr (own_type o2 (((S.kr.put 0 _).put 1 _).put 2 _) (by decide)))
  rw [hw] at k1 g o3
  refine ⟨k1, o3, S.c0.back S.cur g ?_, g⟩
  rw [← hw]
  exact (Below.heap_setCell _ _ _ c (by simp; omega)).trans ((Below.heap_setCell _ _ _ c (by simp; omega)).trans ((Below.heap_setCell _ _ _ c (by simp; omega)).trans (Below.heap_setCell _ _ _ c (by simp; omega))))

end Go.Proofs.YthkkleicekhelaaDoor.hexes
