/-
  Drawn stamps: the contracts of spec.l02Stamp, l02Any and l02Two.
  What the draws of nodes and links share.
  What a draw of a node keeps from step to step.
-/
import Derived.Test.YtjplkoglibagkaaJ0
import Derived.Test.YtjplkoglibagkaaJ2
import Derived.Test.YtjplkoglibagkaaJ6
import Derived.Test.YtjplkoglibagkaaJ7
import Derived.Test.YtjplkoglibagkaaJ19
import Derived.Test.YtjplkoglibagkaaJ5

namespace Go.Proofs.Ytjplkoglibagkaa.hexes
open Go.RowKit

def In64 (x : Int) : Prop := -9223372036854775808 ≤ x ∧ x ≤ 9223372036854775807

/-- The cursor in a world that has only grown. -/
theorem Cursor.grown {w w' : World} {c len cap : Nat} {A : Option Addr} (h : Cursor w c A len cap) (hg : w.grownBy w' none) : Cursor w' c A len cap := by
  obtain ⟨i, hh, hi, hblk⟩ := h.at_
  exact ⟨⟨i, hh, hi, hblk.grown hg (by simp)⟩, h.bytes.grown ⟨hg.os, hg.tape, hg.output, hg.size, fun k hk _ => hg.block k hk (by simp)⟩⟩
theorem Cursor.lt {w : World} {c len cap : Nat} {A : Option Addr} (h : Cursor w c A len cap) : c < w.heap.size := by
  obtain ⟨i, hh, hi, hblk⟩ := h.at_
  exact hblk.lt

theorem Cursor.back {w w2 w3 : World} {c len cap : Nat} {A : Option Addr} (h : Cursor w c A len cap) (h2 : Cursor w2 c A len cap) (hg : w.grownBy w3 (some c)) (hb : w3.heap[c]? = w2.heap[c]?) : Cursor w3 c A len cap := by
  obtain ⟨i, hh, hi, hblk⟩ := h2.at_
  exact ⟨⟨i, hh, hi, hb.trans hblk⟩, h.bytes.grown hg⟩
theorem grown_set_new {a w : World} {row : Option Nat} (h : a.grownBy w row) {p : Addr} (hp : a.heap.size ≤ p.block) (u : Value) : a.grownBy (w.setCell p u) row :=
  ⟨h.os, h.tape, h.output, by simpa [World.setCell] using h.size, fun i hi hne => (Below.heap_setCell w p u i (by omega)).trans (h.block i hi hne)⟩
theorem grown_wide {a w : World} {row : Option Nat} (h : a.grownBy w none) : a.grownBy w row := ⟨h.os, h.tape, h.output, h.size, fun k hk _ => h.block k hk (by simp)⟩

/-- How a drawn stamp ends: a stamp, the cursor, nothing else written. -/
def StampEnd (w : World) (c : Nat) (A : Option Addr) (len cap : Nat) (e : Ending) (w' : World) : Prop :=
  ∃ x y : Int, In64 x ∧ In64 y ∧ e = .returned (.agg #[.int .i64 x, .int .i64 y]) ∧ Cursor w' c A len cap ∧ w.grownBy w' (some c)

theorem once_any (n : Nat) (h0 : 0 < n) (h1 : n ≤ 4294967296) (w : World) (c : Nat) (A : Option Addr) (len cap : Nat) (hlen : len ≤ 2097152) (hcur : Cursor w c A len cap) :
    Calls Try.prog 51 #[.pointer (some ⟨c, 0, none⟩), .int .i64 (n : Int)] w fun e w' => ∃ b : Bool, e = .returned (.bool b) ∧ Cursor w' c A len cap ∧ w.grownBy w' (some c) := by
  have HC := Lib.hid hcur
  clear hcur
  go_enter Try.func51, Try.ntmps51
  go_wp2_with fail
  refine (below_any n h0 h1 w c A len cap hlen HC.out).mono ?_
  rintro e w1 ⟨x, hx, rfl, hc1, g1⟩
  have C1 := Lib.hid hc1
  have G1 := Lib.hid g1
  clear hc1 g1
  go_wp2
  go_ret
  exact ⟨_, rfl, C1.out, G1.out⟩

/-- How a picked number ends. -/
def PickEnd (w : World) (c : Nat) (A : Option Addr) (len cap : Nat) (ns : List Int) (e : Ending) (w' : World) : Prop :=
  ∃ n ∈ ns, e = .returned (.int .i64 n) ∧ Cursor w' c A len cap ∧ w.grownBy w' (some c)

set_option maxRecDepth 100000 in
theorem pickInt_any (w : World) (c g : Nat) (A : Option Addr) (len cap m : Nat) (ns : List Int) (hm : ns.length = m) (h0 : 0 < m) (h1 : m ≤ 256) (hlen : len ≤ 2097152) (hcur : Cursor w c A len cap) (hgc : g ≠ c)
    (hblk : Blk w g 3 (ns.map fun n => Value.int .i64 n).toArray) :
    Calls Try.prog 48 #[.pointer (some ⟨c, 0, none⟩), .slice (some ⟨g, 0, none⟩) m m] w (PickEnd w c A len cap ns) := by
  have HC := Lib.hid hcur
  have HB := Lib.hid hblk
  clear hcur hblk
  go_enter Try.func48, Try.ntmps48
  go_wp2_with fail
  refine (below_any m h0 (by omega) w c A len cap hlen HC.out).mono ?_
  rintro e w1 ⟨x, hx, rfl, hc1, g1⟩
  have hb1 := HB.out.grown g1 (by simpa using hgc)
  have hxl : x < ns.length := by omega
  have d0 : w1.cell? ⟨g, x, none⟩ = some (.int .i64 (ns[x])) := by rw [hb1.cell]; simp [hxl]
  have C1 := Lib.hid hc1
  have G1 := Lib.hid g1
  have j0 : (0 : Int) ≤ (x : Int) := by omega
  have j1 : (x : Int) < (m : Int) := by omega
  clear hc1 g1 hb1 HC HB
  go_wp2
  go_ret
  exact ⟨_, List.getElem_mem hxl, rfl, C1.out, G1.out⟩

end Go.Proofs.Ytjplkoglibagkaa.hexes

namespace Go.Proofs.Ytjplkoglibagkaa.hexes
open Go.RowKit

def K64 (x : Int) : Prop := -9223372036854775808 ≤ x ∧ x ≤ 9223372036854775807

theorem grown_row {a w w' : World} {row r2 : Option Nat} (h : a.grownBy w row) (k : w.grownBy w' r2) (hr : ∀ g, r2 = some g → a.heap.size ≤ g) : a.grownBy w' row :=
  ⟨k.os.trans h.os, k.tape.trans h.tape, k.output.trans h.output, Nat.le_trans h.size k.size, fun i hi hne => (k.block i (Nat.lt_of_lt_of_le hi h.size) (fun e => by have := hr i e.symm; omega)).trans (h.block i hi hne)⟩

theorem Cursor.belowD {w w' : World} {c len cap : Nat} {A : Option Addr} (h : Cursor w c A len cap) (hb : Below w.heap.size w w') : Cursor w' c A len cap := by
  obtain ⟨i, hh, hi, hblk⟩ := h.at_
  exact ⟨⟨i, hh, hi, hblk.below hb⟩, h.bytes.below hb⟩

theorem grown_drewD (w : World) : w.grownBy w.drew none := ⟨rfl, rfl, rfl, Nat.le_refl _, fun _ _ _ => rfl⟩

end Go.Proofs.Ytjplkoglibagkaa.hexes

namespace Go.Proofs.Ytjplkoglibagkaa.hexes
open Go.RowKit

structure NdSt (b wx : World) (c : Nat) (A : Option Addr) (len cap r x : Nat) (k a bb : Int) (A1 : Option Addr) (n c1 : Nat) (zs : List Int) : Prop where
  c0 : Cursor b c A len cap
  br : b.heap.size ≤ r
  bx : b.heap.size ≤ x
  rx : r ≠ x
  cur : Cursor wx c A len cap
  gr : b.grownBy wx (some c)
  kr : Blk wx r 37 #[.int .i64 0, .int .i64 0, .int .i64 0, .slice none 0 0]
  kx : Blk wx x 37 #[.int .i64 k, .int .i64 a, .int .i64 bb, .slice A1 n c1]
  row : wx.ownsRow b.heap.size 3 1 (.slice A1 n c1) n (isCells zs)

variable {b wx w' : World} {c len cap r x n c1 : Nat} {A A1 : Option Addr} {k a bb : Int} {zs : List Int}

theorem NdSt.cr (S : NdSt b wx c A len cap r x k a bb A1 n c1 zs) : c < r ∧ c < x := by
  have := S.c0.lt
  have := S.br
  have := S.bx
  omega

theorem NdSt.fresh (S : NdSt b wx c A len cap r x k a bb A1 n c1 zs) (hb : Below wx.heap.size wx w') : NdSt b w' c A len cap r x k a bb A1 n c1 zs :=
  ⟨S.c0, S.br, S.bx, S.rx, S.cur.belowD hb, grown_below S.gr hb, S.kr.below hb, S.kx.below hb, own_below S.row hb⟩

theorem NdSt.drew (S : NdSt b wx c A len cap r x k a bb A1 n c1 zs) : NdSt b wx.drew c A len cap r x k a bb A1 n c1 zs := S.fresh ((Below.refl _ _).drew)

theorem NdSt.draw (S : NdSt b wx c A len cap r x k a bb A1 n c1 zs) (hc : Cursor w' c A len cap) (g : wx.grownBy w' (some c)) : NdSt b w' c A len cap r x k a bb A1 n c1 zs := by
  have h := S.cr
  obtain ⟨i, hh, hi, hblk⟩ := S.cur.at_
  exact ⟨S.c0, S.br, S.bx, S.rx, hc, grown_trans S.gr g, S.kr.grown g (by simp; omega), S.kx.grown g (by simp; omega), S.row.kept g (.inr (own_type S.row hblk (by decide)))⟩

theorem NdSt.store (S : NdSt b wx c A len cap r x k a bb A1 n c1 zs) (i : Nat) (u : Value) :
    Cursor (wx.setCell ⟨x, i, none⟩ u) c A len cap ∧ b.grownBy (wx.setCell ⟨x, i, none⟩ u) (some c) ∧ Blk (wx.setCell ⟨x, i, none⟩ u) r 37 #[.int .i64 0, .int .i64 0, .int .i64 0, .slice none 0 0] ∧ (wx.setCell ⟨x, i, none⟩ u).ownsRow b.heap.size 3 1 (.slice A1 n c1) n (isCells zs) := by
  have h := S.cr
  have g := grown_set_new S.gr (p := ⟨x, i, none⟩) S.bx u
  exact ⟨S.c0.back S.cur g (Below.heap_setCell _ _ _ c (by simp; omega)), g, S.kr.other (by simpa using S.rx) u, S.row.kept (grown_set wx ⟨x, i, none⟩ u) (.inr (own_type S.row S.kx (by decide)))⟩

theorem NdSt.put0 (S : NdSt b wx c A len cap r x k a bb A1 n c1 zs) (v : Int) : NdSt b (wx.setCell ⟨x, 0, none⟩ (.int .i64 v)) c A len cap r x v a bb A1 n c1 zs := by
  obtain ⟨h1, h2, h3, h4⟩ := S.store 0 (.int .i64 v)
  exact ⟨S.c0, S.br, S.bx, S.rx, h1, h2, h3, S.kx.put 0 _, h4⟩

theorem NdSt.put1 (S : NdSt b wx c A len cap r x k a bb A1 n c1 zs) (v : Int) : NdSt b (wx.setCell ⟨x, 1, none⟩ (.int .i64 v)) c A len cap r x k v bb A1 n c1 zs := by
  obtain ⟨h1, h2, h3, h4⟩ := S.store 1 (.int .i64 v)
  exact ⟨S.c0, S.br, S.bx, S.rx, h1, h2, h3, S.kx.put 1 _, h4⟩

theorem NdSt.put2 (S : NdSt b wx c A len cap r x k a bb A1 n c1 zs) (v : Int) : NdSt b (wx.setCell ⟨x, 2, none⟩ (.int .i64 v)) c A len cap r x k a v A1 n c1 zs := by
  obtain ⟨h1, h2, h3, h4⟩ := S.store 2 (.int .i64 v)
  exact ⟨S.c0, S.br, S.bx, S.rx, h1, h2, h3, S.kx.put 2 _, h4⟩

/-- Behind an append to the list and the store of its result. -/
theorem NdSt.app (S : NdSt b wx c A len cap r x k a bb A1 n c1 zs) {p : Int} {v : Value} (hO : w'.ownsRow b.heap.size 3 1 v (n + 1) (isCells zs ++ [.int .i64 p])) (hG : wx.grownBy w' (Value.slice A1 n c1).ownBlock) :
    ∃ A2 c2, v = .slice A2 (n + 1) c2 ∧ NdSt b (w'.setCell ⟨x, 3, none⟩ v) c A len cap r x k a bb A2 (n + 1) c2 (zs ++ [p]) := by
  have h := S.cr
  obtain ⟨A2, c2, rfl, _⟩ := own_form hO
  have nr := own_type S.row S.kr (by decide)
  have nx := own_type S.row S.kx (by decide)
  obtain ⟨i, hh, hi, hblk⟩ := S.cur.at_
  have nc := own_type S.row hblk (by decide)
  have k1 := S.kr.grown hG (Ne.symm nr)
  have k2 := S.kx.grown hG (Ne.symm nx)
  have kc := hblk.grown hG (Ne.symm nc)
  have g1 : b.grownBy w' (some c) := grown_row S.gr hG (fun g hg => own_ge S.row g hg)
  have c1' : Cursor w' c A len cap := S.c0.back S.cur g1 (hG.block c hblk.lt (Ne.symm nc))
  have g2 := grown_set_new g1 (p := ⟨x, 3, none⟩) S.bx (.slice A2 (n + 1) c2)
  refine ⟨A2, c2, rfl, S.c0, S.br, S.bx, S.rx, S.c0.back c1' g2 (Below.heap_setCell _ _ _ c (by simp; omega)), g2, k1.other (by simpa using S.rx) _, k2.put 3 _, ?_⟩
  have e : isCells (zs ++ [p]) = isCells zs ++ [.int .i64 p] := by simp [isCells]
  rw [e]
  exact hO.kept (grown_set w' ⟨x, 3, none⟩ _) (.inr (own_type hO k2 (by decide)))

/-- The node laid into the result. -/
theorem NdSt.fin (S : NdSt b wx c A len cap r x k a bb A1 n c1 zs) {wf : World} (hw : (((wx.setCell ⟨r, 0, none⟩ (.int .i64 k)).setCell ⟨r, 1, none⟩ (.int .i64 a)).setCell ⟨r, 2, none⟩ (.int .i64 bb)).setCell ⟨r, 3, none⟩ (.slice A1 n c1) = wf) :
    Blk wf r 37 #[.int .i64 k, .int .i64 a, .int .i64 bb, .slice A1 n c1] ∧ wf.ownsRow b.heap.size 3 1 (.slice A1 n c1) n (isCells zs) ∧ Cursor wf c A len cap ∧ b.grownBy wf (some c) := by
  have h := S.cr
  have k1 := (((S.kr.put 0 (.int .i64 k)).put 1 (.int .i64 a)).put 2 (.int .i64 bb)).put 3 (.slice A1 n c1)
  have g := grown_set_new (grown_set_new (grown_set_new (grown_set_new S.gr (p := ⟨r, 0, none⟩) S.br (.int .i64 k)) (p := ⟨r, 1, none⟩) S.br (.int .i64 a)) (p := ⟨r, 2, none⟩) S.br (.int .i64 bb)) (p := ⟨r, 3, none⟩) S.br (.slice A1 n c1)
  have o0 := S.row.kept (grown_set wx ⟨r, 0, none⟩ (.int .i64 k)) (.inr (own_type S.row S.kr (by decide)))
  have o1 := o0.kept (grown_set _ ⟨r, 1, none⟩ (.int .i64 a)) (.inr (own_type o0 (S.kr.put 0 _) (by decide)))
  have o2 := o1.kept (grown_set _ ⟨r, 2, none⟩ (.int .i64 bb)) (.inr (own_type o1 ((S.kr.put 0 _).put 1 _) (by decide)))
  have o3 := o2.kept (grown_set _ ⟨r, 3, none⟩ (.slice A1 n c1)) (.inr (own_type o2 (((S.kr.put 0 _).put 1 _).put 2 _) (by decide)))
  rw [hw] at k1 g o3
  refine ⟨k1, o3, S.c0.back S.cur g ?_, g⟩
  rw [← hw]
  exact (Below.heap_setCell _ _ _ c (by simp; omega)).trans ((Below.heap_setCell _ _ _ c (by simp; omega)).trans ((Below.heap_setCell _ _ _ c (by simp; omega)).trans (Below.heap_setCell _ _ _ c (by simp; omega))))

end Go.Proofs.Ytjplkoglibagkaa.hexes

