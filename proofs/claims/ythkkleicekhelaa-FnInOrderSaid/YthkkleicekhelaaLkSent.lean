/-
  What is kept behind 'x, ok := SendOn(..)' where the order is drawn: the link in a block of its own, its queue in a row apart from it.
-/
import Derived.Test.YthkkleicekhelaaLkCame
namespace Go.Proofs.Ythkkleicekhelaa.hexes
open Go.RowKit

theorem Row.set {w : World} {lo hi e size n c : Nat} {A : Option Addr} {xs : List Value} (h : Row w lo hi e size A n c xs) {p : Addr} (u : Value) (hd : p.block < lo ∨ hi ≤ p.block) : Row (w.setCell p u) lo hi e size A n c xs :=
  h.wrote (lo' := p.block) (hi' := p.block + 1) ⟨some p.block, grown_set w p u, fun g hg => by cases hg; omega⟩ (by omega)

def SentOn (W : World) (p x b y g : Int) (r : Bool) (us : List Rc) (m : Nat) (t u : Value) (wx : World) : Prop :=
  ∃ j A2 c2 lo hi, t = .pointer (some ⟨j, 0, none⟩) ∧ u = .bool r ∧ Blk wx j 26 #[.int .i64 p, .slice A2 m c2, .int .i64 x, .int .i64 b, .int .i64 y, .int .i64 g] ∧ Row wx lo hi 30 5 A2 m c2 (rcCells us) ∧ W.heap.size ≤ lo ∧ lo ≤ hi ∧ hi ≤ wx.heap.size ∧ W.heap.size ≤ j ∧ (j < lo ∨ hi ≤ j) ∧ Below W.heap.size W wx

theorem sentOn_mk {W V : World} {p x b y g : Int} {r : Bool} {us : List Rc} {m j lo hi c2 : Nat} {A2 : Option Addr} (hB : Blk V j 26 #[.int .i64 0, .slice none 0 0, .int .i64 0, .int .i64 0, .int .i64 0, .int .i64 0]) (hR : Row V lo hi 30 5 A2 m c2 (rcCells us))
    (h1 : W.heap.size ≤ lo) (h2 : lo ≤ hi) (h3 : hi ≤ V.heap.size) (h4 : W.heap.size ≤ j) (h5 : j < lo ∨ hi ≤ j) (hb : Below W.heap.size W V) :
    SentOn W p x b y g r us m (.pointer (some ⟨j, 0, none⟩)) (.bool r) (((((((V.setCell ⟨j, 0, none⟩ (.int .i64 p)).setCell ⟨j, 1, none⟩ (.slice A2 m c2)).setCell ⟨j, 2, none⟩ (.int .i64 x)).setCell ⟨j, 3, none⟩ (.int .i64 b)).setCell ⟨j, 4, none⟩ (.int .i64 y)).setCell ⟨j, 5, none⟩ (.int .i64 g))) := by
  refine ⟨j, A2, c2, lo, hi, rfl, rfl, ?_, ?_, h1, h2, ?_, h4, h5, ?_⟩
  · exact (((((hB.put 0 _).put 1 _).put 2 _).put 3 _).put 4 _).put 5 _
  · exact (((((hR.set _ h5).set _ h5).set _ h5).set _ h5).set _ h5).set _ h5
  · simpa using h3
  · exact (((((hb.setCell h4 _).setCell h4 _).setCell h4 _).setCell h4 _).setCell h4 _).setCell h4 _
end Go.Proofs.Ythkkleicekhelaa.hexes
