/-
  What a draw of cells keeps from step to step.
-/
import Derived.Test.YtlmjmhdmhpkkkaaDrawKit
import Derived.Test.YtlmjmhdmhpkkkaaCeMore
namespace Go.Proofs.Ytlmjmhdmhpkkkaa.hexes
open Go.RowKit

structure CdSt (b wx : World) (c : Nat) (A : Option Addr) (len cap : Nat) (A1 : Option Addr) (m c1 : Nat) (zs : List Ce) : Prop where
  c0 : Cursor b c A len cap
  cur : Cursor wx c A len cap
  gr : b.grownBy wx (some c)
  row : wx.ownsRow b.heap.size 26 4 (.slice A1 m c1) m (ceCells zs)

variable {b wx w' : World} {c len cap m c1 : Nat} {A A1 : Option Addr} {zs : List Ce}

theorem CdSt.fresh (S : CdSt b wx c A len cap A1 m c1 zs) (hb : Below wx.heap.size wx w') : CdSt b w' c A len cap A1 m c1 zs :=
  ⟨S.c0, S.cur.belowD hb, grown_below S.gr hb, own_below S.row hb⟩
theorem CdSt.draw (S : CdSt b wx c A len cap A1 m c1 zs) (hc : Cursor w' c A len cap) (g : wx.grownBy w' (some c)) : CdSt b w' c A len cap A1 m c1 zs := by
  obtain ⟨i, hh, hi, hblk⟩ := S.cur.at_
  exact ⟨S.c0, hc, grown_trans S.gr g, S.row.kept g (.inr (own_type S.row hblk (by decide)))⟩
theorem CdSt.put (S : CdSt b wx c A len cap A1 m c1 zs) {A2 : Option Addr} {m2 c2 : Nat} {ys : List Ce} (o : w'.ownsRow wx.heap.size 26 4 (.slice A2 m2 c2) m2 (ceCells ys)) (hb : Below wx.heap.size wx w') : CdSt b w' c A len cap A2 m2 c2 ys :=
  ⟨S.c0, S.cur.belowD hb, grown_below S.gr hb, own_base o S.gr.size⟩
theorem CdSt.app (S : CdSt b wx c A len cap A1 m c1 zs) {x : Ce} {v : Value} (hO : w'.ownsRow b.heap.size 26 4 v (m + 1) (ceCells (zs ++ [x]))) (hG : wx.grownBy w' (Value.slice A1 m c1).ownBlock) :
    ∃ A2 c2, v = .slice A2 (m + 1) c2 ∧ CdSt b w' c A len cap A2 (m + 1) c2 (zs ++ [x]) := by
  obtain ⟨A2, c2, rfl, _⟩ := own_form hO
  obtain ⟨i, hh, hi, hblk⟩ := S.cur.at_
  have nc := own_type S.row hblk (by decide)
  have g1 : b.grownBy w' (some c) := grown_row S.gr hG (fun g hg => own_ge S.row g hg)
  exact ⟨A2, c2, rfl, S.c0, S.c0.back S.cur g1 (hG.block c hblk.lt (Ne.symm nc)), g1, hO⟩
theorem CdSt.ces (S : CdSt b wx c A len cap A1 m c1 zs) : zs.length = m ∧ Ces wx A1 zs := by
  obtain ⟨A', c', he, hl, hs⟩ := Ces.of_own S.row
  simp only [Value.slice.injEq, true_and] at he
  obtain ⟨rfl, rfl⟩ := he
  exact ⟨hl, hs⟩
end Go.Proofs.Ytlmjmhdmhpkkkaa.hexes
