/-
  A drawn region walked operation by operation: a step as one word, so that a region's text stays short.
  The reference's CellOrder: the contract of spec.CellOrder.
  The reference's Recall: the contract of spec.Recall.
-/
import Derived.Test.YtbbagpnjjjohpaaProg
import Derived.WalkKit
import Derived.Deep.RegionHeld3
import Derived.Test.YtbbagpnjjjohpaaJ29
import Derived.Test.YtbbagpnjjjohpaaJ30
import Derived.Laws.AppendOwnNone

namespace Go.Proofs.Ytbbagpnjjjohpaa.hexes
open Go.RowKit

theorem pt (l : List Value) (k : Nat) (v : Value) (d : List Deferred) : Act.put ⟨l.toArray, d⟩ (some k) v = ⟨(l.set k v).toArray, d⟩ := by simp [Act.put]
theorem pn (a : Act) (v : Value) : a.put none v = a := rfl

/-- An operation that yields a value may be taken. -/
def RegT (P : Program) (ops : Array Oper) (q : Oper) (d : Option Nat) (n : Nat) (L L' : Array Bool) : Prop :=
  ∀ {Q : Exit → Act → World → Prop} {S : World → Prop} {a : Act} {w : World} (v : Value), (∀ c a w, Q (.panic c) (a.put d v) w → Q (.panic c) a w) → YieldsIf P ops S q v a → S w → wpAnyH P .any ops Q S n L' (a.put d v) w → wpAnyH P .any ops Q S (n + 1) L a w
theorem regT {P : Program} {ops : Array Oper} {q : Oper} {d : Option Nat} {n : Nat} {L L' : Array Bool} {i : Nat} (hi : ops[i]? = some q) (hd : q.dst = d) (hs : Region.noSelect ops = true) (hf : Region.free .any ops L i = true) (hr : (Region.ready .any ops L).contains i = true) (hl : L.setIfInBounds i true = L') : RegT P ops q d n L L' := by
  subst hd hl
  exact fun v hQ hy hS h => wpAnyH_take (i := i) hi hs hf hr hQ hy hS h
theorem regY {P : Program} {ops : Array Oper} {q : Oper} {d : Option Nat} {n : Nat} {L L' : Array Bool} (t : RegT P ops q d n L L') {Q : Exit → Act → World → Prop} {S : World → Prop} {a : Act} {w : World} (v : Value) (hv : ∀ w, S w → (execOp a.eval q).run P w = .ok (.value v) w) (hS : S w) (h : wpAnyH P .any ops Q S n L' (a.put d v) w)
    (hw : Region.wanted q (yielded ops a.tmps) = true := by rfl) (hQ : ∀ c a w, Q (.panic c) (a.put d v) w → Q (.panic c) a w := by exact fun _ _ _ h => h) : wpAnyH P .any ops Q S (n + 1) L a w := t v hQ (.inl ⟨hw, hv⟩) hS h
/-- An operation that is carried out, the only one that may come up. -/
def RegC (P : Program) (ops : Array Oper) (q : Oper) (d : Option Nat) (n : Nat) (L L' : Array Bool) : Prop :=
  ∀ {Q : Exit → Act → World → Prop} {S : World → Prop} {a : Act} {w : World}, (∀ K' : Act → World → Prop, Shut (∀ a w, S w → (S w → wpAnyH P .any ops Q S n L' a w) → K' a w) → if Region.wanted q (yielded ops a.tmps) = true then Oper.wp P q a w K' Q else K' (a.put d undef) w) → wpAnyH P .any ops Q S (n + 1) L a w
theorem regC {P : Program} {ops : Array Oper} {q : Oper} {d : Option Nat} {n : Nat} {L L' : Array Bool} {i : Nat} (hi : ops[i]? = some q) (hd : q.dst = d) (hr : Region.ready .any ops L = [i]) (hl : L.setIfInBounds i true = L') : RegC P ops q d n L L' := by
  subst hd hl
  exact fun h => wpAnyH_ready (rs := [i]) hr (by simp) (AllReadyH.cons hi (fun K' hK => h K' hK) AllReadyH.nil)
end Go.Proofs.Ytbbagpnjjjohpaa.hexes

namespace Go.Proofs.Ytbbagpnjjjohpaa.hexes
open Go.RowKit

structure CeTwo (W : World) (b : Nat) (p0 p1 p2 p3 q0 q1 q2 q3 : Int) (w' : World) : Prop where
  c0 : w'.cell? ⟨b, 0, none⟩ = some (.int .i64 p0)
  c1 : w'.cell? ⟨b, 1, none⟩ = some (.int .i64 p1)
  c2 : w'.cell? ⟨b, 2, none⟩ = some (.int .i64 p2)
  c3 : w'.cell? ⟨b, 3, none⟩ = some (.int .i64 p3)
  d0 : w'.cell? ⟨b + 1, 0, none⟩ = some (.int .i64 q0)
  d1 : w'.cell? ⟨b + 1, 1, none⟩ = some (.int .i64 q1)
  d2 : w'.cell? ⟨b + 1, 2, none⟩ = some (.int .i64 q2)
  d3 : w'.cell? ⟨b + 1, 3, none⟩ = some (.int .i64 q3)
  bel : Below W.heap.size W w'
theorem CeTwo.drew {W : World} {b : Nat} {p0 p1 p2 p3 q0 q1 q2 q3 : Int} {w' : World} (h : CeTwo W b p0 p1 p2 p3 q0 q1 q2 q3 w') : CeTwo W b p0 p1 p2 p3 q0 q1 q2 q3 w'.drew := ⟨h.c0, h.c1, h.c2, h.c3, h.d0, h.d1, h.d2, h.d3, h.bel.drew⟩
theorem CeTwo.below {W : World} {b : Nat} {p0 p1 p2 p3 q0 q1 q2 q3 : Int} {w' w2 : World} (h : CeTwo W b p0 p1 p2 p3 q0 q1 q2 q3 w') (hb : Below w'.heap.size w' w2) : CeTwo W b p0 p1 p2 p3 q0 q1 q2 q3 w2 := ⟨below_keep hb h.c0, below_keep hb h.c1, below_keep hb h.c2, below_keep hb h.c3, below_keep hb h.d0, below_keep hb h.d1, below_keep hb h.d2, below_keep hb h.d3, below_chain h.bel hb⟩

end Go.Proofs.Ytbbagpnjjjohpaa.hexes

namespace Go.Proofs.Ytbbagpnjjjohpaa.hexes
open Go.RowKit

structure PX (b o : Nat) (p0 p1 p2 : Int) (xb : Nat) (x0 x1 x2 : Int) (w : World) : Prop where
  c0 : w.cell? ⟨b, o, none⟩ = some (.int .i64 p0)
  c1 : w.cell? ⟨b, o + 1, none⟩ = some (.int .i64 p1)
  c2 : w.cell? ⟨b, o + 2, none⟩ = some (.int .i64 p2)
  d0 : w.cell? ⟨xb, 0, none⟩ = some (.int .i64 x0)
  d1 : w.cell? ⟨xb, 1, none⟩ = some (.int .i64 x1)
  d2 : w.cell? ⟨xb, 2, none⟩ = some (.int .i64 x2)
theorem PX.drew {b o : Nat} {p0 p1 p2 : Int} {xb : Nat} {x0 x1 x2 : Int} {w : World} (h : PX b o p0 p1 p2 xb x0 x1 x2 w) : PX b o p0 p1 p2 xb x0 x1 x2 w.drew := ⟨h.c0, h.c1, h.c2, h.d0, h.d1, h.d2⟩

end Go.Proofs.Ytbbagpnjjjohpaa.hexes

