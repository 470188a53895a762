/-
  A drawn region walked operation by operation: a step as one word, so that a region's text stays short.
-/
import Derived.Test.YtbbagpnjjjohpaaProg
import Derived.WalkKit
import Derived.Deep.RegionHeld3

namespace Go.Proofs.Ytbbagpnjjjohpaa.hexes
open Go.RowKit

theorem pt (l : List Value) (k : Nat) (v : Value) (d : List Deferred) : Act.put ⟨l.toArray, d⟩ (some k) v = ⟨(l.set k v).toArray, d⟩ := by simp [Act.put]

/-- An operation that yields a value may be taken. -/
def RegT (P : Program) (ops : Array Oper) (q : Oper) (d : Option Nat) (n : Nat) (L L' : Array Bool) : Prop :=
  ∀ {Q : Exit → Act → World → Prop} {S : World → Prop} {a : Act} {w : World} (v : Value), (∀ c a w, Q (.panic c) (a.put d v) w → Q (.panic c) a w) → YieldsIf P ops S q v a → S w → wpAnyH P .any ops Q S n L' (a.put d v) w → wpAnyH P .any ops Q S (n + 1) L a w
theorem regT {P : Program} {ops : Array Oper} {q : Oper} {d : Option Nat} {n : Nat} {L L' : Array Bool} {i : Nat} (hi : ops[i]? = some q) (hd : q.dst = d) (hs : Region.noSelect ops = true) (hf : Region.free .any ops L i = true) (hr : (Region.ready .any ops L).contains i = true) (hl : L.setIfInBounds i true = L') : RegT P ops q d n L L' := by
  subst hd hl
  exact fun v hQ hy hS h => wpAnyH_take (i := i) hi hs hf hr hQ hy hS h
theorem regY {P : Program} {ops : Array Oper} {q : Oper} {d : Option Nat} {n : Nat} {L L' : Array Bool} (t : RegT P ops q d n L L') {Q : Exit → Act → World → Prop} {S : World → Prop} {a : Act} {w : World} (v : Value) (hv : ∀ w, S w → (execOp a.eval q).run P w = .ok (.value v) w) (hS : S w) (h : wpAnyH P .any ops Q S n L' (a.put d v) w)
    (hw : Region.wanted q (yielded ops a.tmps) = true := by rfl) (hQ : ∀ c a w, Q (.panic c) (a.put d v) w → Q (.panic c) a w := by exact fun _ _ _ h => h) : wpAnyH P .any ops Q S (n + 1) L a w := t v hQ (.inl ⟨hw, hv⟩) hS h
/-- An operation that is carried out, the only one that may come up. -/
def RegC (P : Program) (ops : Array Oper) (q : Oper) (d : Option Nat) (n : Nat) (L L' : Array Bool) : Prop :=
  ∀ {Q : Exit → Act → World → Prop} {S : World → Prop} {a : Act} {w : World}, (∀ K' : Act → World → Prop, Shut (∀ a w, S w → (S w → wpAnyH P .any ops Q S n L' a w) → K' a w) → if Region.wanted q (yielded ops a.tmps) = true then Oper.wp P q a w K' Q else K' (a.put d undef) w) → wpAnyH P .any ops Q S (n + 1) L a w
theorem regC {P : Program} {ops : Array Oper} {q : Oper} {d : Option Nat} {n : Nat} {L L' : Array Bool} {i : Nat} (hi : ops[i]? = some q) (hd : q.dst = d) (hr : Region.ready .any ops L = [i]) (hl : L.setIfInBounds i true = L') : RegC P ops q d n L L' := by
  subst hd hl
  exact fun h => wpAnyH_ready (rs := [i]) hr (by simp) (AllReadyH.cons hi (fun K' hK => h K' hK) AllReadyH.nil)
end Go.Proofs.Ytbbagpnjjjohpaa.hexes

