/-
  A drawn region walked operation by operation: a step as one word, so that a region's text stays short.
  A statement of spec.CellOrder: its operations, and a theorem a step.
  The reference's CellOrder: the contract of spec.CellOrder.
-/
import Derived.Test.YtlanmkimaambgaaProg
import Derived.WalkKit
import Derived.Deep.RegionHeld3
import Derived.Test.YtlanmkimaambgaaS8

namespace Go.Proofs.Ytlanmkimaambgaa.hexes
open Go.RowKit

theorem pt (l : List Value) (k : Nat) (v : Value) (d : List Deferred) : Act.put ⟨l.toArray, d⟩ (some k) v = ⟨(l.set k v).toArray, d⟩ := by simp [Act.put]
theorem pn (a : Act) (v : Value) : a.put none v = a := rfl

/-- An operation that yields a value may be taken. -/
def RegT (P : Program) (ops : Array Oper) (q : Oper) (d : Option Nat) (n : Nat) (L L' : Array Bool) : Prop :=
  ∀ {Q : Exit → Act → World → Prop} {S : World → Prop} {a : Act} {w : World} (v : Value), (∀ c a w, Q (.panic c) (a.put d v) w → Q (.panic c) a w) → YieldsIf P ops S q v a → S w → wpAnyH P .any ops Q S n L' (a.put d v) w → wpAnyH P .any ops Q S (n + 1) L a w
theorem regT {P : Program} {ops : Array Oper} {q : Oper} {d : Option Nat} {n : Nat} {L L' : Array Bool} {i : Nat} (hi : ops[i]? = some q) (hd : q.dst = d) (hs : Region.noSelect ops = true) (hf : Region.free .any ops L i = true) (hr : (Region.ready .any ops L).contains i = true) (hl : L.setIfInBounds i true = L') : RegT P ops q d n L L' := by
  subst hd hl
  exact fun v hQ hy hS h => wpAnyH_take (i := i) hi hs hf hr hQ hy hS h
theorem regY {P : Program} {ops : Array Oper} {q : Oper} {d : Option Nat} {n : Nat} {L L' : Array Bool} (t : RegT P ops q d n L L') {Q : Exit → Act → World → Prop} {S : World → Prop} {a : Act} {w : World} (v : Value) (hv : ∀ w, S w → (execOp a.eval q).run P w = .ok (.value v) w) (hS : S w) (h : wpAnyH P .any ops Q S n L' (a.put d v) w)
    (hw : Region.wanted q (yielded ops a.tmps) = true := by rfl) (hQ : ∀ c a w, Q (.panic c) (a.put d v) w → Q (.panic c) a w := by exact fun _ _ _ h => h) : wpAnyH P .any ops Q S (n + 1) L a w := t v hQ (.inl ⟨hw, hv⟩) hS h
theorem regU {P : Program} {ops : Array Oper} {q : Oper} {d : Option Nat} {n : Nat} {L L' : Array Bool} (t : RegT P ops q d n L L') {Q : Exit → Act → World → Prop} {S : World → Prop} {a : Act} {w : World} (hS : S w) (h : wpAnyH P .any ops Q S n L' (a.put d undef) w)
    (hw : Region.wanted q (yielded ops a.tmps) = false := by rfl) (hQ : ∀ c a w, Q (.panic c) (a.put d undef) w → Q (.panic c) a w := by exact fun _ _ _ h => h) : wpAnyH P .any ops Q S (n + 1) L a w := t undef hQ (.inr ⟨hw, rfl⟩) hS h
/-- An operation that is carried out, the only one that may come up. -/
def RegC (P : Program) (ops : Array Oper) (q : Oper) (d : Option Nat) (n : Nat) (L L' : Array Bool) : Prop :=
  ∀ {Q : Exit → Act → World → Prop} {S : World → Prop} {a : Act} {w : World}, (∀ K' : Act → World → Prop, Shut (∀ a w, S w → (S w → wpAnyH P .any ops Q S n L' a w) → K' a w) → if Region.wanted q (yielded ops a.tmps) = true then Oper.wp P q a w K' Q else K' (a.put d undef) w) → wpAnyH P .any ops Q S (n + 1) L a w
theorem regC {P : Program} {ops : Array Oper} {q : Oper} {d : Option Nat} {n : Nat} {L L' : Array Bool} {i : Nat} (hi : ops[i]? = some q) (hd : q.dst = d) (hr : Region.ready .any ops L = [i]) (hl : L.setIfInBounds i true = L') : RegC P ops q d n L L' := by
  subst hd hl
  exact fun h => wpAnyH_ready (rs := [i]) hr (by simp) (AllReadyH.cons hi (fun K' hK => h K' hK) AllReadyH.nil)
end Go.Proofs.Ytlanmkimaambgaa.hexes

namespace Go.Proofs.Ytlanmkimaambgaa.hexes
open Go.RowKit

def findE1 (n : Nat) : Code → Option Code
  | .region id ops d => if id = n then some (.region id ops d) else none
  | .seq a b => match findE1 n a with
    | some c => some c
    | none => findE1 n b
  | .block _ c => findE1 n c
  | .scope c => findE1 n c
  | .loop c => findE1 n c
  | .cond _ a b => match findE1 n a with
    | some c => some c
    | none => findE1 n b
  | _ => none
def opsOfE1 : Option Code → Array Oper
  | some (.region _ ops _) => ops
  | _ => #[]
noncomputable def opsE1 : Array Oper := opsOfE1 (Try.f98.body.bind (findE1 1))
def schE1 : List Nat := [0, 1, 2, 3, 5, 6, 7, 8, 10, 11, 12, 13, 15, 16, 17, 18, 4, 9, 14, 19, 20, 21]
def LE1 (k : Nat) : Array Bool := ((List.range 22).map fun i => (schE1.take k).contains i).toArray
theorem noselE1 : Region.noSelect opsE1 = true := by kernel_rfl
def qE1_0 : Oper := { dst := some 7, op := Op.fieldAddr 75 (Operand.tmp 2) 1, type := 0, pos := "l09_memory.go:6", after := #[], guard := none }
theorem hE1_0 : opsE1[0]? = some qE1_0 := by kernel_rfl
theorem lE1_0 : (LE1 0).setIfInBounds 0 true = LE1 1 := by kernel_rfl
theorem tE1_0 : RegT Try.prog opsE1 qE1_0 (some 7) 21 (LE1 0) (LE1 1) := regT hE1_0 rfl noselE1 (by kernel_rfl) (by kernel_rfl) lE1_0
def qE1_1 : Oper := { dst := some 8, op := Op.load 3 (Operand.tmp 7), type := 3, pos := "l09_memory.go:6", after := #[{ on := 0, ground := Ground.data }], guard := none }
theorem hE1_1 : opsE1[1]? = some qE1_1 := by kernel_rfl
theorem lE1_1 : (LE1 1).setIfInBounds 1 true = LE1 2 := by kernel_rfl
theorem tE1_1 : RegT Try.prog opsE1 qE1_1 (some 8) 20 (LE1 1) (LE1 2) := regT hE1_1 rfl noselE1 (by kernel_rfl) (by kernel_rfl) lE1_1
def qE1_2 : Oper := { dst := some 9, op := Op.fieldAddr 75 (Operand.tmp 3) 1, type := 0, pos := "l09_memory.go:6", after := #[], guard := none }
theorem hE1_2 : opsE1[2]? = some qE1_2 := by kernel_rfl
theorem lE1_2 : (LE1 2).setIfInBounds 2 true = LE1 3 := by kernel_rfl
theorem tE1_2 : RegT Try.prog opsE1 qE1_2 (some 9) 19 (LE1 2) (LE1 3) := regT hE1_2 rfl noselE1 (by kernel_rfl) (by kernel_rfl) lE1_2
def qE1_3 : Oper := { dst := some 10, op := Op.load 3 (Operand.tmp 9), type := 3, pos := "l09_memory.go:6", after := #[{ on := 2, ground := Ground.data }], guard := none }
theorem hE1_3 : opsE1[3]? = some qE1_3 := by kernel_rfl
theorem lE1_3 : (LE1 3).setIfInBounds 3 true = LE1 4 := by kernel_rfl
theorem tE1_3 : RegT Try.prog opsE1 qE1_3 (some 10) 18 (LE1 3) (LE1 4) := regT hE1_3 rfl noselE1 (by kernel_rfl) (by kernel_rfl) lE1_3
def qE1_5 : Oper := { dst := some 12, op := Op.fieldAddr 75 (Operand.tmp 2) 0, type := 0, pos := "l09_memory.go:6", after := #[], guard := none }
theorem hE1_5 : opsE1[5]? = some qE1_5 := by kernel_rfl
theorem lE1_4 : (LE1 4).setIfInBounds 5 true = LE1 5 := by kernel_rfl
theorem tE1_4 : RegT Try.prog opsE1 qE1_5 (some 12) 17 (LE1 4) (LE1 5) := regT hE1_5 rfl noselE1 (by kernel_rfl) (by kernel_rfl) lE1_4
def qE1_6 : Oper := { dst := some 13, op := Op.load 3 (Operand.tmp 12), type := 3, pos := "l09_memory.go:6", after := #[{ on := 5, ground := Ground.data }], guard := none }
theorem hE1_6 : opsE1[6]? = some qE1_6 := by kernel_rfl
theorem lE1_5 : (LE1 5).setIfInBounds 6 true = LE1 6 := by kernel_rfl
theorem tE1_5 : RegT Try.prog opsE1 qE1_6 (some 13) 16 (LE1 5) (LE1 6) := regT hE1_6 rfl noselE1 (by kernel_rfl) (by kernel_rfl) lE1_5
def qE1_7 : Oper := { dst := some 14, op := Op.fieldAddr 75 (Operand.tmp 3) 0, type := 0, pos := "l09_memory.go:6", after := #[], guard := none }
theorem hE1_7 : opsE1[7]? = some qE1_7 := by kernel_rfl
theorem lE1_6 : (LE1 6).setIfInBounds 7 true = LE1 7 := by kernel_rfl
theorem tE1_6 : RegT Try.prog opsE1 qE1_7 (some 14) 15 (LE1 6) (LE1 7) := regT hE1_7 rfl noselE1 (by kernel_rfl) (by kernel_rfl) lE1_6
def qE1_8 : Oper := { dst := some 15, op := Op.load 3 (Operand.tmp 14), type := 3, pos := "l09_memory.go:6", after := #[{ on := 7, ground := Ground.data }], guard := none }
theorem hE1_8 : opsE1[8]? = some qE1_8 := by kernel_rfl
theorem lE1_7 : (LE1 7).setIfInBounds 8 true = LE1 8 := by kernel_rfl
theorem tE1_7 : RegT Try.prog opsE1 qE1_8 (some 15) 14 (LE1 7) (LE1 8) := regT hE1_8 rfl noselE1 (by kernel_rfl) (by kernel_rfl) lE1_7
def qE1_10 : Oper := { dst := some 17, op := Op.fieldAddr 75 (Operand.tmp 2) 2, type := 0, pos := "l09_memory.go:6", after := #[], guard := none }
theorem hE1_10 : opsE1[10]? = some qE1_10 := by kernel_rfl
theorem lE1_8 : (LE1 8).setIfInBounds 10 true = LE1 9 := by kernel_rfl
theorem tE1_8 : RegT Try.prog opsE1 qE1_10 (some 17) 13 (LE1 8) (LE1 9) := regT hE1_10 rfl noselE1 (by kernel_rfl) (by kernel_rfl) lE1_8
def qE1_11 : Oper := { dst := some 18, op := Op.load 3 (Operand.tmp 17), type := 3, pos := "l09_memory.go:6", after := #[{ on := 10, ground := Ground.data }], guard := none }
theorem hE1_11 : opsE1[11]? = some qE1_11 := by kernel_rfl
theorem lE1_9 : (LE1 9).setIfInBounds 11 true = LE1 10 := by kernel_rfl
theorem tE1_9 : RegT Try.prog opsE1 qE1_11 (some 18) 12 (LE1 9) (LE1 10) := regT hE1_11 rfl noselE1 (by kernel_rfl) (by kernel_rfl) lE1_9
def qE1_12 : Oper := { dst := some 19, op := Op.fieldAddr 75 (Operand.tmp 3) 2, type := 0, pos := "l09_memory.go:6", after := #[], guard := none }
theorem hE1_12 : opsE1[12]? = some qE1_12 := by kernel_rfl
theorem lE1_10 : (LE1 10).setIfInBounds 12 true = LE1 11 := by kernel_rfl
theorem tE1_10 : RegT Try.prog opsE1 qE1_12 (some 19) 11 (LE1 10) (LE1 11) := regT hE1_12 rfl noselE1 (by kernel_rfl) (by kernel_rfl) lE1_10
def qE1_13 : Oper := { dst := some 20, op := Op.load 3 (Operand.tmp 19), type := 3, pos := "l09_memory.go:6", after := #[{ on := 12, ground := Ground.data }], guard := none }
theorem hE1_13 : opsE1[13]? = some qE1_13 := by kernel_rfl
theorem lE1_11 : (LE1 11).setIfInBounds 13 true = LE1 12 := by kernel_rfl
theorem tE1_11 : RegT Try.prog opsE1 qE1_13 (some 20) 10 (LE1 11) (LE1 12) := regT hE1_13 rfl noselE1 (by kernel_rfl) (by kernel_rfl) lE1_11
def qE1_15 : Oper := { dst := some 22, op := Op.fieldAddr 75 (Operand.tmp 2) 3, type := 0, pos := "l09_memory.go:6", after := #[], guard := none }
theorem hE1_15 : opsE1[15]? = some qE1_15 := by kernel_rfl
theorem lE1_12 : (LE1 12).setIfInBounds 15 true = LE1 13 := by kernel_rfl
theorem tE1_12 : RegT Try.prog opsE1 qE1_15 (some 22) 9 (LE1 12) (LE1 13) := regT hE1_15 rfl noselE1 (by kernel_rfl) (by kernel_rfl) lE1_12
def qE1_16 : Oper := { dst := some 23, op := Op.load 3 (Operand.tmp 22), type := 3, pos := "l09_memory.go:6", after := #[{ on := 15, ground := Ground.data }], guard := none }
theorem hE1_16 : opsE1[16]? = some qE1_16 := by kernel_rfl
theorem lE1_13 : (LE1 13).setIfInBounds 16 true = LE1 14 := by kernel_rfl
theorem tE1_13 : RegT Try.prog opsE1 qE1_16 (some 23) 8 (LE1 13) (LE1 14) := regT hE1_16 rfl noselE1 (by kernel_rfl) (by kernel_rfl) lE1_13
def qE1_17 : Oper := { dst := some 24, op := Op.fieldAddr 75 (Operand.tmp 3) 3, type := 0, pos := "l09_memory.go:6", after := #[], guard := none }
theorem hE1_17 : opsE1[17]? = some qE1_17 := by kernel_rfl
theorem lE1_14 : (LE1 14).setIfInBounds 17 true = LE1 15 := by kernel_rfl
theorem tE1_14 : RegT Try.prog opsE1 qE1_17 (some 24) 7 (LE1 14) (LE1 15) := regT hE1_17 rfl noselE1 (by kernel_rfl) (by kernel_rfl) lE1_14
def qE1_18 : Oper := { dst := some 25, op := Op.load 3 (Operand.tmp 24), type := 3, pos := "l09_memory.go:6", after := #[{ on := 17, ground := Ground.data }], guard := none }
theorem hE1_18 : opsE1[18]? = some qE1_18 := by kernel_rfl
theorem lE1_15 : (LE1 15).setIfInBounds 18 true = LE1 16 := by kernel_rfl
theorem tE1_15 : RegT Try.prog opsE1 qE1_18 (some 25) 6 (LE1 15) (LE1 16) := regT hE1_18 rfl noselE1 (by kernel_rfl) (by kernel_rfl) lE1_15
def qE1_4 : Oper := { dst := some 11, op := Op.call { callee := Callee.value (Operand.func 111), args := #[Operand.tmp 8, Operand.tmp 10], argTypes := #[3, 3] }, type := 3, pos := "l09_memory.go:6", after := #[{ on := 1, ground := Ground.data }, { on := 3, ground := Ground.data }], guard := none }
theorem hE1_4 : opsE1[4]? = some qE1_4 := by kernel_rfl
theorem lE1_16 : (LE1 16).setIfInBounds 4 true = LE1 17 := by kernel_rfl
theorem cE1_16 : RegC Try.prog opsE1 qE1_4 (some 11) 5 (LE1 16) (LE1 17) := regC hE1_4 rfl (by kernel_rfl) lE1_16
def qE1_9 : Oper := { dst := some 16, op := Op.call { callee := Callee.value (Operand.func 111), args := #[Operand.tmp 13, Operand.tmp 15], argTypes := #[3, 3] }, type := 3, pos := "l09_memory.go:6", after := #[{ on := 6, ground := Ground.data }, { on := 8, ground := Ground.data }, { on := 4, ground := Ground.chain }], guard := none }
theorem hE1_9 : opsE1[9]? = some qE1_9 := by kernel_rfl
theorem lE1_17 : (LE1 17).setIfInBounds 9 true = LE1 18 := by kernel_rfl
theorem cE1_17 : RegC Try.prog opsE1 qE1_9 (some 16) 4 (LE1 17) (LE1 18) := regC hE1_9 rfl (by kernel_rfl) lE1_17
def qE1_14 : Oper := { dst := some 21, op := Op.call { callee := Callee.value (Operand.func 111), args := #[Operand.tmp 18, Operand.tmp 20], argTypes := #[3, 3] }, type := 3, pos := "l09_memory.go:6", after := #[{ on := 11, ground := Ground.data }, { on := 13, ground := Ground.data }, { on := 9, ground := Ground.chain }], guard := none }
theorem hE1_14 : opsE1[14]? = some qE1_14 := by kernel_rfl
theorem lE1_18 : (LE1 18).setIfInBounds 14 true = LE1 19 := by kernel_rfl
theorem cE1_18 : RegC Try.prog opsE1 qE1_14 (some 21) 3 (LE1 18) (LE1 19) := regC hE1_14 rfl (by kernel_rfl) lE1_18
def qE1_19 : Oper := { dst := some 26, op := Op.call { callee := Callee.value (Operand.func 111), args := #[Operand.tmp 23, Operand.tmp 25], argTypes := #[3, 3] }, type := 3, pos := "l09_memory.go:6", after := #[{ on := 16, ground := Ground.data }, { on := 18, ground := Ground.data }, { on := 14, ground := Ground.chain }], guard := none }
theorem hE1_19 : opsE1[19]? = some qE1_19 := by kernel_rfl
theorem lE1_19 : (LE1 19).setIfInBounds 19 true = LE1 20 := by kernel_rfl
theorem cE1_19 : RegC Try.prog opsE1 qE1_19 (some 26) 2 (LE1 19) (LE1 20) := regC hE1_19 rfl (by kernel_rfl) lE1_19
def qE1_20 : Oper := { dst := some 27, op := Op.buildSlice 40 4 #[(0, Operand.tmp 11), (1, Operand.tmp 16), (2, Operand.tmp 21), (3, Operand.tmp 26)], type := 40, pos := "l09_memory.go:6", after := #[{ on := 4, ground := Ground.data }, { on := 9, ground := Ground.data }, { on := 14, ground := Ground.data }, { on := 19, ground := Ground.data }], guard := none }
theorem hE1_20 : opsE1[20]? = some qE1_20 := by kernel_rfl
theorem lE1_20 : (LE1 20).setIfInBounds 20 true = LE1 21 := by kernel_rfl
theorem cE1_20 : RegC Try.prog opsE1 qE1_20 (some 27) 1 (LE1 20) (LE1 21) := regC hE1_20 rfl (by kernel_rfl) lE1_20
def qE1_21 : Oper := { dst := some 5, op := Op.assign (Operand.tmp 27), type := 40, pos := "l09_memory.go:6", after := #[{ on := 20, ground := Ground.data }, { on := 19, ground := Ground.chain }, { on := 0, ground := Ground.phase }, { on := 1, ground := Ground.phase }, { on := 2, ground := Ground.phase }, { on := 3, ground := Ground.phase }, { on := 4, ground := Ground.phase }, { on := 5, ground := Ground.phase }, { on := 6, ground := Ground.phase }, { on := 7, ground := Ground.phase }, { on := 8, ground := Ground.phase }, { on := 9, ground := Ground.phase }, { on := 10, ground := Ground.phase }, { on := 11, ground := Ground.phase }, { on := 12, ground := Ground.phase }, { on := 13, ground := Ground.phase }, { on := 14, ground := Ground.phase }, { on := 15, ground := Ground.phase }, { on := 16, ground := Ground.phase }, { on := 17, ground := Ground.phase }, { on := 18, ground := Ground.phase }, { on := 19, ground := Ground.phase }, { on := 20, ground := Ground.phase }], guard := none }
theorem hE1_21 : opsE1[21]? = some qE1_21 := by kernel_rfl
theorem lE1_21 : (LE1 21).setIfInBounds 21 true = LE1 22 := by kernel_rfl
theorem tE1_21 : RegT Try.prog opsE1 qE1_21 (some 5) 0 (LE1 21) (LE1 22) := regT hE1_21 rfl noselE1 (by kernel_rfl) (by kernel_rfl) lE1_21
end Go.Proofs.Ytlanmkimaambgaa.hexes

namespace Go.Proofs.Ytlanmkimaambgaa.hexes
open Go.RowKit

structure CeTwo (W : World) (b : Nat) (p0 p1 p2 p3 q0 q1 q2 q3 : Int) (w' : World) : Prop where
  c0 : w'.cell? ⟨b, 0, none⟩ = some (.int .i64 p0)
  c1 : w'.cell? ⟨b, 1, none⟩ = some (.int .i64 p1)
  c2 : w'.cell? ⟨b, 2, none⟩ = some (.int .i64 p2)
  c3 : w'.cell? ⟨b, 3, none⟩ = some (.int .i64 p3)
  d0 : w'.cell? ⟨b + 1, 0, none⟩ = some (.int .i64 q0)
  d1 : w'.cell? ⟨b + 1, 1, none⟩ = some (.int .i64 q1)
  d2 : w'.cell? ⟨b + 1, 2, none⟩ = some (.int .i64 q2)
  d3 : w'.cell? ⟨b + 1, 3, none⟩ = some (.int .i64 q3)
  bel : Below W.heap.size W w'
theorem CeTwo.drew {W : World} {b : Nat} {p0 p1 p2 p3 q0 q1 q2 q3 : Int} {w' : World} (h : CeTwo W b p0 p1 p2 p3 q0 q1 q2 q3 w') : CeTwo W b p0 p1 p2 p3 q0 q1 q2 q3 w'.drew := ⟨h.c0, h.c1, h.c2, h.c3, h.d0, h.d1, h.d2, h.d3, h.bel.drew⟩
theorem CeTwo.below {W : World} {b : Nat} {p0 p1 p2 p3 q0 q1 q2 q3 : Int} {w' w2 : World} (h : CeTwo W b p0 p1 p2 p3 q0 q1 q2 q3 w') (hb : Below w'.heap.size w' w2) : CeTwo W b p0 p1 p2 p3 q0 q1 q2 q3 w2 := ⟨below_keep hb h.c0, below_keep hb h.c1, below_keep hb h.c2, below_keep hb h.c3, below_keep hb h.d0, below_keep hb h.d1, below_keep hb h.d2, below_keep hb h.d3, below_chain h.bel hb⟩

theorem specL02_is {a b v : Int} (h : ordI a b = v) (W : World) : Calls Try.prog 111 #[.int .i64 a, .int .i64 b] W fun e w' => e = .returned (.int .i64 v) ∧ Below W.heap.size W w' := by
  subst h
  refine (specOrd_any a b W).mono ?_
  rintro e w' ⟨rfl, rfl⟩
  exact ⟨rfl, Below.refl _ _⟩
set_option maxRecDepth 1000000 in
set_option maxHeartbeats 4000000 in
theorem specCeOrd_any (p0 p1 p2 p3 q0 q1 q2 q3 : Int) (w : World) :
    Calls Try.prog 98 #[.agg #[.int .i64 p0, .int .i64 p1, .int .i64 p2, .int .i64 p3], .agg #[.int .i64 q0, .int .i64 q1, .int .i64 q2, .int .i64 q3]] w fun e w' => e = .returned (.int .i64 (ordCe (p0, p1, p2, p3) (q0, q1, q2, q3))) ∧ Below w.heap.size w w' := by
  obtain ⟨A, hA⟩ : ∃ A : Ce, (p0, p1, p2, p3) = A := ⟨_, rfl⟩
  obtain ⟨B, hB⟩ : ∃ B : Ce, (q0, q1, q2, q3) = B := ⟨_, rfl⟩
  obtain ⟨v0, h0⟩ : ∃ v, ordI p1 q1 = v := ⟨_, rfl⟩
  obtain ⟨v1, h1⟩ : ∃ v, ordI p0 q0 = v := ⟨_, rfl⟩
  obtain ⟨v2, h2⟩ : ∃ v, ordI p2 q2 = v := ⟨_, rfl⟩
  obtain ⟨v3, h3⟩ : ∃ v, ordI p3 q3 = v := ⟨_, rfl⟩
  have HO := Lib.hid (show ordCe A B = if v0 ≠ 0 then v0 else if v1 ≠ 0 then v1 else if v2 ≠ 0 then v2 else v3 by rw [← hA, ← hB, ← h0, ← h1, ← h2, ← h3]; rfl)
  have E0 := Lib.hid (fun W => specL02_is h0 W)
  have E1 := Lib.hid (fun W => specL02_is h1 W)
  have E2 := Lib.hid (fun W => specL02_is h2 W)
  have E3 := Lib.hid (fun W => specL02_is h3 W)
  rw [hA, hB]
  clear h0 h1 h2 h3 hA hB
  obtain ⟨W0, hW0⟩ : ∃ W0, (w.alloc (.cells #[.int .i64 p0, .int .i64 p1, .int .i64 p2, .int .i64 p3] 75)).alloc (.cells #[.int .i64 q0, .int .i64 q1, .int .i64 q2, .int .i64 q3] 75) = W0 := ⟨_, rfl⟩
  have B0 := Lib.hid (show Below w.heap.size w W0 by rw [← hW0]; exact ((Below.refl _ _).alloc (by simp) _).alloc (by simp) _)
  have T0 := Lib.hid (show CeTwo W0 w.heap.size p0 p1 p2 p3 q0 q1 q2 q3 W0 from ⟨by rw [← hW0]; exact alloc_keep (by simp), by rw [← hW0]; exact alloc_keep (by simp), by rw [← hW0]; exact alloc_keep (by simp), by rw [← hW0]; exact alloc_keep (by simp), by rw [← hW0]; simp, by rw [← hW0]; simp, by rw [← hW0]; simp, by rw [← hW0]; simp, Below.refl _ _⟩)
  go_enter Try.func98, Try.ntmps98
  go_wp2_with fail

  clear hW0
  refine wp_region_held_drew (S := CeTwo W0 w.heap.size p0 p1 p2 p3 q0 q1 q2 q3) (by kernel_rfl) ?_ (fun hHeld => ?_)
  · skip
    exact T0.out.drew
  change wpAnyH _ _ opsE1 _ _ 22 (LE1 0) _ _
  refine regY tE1_0 (.pointer (some ⟨w.heap.size, 1, none⟩)) (fun W hSw => by unfold qE1_0; go_simp) hHeld ?_
  try simp only [pt, List.set]
  refine regY tE1_1 (.int .i64 p1) (fun W hSw => by unfold qE1_1; obtain ⟨c0, c1, c2, c3, d0, d1, d2, d3, bl⟩ := hSw; go_simp) hHeld ?_
  try simp only [pt, List.set]
  refine regY tE1_2 (.pointer (some ⟨w.heap.size + 1, 1, none⟩)) (fun W hSw => by unfold qE1_2; go_simp) hHeld ?_
  try simp only [pt, List.set]
  refine regY tE1_3 (.int .i64 q1) (fun W hSw => by unfold qE1_3; obtain ⟨c0, c1, c2, c3, d0, d1, d2, d3, bl⟩ := hSw; go_simp) hHeld ?_
  try simp only [pt, List.set]
  refine regY tE1_4 (.pointer (some ⟨w.heap.size, 0, none⟩)) (fun W hSw => by unfold qE1_5; go_simp) hHeld ?_
  try simp only [pt, List.set]
  refine regY tE1_5 (.int .i64 p0) (fun W hSw => by unfold qE1_6; obtain ⟨c0, c1, c2, c3, d0, d1, d2, d3, bl⟩ := hSw; go_simp) hHeld ?_
  try simp only [pt, List.set]
  refine regY tE1_6 (.pointer (some ⟨w.heap.size + 1, 0, none⟩)) (fun W hSw => by unfold qE1_7; go_simp) hHeld ?_
  try simp only [pt, List.set]
  refine regY tE1_7 (.int .i64 q0) (fun W hSw => by unfold qE1_8; obtain ⟨c0, c1, c2, c3, d0, d1, d2, d3, bl⟩ := hSw; go_simp) hHeld ?_
  try simp only [pt, List.set]
  refine regY tE1_8 (.pointer (some ⟨w.heap.size, 2, none⟩)) (fun W hSw => by unfold qE1_10; go_simp) hHeld ?_
  try simp only [pt, List.set]
  refine regY tE1_9 (.int .i64 p2) (fun W hSw => by unfold qE1_11; obtain ⟨c0, c1, c2, c3, d0, d1, d2, d3, bl⟩ := hSw; go_simp) hHeld ?_
  try simp only [pt, List.set]
  refine regY tE1_10 (.pointer (some ⟨w.heap.size + 1, 2, none⟩)) (fun W hSw => by unfold qE1_12; go_simp) hHeld ?_
  try simp only [pt, List.set]
  refine regY tE1_11 (.int .i64 q2) (fun W hSw => by unfold qE1_13; obtain ⟨c0, c1, c2, c3, d0, d1, d2, d3, bl⟩ := hSw; go_simp) hHeld ?_
  try simp only [pt, List.set]
  refine regY tE1_12 (.pointer (some ⟨w.heap.size, 3, none⟩)) (fun W hSw => by unfold qE1_15; go_simp) hHeld ?_
  try simp only [pt, List.set]
  refine regY tE1_13 (.int .i64 p3) (fun W hSw => by unfold qE1_16; obtain ⟨c0, c1, c2, c3, d0, d1, d2, d3, bl⟩ := hSw; go_simp) hHeld ?_
  try simp only [pt, List.set]
  refine regY tE1_14 (.pointer (some ⟨w.heap.size + 1, 3, none⟩)) (fun W hSw => by unfold qE1_17; go_simp) hHeld ?_
  try simp only [pt, List.set]
  refine regY tE1_15 (.int .i64 q3) (fun W hSw => by unfold qE1_18; obtain ⟨c0, c1, c2, c3, d0, d1, d2, d3, bl⟩ := hSw; go_simp) hHeld ?_
  try simp only [pt, List.set]
  refine cE1_16 (fun K hK => ?_)
  rw [if_pos (by rfl)]
  unfold qE1_4
  go_simp
  with_reducible refine (E0.out _).mono ?_
  rintro e w5 ⟨rfl, hbd⟩
  dsimp only
  refine Shut.out hK _ _ ?_ (fun hHeld => ?_)
  · skip
    exact hHeld.below hbd
  clear hK K
  try simp only [pt, List.set]
  refine cE1_17 (fun K hK => ?_)
  rw [if_pos (by rfl)]
  unfold qE1_9
  go_simp
  with_reducible refine (E1.out _).mono ?_
  rintro e w6 ⟨rfl, hbd⟩
  dsimp only
  refine Shut.out hK _ _ ?_ (fun hHeld => ?_)
  · skip
    exact hHeld.below hbd
  clear hK K
  try simp only [pt, List.set]
  refine cE1_18 (fun K hK => ?_)
  rw [if_pos (by rfl)]
  unfold qE1_14
  go_simp
  with_reducible refine (E2.out _).mono ?_
  rintro e w7 ⟨rfl, hbd⟩
  dsimp only
  refine Shut.out hK _ _ ?_ (fun hHeld => ?_)
  · skip
    exact hHeld.below hbd
  clear hK K
  try simp only [pt, List.set]
  refine cE1_19 (fun K hK => ?_)
  rw [if_pos (by rfl)]
  unfold qE1_19
  go_simp
  with_reducible refine (E3.out _).mono ?_
  rintro e w8 ⟨rfl, hbd⟩
  dsimp only
  refine Shut.out hK _ _ ?_ (fun hHeld => ?_)
  · skip
    exact hHeld.below hbd
  clear hK K
  try simp only [pt, List.set]
  refine cE1_20 (fun K hK => ?_)
  rw [if_pos (by rfl)]
  unfold qE1_20
  go_simp
  obtain ⟨bl, hbl⟩ : ∃ bl, w8.heap.size = bl := ⟨_, rfl⟩
  rw [hbl]
  obtain ⟨w9, hw9⟩ : ∃ w9, w8.alloc (.cells #[.int .i64 v0, .int .i64 v1, .int .i64 v2, .int .i64 v3] 3) = w9 := ⟨_, rfl⟩
  have L0 : w9.cell? ⟨bl, 0, none⟩ = some (.int .i64 v0) := by rw [← hw9, ← hbl]; simp
  have L1 : w9.cell? ⟨bl, 1, none⟩ = some (.int .i64 v1) := by rw [← hw9, ← hbl]; simp
  have L2 : w9.cell? ⟨bl, 2, none⟩ = some (.int .i64 v2) := by rw [← hw9, ← hbl]; simp
  have L3 : w9.cell? ⟨bl, 3, none⟩ = some (.int .i64 v3) := by rw [← hw9, ← hbl]; simp
  have hH9 := hHeld.below (((Below.refl _ w8).alloc (Nat.le_refl _) (.cells #[.int .i64 v0, .int .i64 v1, .int .i64 v2, .int .i64 v3] 3)))
  rw [hw9] at hH9 ⊢
  clear hw9 hbl
  refine Shut.out hK _ _ ?_ (fun hHeld => ?_)
  · exact hH9
  clear hK K
  try simp only [pt, List.set]
  refine regY tE1_21 (.slice (some ⟨bl, 0, none⟩) 4 4) (fun W hSw => by unfold qE1_21; go_simp) hHeld ?_
  try simp only [pt, List.set]
  refine wpAnyH_done (by kernel_rfl) ?_ _
  have HB := Lib.hid (below_chain B0.out hHeld.bel)
  clear hHeld T0 B0 E0 E1 E2 E3
  go_wp2
  go_loop [6] (fun i => (i = .int .i64 0) ∨ (i = .int .i64 1 ∧ v0 = 0) ∨ (i = .int .i64 2 ∧ v0 = 0 ∧ v1 = 0) ∨ (i = .int .i64 3 ∧ v0 = 0 ∧ v1 = 0 ∧ v2 = 0) ∨ (i = .int .i64 4 ∧ v0 = 0 ∧ v1 = 0 ∧ v2 = 0 ∧ v3 = 0)) (fun i => 4 - (intOf i).toNat)
  case atStart => exact .inl rfl
  case round =>
    rcases hrel with rfl | ⟨rfl, z0⟩ | ⟨rfl, z0, z1⟩ | ⟨rfl, z0, z1, z2⟩ | ⟨rfl, z0, z1, z2, z3⟩
    · by_cases hz : v0 = 0
      · have n0 : (v0 != 0) = false := by simpa using hz
        go_wp2
        go_round
        case rel => exact .inr (.inl ⟨by go_num, hz⟩)
        case measure => simp [intOf]
      · have n0 : (v0 != 0) = true := by simpa using hz
        have HF := Lib.hid (show ordCe A B = v0 by rw [HO.out]; simp [hz])
        go_wp2
        go_ret
        exact ⟨congrArg (fun b => Ending.returned (Value.int .i64 b)) HF.out.symm, HB.out⟩
    · by_cases hz : v1 = 0
      · have n0 : (v1 != 0) = false := by simpa using hz
        go_wp2
        go_round
        case rel => exact .inr (.inr (.inl ⟨by go_num, z0, hz⟩))
        case measure => simp [intOf]
      · have n0 : (v1 != 0) = true := by simpa using hz
        have HF := Lib.hid (show ordCe A B = v1 by rw [HO.out, z0]; simp [hz])
        go_wp2
        go_ret
        exact ⟨congrArg (fun b => Ending.returned (Value.int .i64 b)) HF.out.symm, HB.out⟩
    · by_cases hz : v2 = 0
      · have n0 : (v2 != 0) = false := by simpa using hz
        go_wp2
        go_round
        case rel => exact .inr (.inr (.inr (.inl ⟨by go_num, z0, z1, hz⟩)))
        case measure => simp [intOf]
      · have n0 : (v2 != 0) = true := by simpa using hz
        have HF := Lib.hid (show ordCe A B = v2 by rw [HO.out, z0, z1]; simp [hz])
        go_wp2
        go_ret
        exact ⟨congrArg (fun b => Ending.returned (Value.int .i64 b)) HF.out.symm, HB.out⟩
    · by_cases hz : v3 = 0
      · have n0 : (v3 != 0) = false := by simpa using hz
        go_wp2
        go_round
        case rel => exact .inr (.inr (.inr (.inr (⟨by go_num, z0, z1, z2, hz⟩))))
        case measure => simp [intOf]
      · have n0 : (v3 != 0) = true := by simpa using hz
        have HF := Lib.hid (show ordCe A B = v3 by rw [HO.out, z0, z1, z2]; simp)
        go_wp2
        go_ret
        exact ⟨congrArg (fun b => Ending.returned (Value.int .i64 b)) HF.out.symm, HB.out⟩
    · have HF := Lib.hid (show ordCe A B = 0 by rw [HO.out, z0, z1, z2, z3]; simp)
      go_wp2
      go_ret
      exact ⟨congrArg (fun b => Ending.returned (Value.int .i64 b)) HF.out.symm, HB.out⟩
end Go.Proofs.Ytlanmkimaambgaa.hexes

