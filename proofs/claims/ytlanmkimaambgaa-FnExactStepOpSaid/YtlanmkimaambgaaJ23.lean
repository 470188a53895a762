/-
  A statement of spec.PutCell: its operations, and a theorem a step.
-/
import Derived.Test.YtlanmkimaambgaaProg
import Derived.WalkKit
import Derived.Deep.RegionHeld3

namespace Go.Proofs.Ytlanmkimaambgaa.hexes
open Go.RowKit

def findP4 (n : Nat) : Code → Option Code
  | .region id ops d => if id = n then some (.region id ops d) else none
  | .seq a b => match findP4 n a with
    | some c => some c
    | none => findP4 n b
  | .block _ c => findP4 n c
  | .scope c => findP4 n c
  | .loop c => findP4 n c
  | .cond _ a b => match findP4 n a with
    | some c => some c
    | none => findP4 n b
  | _ => none
def opsOfP4 : Option Code → Array Oper
  | some (.region _ ops _) => ops
  | _ => #[]
noncomputable def opsP4 : Array Oper := opsOfP4 (Try.f77.body.bind (findP4 4))
def schP4 : List Nat := [0, 1, 2, 3, 4, 5, 6, 7, 8, 9, 10, 11, 12]
def LP4 (k : Nat) : Array Bool := ((List.range 13).map fun i => (schP4.take k).contains i).toArray
theorem noselP4 : Region.noSelect opsP4 = true := by kernel_rfl
def qP4_0 : Oper := { dst := some 13, op := Op.move (Operand.tmp 5), type := 3, pos := "l09_memory.go:38", after := #[], guard := none }
theorem hP4_0 : opsP4[0]? = some qP4_0 := by kernel_rfl
theorem lP4_0 : (LP4 0).setIfInBounds 0 true = LP4 1 := by kernel_rfl
theorem tP4_0 {Q : Exit → Act → World → Prop} {S : World → Prop} {a : Act} {w : World} (v : Value) (hQ : ∀ c a w, Q (.panic c) (a.put (some 13) v) w → Q (.panic c) a w) (hy : YieldsIf Try.prog opsP4 S qP4_0 v a) (hS : S w)
    (h : wpAnyH Try.prog .any opsP4 Q S 12 (LP4 1) (a.put (some 13) v) w) : wpAnyH Try.prog .any opsP4 Q S 13 (LP4 0) a w :=
  wpAnyH_take (i := 0) hP4_0 noselP4 (by kernel_rfl) (by kernel_rfl) hQ hy hS (lP4_0.symm ▸ h)
def qP4_1 : Oper := { dst := some 14, op := Op.move (Operand.tmp 0), type := 27, pos := "l09_memory.go:38", after := #[], guard := none }
theorem hP4_1 : opsP4[1]? = some qP4_1 := by kernel_rfl
theorem lP4_1 : (LP4 1).setIfInBounds 1 true = LP4 2 := by kernel_rfl
theorem tP4_1 {Q : Exit → Act → World → Prop} {S : World → Prop} {a : Act} {w : World} (v : Value) (hQ : ∀ c a w, Q (.panic c) (a.put (some 14) v) w → Q (.panic c) a w) (hy : YieldsIf Try.prog opsP4 S qP4_1 v a) (hS : S w)
    (h : wpAnyH Try.prog .any opsP4 Q S 11 (LP4 2) (a.put (some 14) v) w) : wpAnyH Try.prog .any opsP4 Q S 12 (LP4 1) a w :=
  wpAnyH_take (i := 1) hP4_1 noselP4 (by kernel_rfl) (by kernel_rfl) hQ hy hS (lP4_1.symm ▸ h)
def qP4_2 : Oper := { dst := some 15, op := Op.call { callee := Callee.builtin Builtin.len, args := #[Operand.tmp 14], argTypes := #[27] }, type := 3, pos := "l09_memory.go:38", after := #[{ on := 1, ground := Ground.data }], guard := none }
theorem hP4_2 : opsP4[2]? = some qP4_2 := by kernel_rfl
theorem lP4_2 : (LP4 2).setIfInBounds 2 true = LP4 3 := by kernel_rfl
theorem tP4_2 {Q : Exit → Act → World → Prop} {S : World → Prop} {a : Act} {w : World} (v : Value) (hQ : ∀ c a w, Q (.panic c) (a.put (some 15) v) w → Q (.panic c) a w) (hy : YieldsIf Try.prog opsP4 S qP4_2 v a) (hS : S w)
    (h : wpAnyH Try.prog .any opsP4 Q S 10 (LP4 3) (a.put (some 15) v) w) : wpAnyH Try.prog .any opsP4 Q S 11 (LP4 2) a w :=
  wpAnyH_take (i := 2) hP4_2 noselP4 (by kernel_rfl) (by kernel_rfl) hQ hy hS (lP4_2.symm ▸ h)
def qP4_3 : Oper := { dst := some 16, op := Op.binOp BinOp.lss 3 (Operand.tmp 13) (Operand.tmp 15) 3, type := 4, pos := "l09_memory.go:38", after := #[{ on := 0, ground := Ground.data }, { on := 2, ground := Ground.data }], guard := none }
theorem hP4_3 : opsP4[3]? = some qP4_3 := by kernel_rfl
theorem lP4_3 : (LP4 3).setIfInBounds 3 true = LP4 4 := by kernel_rfl
theorem tP4_3 {Q : Exit → Act → World → Prop} {S : World → Prop} {a : Act} {w : World} (v : Value) (hQ : ∀ c a w, Q (.panic c) (a.put (some 16) v) w → Q (.panic c) a w) (hy : YieldsIf Try.prog opsP4 S qP4_3 v a) (hS : S w)
    (h : wpAnyH Try.prog .any opsP4 Q S 9 (LP4 4) (a.put (some 16) v) w) : wpAnyH Try.prog .any opsP4 Q S 10 (LP4 3) a w :=
  wpAnyH_take (i := 3) hP4_3 noselP4 (by kernel_rfl) (by kernel_rfl) hQ hy hS (lP4_3.symm ▸ h)
def qP4_4 : Oper := { dst := some 17, op := Op.move (Operand.tmp 16), type := 4, pos := "l09_memory.go:38", after := #[{ on := 3, ground := Ground.data }], guard := none }
theorem hP4_4 : opsP4[4]? = some qP4_4 := by kernel_rfl
theorem lP4_4 : (LP4 4).setIfInBounds 4 true = LP4 5 := by kernel_rfl
theorem tP4_4 {Q : Exit → Act → World → Prop} {S : World → Prop} {a : Act} {w : World} (v : Value) (hQ : ∀ c a w, Q (.panic c) (a.put (some 17) v) w → Q (.panic c) a w) (hy : YieldsIf Try.prog opsP4 S qP4_4 v a) (hS : S w)
    (h : wpAnyH Try.prog .any opsP4 Q S 8 (LP4 5) (a.put (some 17) v) w) : wpAnyH Try.prog .any opsP4 Q S 9 (LP4 4) a w :=
  wpAnyH_take (i := 4) hP4_4 noselP4 (by kernel_rfl) (by kernel_rfl) hQ hy hS (lP4_4.symm ▸ h)
def qP4_5 : Oper := { dst := some 18, op := Op.move (Operand.tmp 0), type := 27, pos := "l09_memory.go:38", after := #[{ on := 4, ground := Ground.guard }], guard := some (4, true) }
theorem hP4_5 : opsP4[5]? = some qP4_5 := by kernel_rfl
theorem lP4_5 : (LP4 5).setIfInBounds 5 true = LP4 6 := by kernel_rfl
theorem tP4_5 {Q : Exit → Act → World → Prop} {S : World → Prop} {a : Act} {w : World} (v : Value) (hQ : ∀ c a w, Q (.panic c) (a.put (some 18) v) w → Q (.panic c) a w) (hy : YieldsIf Try.prog opsP4 S qP4_5 v a) (hS : S w)
    (h : wpAnyH Try.prog .any opsP4 Q S 7 (LP4 6) (a.put (some 18) v) w) : wpAnyH Try.prog .any opsP4 Q S 8 (LP4 5) a w :=
  wpAnyH_take (i := 5) hP4_5 noselP4 (by kernel_rfl) (by kernel_rfl) hQ hy hS (lP4_5.symm ▸ h)
def qP4_6 : Oper := { dst := some 19, op := Op.move (Operand.tmp 5), type := 3, pos := "l09_memory.go:38", after := #[{ on := 4, ground := Ground.guard }], guard := some (4, true) }
theorem hP4_6 : opsP4[6]? = some qP4_6 := by kernel_rfl
theorem lP4_6 : (LP4 6).setIfInBounds 6 true = LP4 7 := by kernel_rfl
theorem tP4_6 {Q : Exit → Act → World → Prop} {S : World → Prop} {a : Act} {w : World} (v : Value) (hQ : ∀ c a w, Q (.panic c) (a.put (some 19) v) w → Q (.panic c) a w) (hy : YieldsIf Try.prog opsP4 S qP4_6 v a) (hS : S w)
    (h : wpAnyH Try.prog .any opsP4 Q S 6 (LP4 7) (a.put (some 19) v) w) : wpAnyH Try.prog .any opsP4 Q S 7 (LP4 6) a w :=
  wpAnyH_take (i := 6) hP4_6 noselP4 (by kernel_rfl) (by kernel_rfl) hQ hy hS (lP4_6.symm ▸ h)
def qP4_7 : Oper := { dst := some 20, op := Op.indexAddr 27 (Operand.tmp 18) (Operand.tmp 19), type := 0, pos := "l09_memory.go:38", after := #[{ on := 5, ground := Ground.data }, { on := 6, ground := Ground.data }, { on := 4, ground := Ground.guard }], guard := some (4, true) }
theorem hP4_7 : opsP4[7]? = some qP4_7 := by kernel_rfl
theorem lP4_7 : (LP4 7).setIfInBounds 7 true = LP4 8 := by kernel_rfl
theorem tP4_7 {Q : Exit → Act → World → Prop} {S : World → Prop} {a : Act} {w : World} (v : Value) (hQ : ∀ c a w, Q (.panic c) (a.put (some 20) v) w → Q (.panic c) a w) (hy : YieldsIf Try.prog opsP4 S qP4_7 v a) (hS : S w)
    (h : wpAnyH Try.prog .any opsP4 Q S 5 (LP4 8) (a.put (some 20) v) w) : wpAnyH Try.prog .any opsP4 Q S 6 (LP4 7) a w :=
  wpAnyH_take (i := 7) hP4_7 noselP4 (by kernel_rfl) (by kernel_rfl) hQ hy hS (lP4_7.symm ▸ h)
def qP4_8 : Oper := { dst := some 21, op := Op.load 75 (Operand.tmp 20), type := 75, pos := "l09_memory.go:38", after := #[{ on := 7, ground := Ground.data }, { on := 4, ground := Ground.guard }], guard := some (4, true) }
theorem hP4_8 : opsP4[8]? = some qP4_8 := by kernel_rfl
theorem lP4_8 : (LP4 8).setIfInBounds 8 true = LP4 9 := by kernel_rfl
theorem tP4_8 {Q : Exit → Act → World → Prop} {S : World → Prop} {a : Act} {w : World} (v : Value) (hQ : ∀ c a w, Q (.panic c) (a.put (some 21) v) w → Q (.panic c) a w) (hy : YieldsIf Try.prog opsP4 S qP4_8 v a) (hS : S w)
    (h : wpAnyH Try.prog .any opsP4 Q S 4 (LP4 9) (a.put (some 21) v) w) : wpAnyH Try.prog .any opsP4 Q S 5 (LP4 8) a w :=
  wpAnyH_take (i := 8) hP4_8 noselP4 (by kernel_rfl) (by kernel_rfl) hQ hy hS (lP4_8.symm ▸ h)
def qP4_9 : Oper := { dst := some 22, op := Op.load 75 (Operand.tmp 3), type := 75, pos := "l09_memory.go:38", after := #[{ on := 4, ground := Ground.guard }], guard := some (4, true) }
theorem hP4_9 : opsP4[9]? = some qP4_9 := by kernel_rfl
theorem lP4_9 : (LP4 9).setIfInBounds 9 true = LP4 10 := by kernel_rfl
theorem tP4_9 {Q : Exit → Act → World → Prop} {S : World → Prop} {a : Act} {w : World} (v : Value) (hQ : ∀ c a w, Q (.panic c) (a.put (some 22) v) w → Q (.panic c) a w) (hy : YieldsIf Try.prog opsP4 S qP4_9 v a) (hS : S w)
    (h : wpAnyH Try.prog .any opsP4 Q S 3 (LP4 10) (a.put (some 22) v) w) : wpAnyH Try.prog .any opsP4 Q S 4 (LP4 9) a w :=
  wpAnyH_take (i := 9) hP4_9 noselP4 (by kernel_rfl) (by kernel_rfl) hQ hy hS (lP4_9.symm ▸ h)
def qP4_10 : Oper := { dst := some 23, op := Op.call { callee := Callee.value (Operand.func 98), args := #[Operand.tmp 21, Operand.tmp 22], argTypes := #[75, 75] }, type := 3, pos := "l09_memory.go:38", after := #[{ on := 8, ground := Ground.data }, { on := 9, ground := Ground.data }, { on := 4, ground := Ground.chain }, { on := 4, ground := Ground.guard }], guard := some (4, true) }
theorem hP4_10 : opsP4[10]? = some qP4_10 := by kernel_rfl
theorem lP4_10 : (LP4 10).setIfInBounds 10 true = LP4 11 := by kernel_rfl
theorem tP4_10 {Q : Exit → Act → World → Prop} {S : World → Prop} {a : Act} {w : World} (v : Value) (hQ : ∀ c a w, Q (.panic c) (a.put (some 23) v) w → Q (.panic c) a w) (hy : YieldsIf Try.prog opsP4 S qP4_10 v a) (hS : S w)
    (h : wpAnyH Try.prog .any opsP4 Q S 2 (LP4 11) (a.put (some 23) v) w) : wpAnyH Try.prog .any opsP4 Q S 3 (LP4 10) a w :=
  wpAnyH_take (i := 10) hP4_10 noselP4 (by kernel_rfl) (by kernel_rfl) hQ hy hS (lP4_10.symm ▸ h)
def qP4_11 : Oper := { dst := some 24, op := Op.binOp BinOp.lss 3 (Operand.tmp 23) (Operand.const (Value.int IntKind.i64 0)) 3, type := 4, pos := "l09_memory.go:38", after := #[{ on := 10, ground := Ground.data }, { on := 4, ground := Ground.guard }], guard := some (4, true) }
theorem hP4_11 : opsP4[11]? = some qP4_11 := by kernel_rfl
theorem lP4_11 : (LP4 11).setIfInBounds 11 true = LP4 12 := by kernel_rfl
theorem tP4_11 {Q : Exit → Act → World → Prop} {S : World → Prop} {a : Act} {w : World} (v : Value) (hQ : ∀ c a w, Q (.panic c) (a.put (some 24) v) w → Q (.panic c) a w) (hy : YieldsIf Try.prog opsP4 S qP4_11 v a) (hS : S w)
    (h : wpAnyH Try.prog .any opsP4 Q S 1 (LP4 12) (a.put (some 24) v) w) : wpAnyH Try.prog .any opsP4 Q S 2 (LP4 11) a w :=
  wpAnyH_take (i := 11) hP4_11 noselP4 (by kernel_rfl) (by kernel_rfl) hQ hy hS (lP4_11.symm ▸ h)
def qP4_12 : Oper := { dst := some 25, op := Op.pick (Operand.tmp 17) (Operand.tmp 24) (Operand.const (Value.bool false)), type := 4, pos := "l09_memory.go:38", after := #[{ on := 4, ground := Ground.data }, { on := 11, ground := Ground.data }], guard := none }
theorem hP4_12 : opsP4[12]? = some qP4_12 := by kernel_rfl
theorem lP4_12 : (LP4 12).setIfInBounds 12 true = LP4 13 := by kernel_rfl
theorem tP4_12 {Q : Exit → Act → World → Prop} {S : World → Prop} {a : Act} {w : World} (v : Value) (hQ : ∀ c a w, Q (.panic c) (a.put (some 25) v) w → Q (.panic c) a w) (hy : YieldsIf Try.prog opsP4 S qP4_12 v a) (hS : S w)
    (h : wpAnyH Try.prog .any opsP4 Q S 0 (LP4 13) (a.put (some 25) v) w) : wpAnyH Try.prog .any opsP4 Q S 1 (LP4 12) a w :=
  wpAnyH_take (i := 12) hP4_12 noselP4 (by kernel_rfl) (by kernel_rfl) hQ hy hS (lP4_12.symm ▸ h)
end Go.Proofs.Ytlanmkimaambgaa.hexes

