/-
  A statement of laws.FnSteps: its operations, and a theorem a step.
  A statement of laws.FnSteps: its operations, and a theorem a step.
-/
import Derived.Test.YtlanmkimaambgaaS11

namespace Go.Proofs.Ytlanmkimaambgaa.hexes
open Go.RowKit

def findT6 (n : Nat) : Code → Option Code
  | .region id ops d => if id = n then some (.region id ops d) else none
  | .seq a b => match findT6 n a with
    | some c => some c
    | none => findT6 n b
  | .block _ c => findT6 n c
  | .scope c => findT6 n c
  | .loop c => findT6 n c
  | .cond _ a b => match findT6 n a with
    | some c => some c
    | none => findT6 n b
  | _ => none
def opsOfT6 : Option Code → Array Oper
  | some (.region _ ops _) => ops
  | _ => #[]
noncomputable def opsT6 : Array Oper := opsOfT6 (Try.f3.body.bind (findT6 6))
def schT6 : List Nat := [0, 1, 2, 3, 4, 5, 6, 7, 8, 9, 10, 11, 12, 13, 14, 15, 16, 17, 19, 20, 18, 21, 22, 23]
def LT6 (k : Nat) : Array Bool := ((List.range 24).map fun i => (schT6.take k).contains i).toArray
theorem noselT6 : Region.noSelect opsT6 = true := by kernel_rfl
def qT6_0 : Oper := { dst := some 52, op := Op.move (Operand.tmp 8), type := 4, pos := "laws.go:446", after := #[], guard := none }
theorem hT6_0 : opsT6[0]? = some qT6_0 := by kernel_rfl
theorem lT6_0 : (LT6 0).setIfInBounds 0 true = LT6 1 := by kernel_rfl
theorem tT6_0 : RegT Try.prog opsT6 qT6_0 (some 52) 23 (LT6 0) (LT6 1) := regT hT6_0 rfl noselT6 (by kernel_rfl) (by kernel_rfl) lT6_0
def qT6_1 : Oper := { dst := some 53, op := Op.move (Operand.tmp 11), type := 4, pos := "laws.go:446", after := #[], guard := none }
theorem hT6_1 : opsT6[1]? = some qT6_1 := by kernel_rfl
theorem lT6_1 : (LT6 1).setIfInBounds 1 true = LT6 2 := by kernel_rfl
theorem tT6_1 : RegT Try.prog opsT6 qT6_1 (some 53) 22 (LT6 1) (LT6 2) := regT hT6_1 rfl noselT6 (by kernel_rfl) (by kernel_rfl) lT6_1
def qT6_2 : Oper := { dst := some 54, op := Op.binOp BinOp.neq 4 (Operand.tmp 52) (Operand.tmp 53) 4, type := 4, pos := "laws.go:446", after := #[{ on := 0, ground := Ground.data }, { on := 1, ground := Ground.data }], guard := none }
theorem hT6_2 : opsT6[2]? = some qT6_2 := by kernel_rfl
theorem lT6_2 : (LT6 2).setIfInBounds 2 true = LT6 3 := by kernel_rfl
theorem tT6_2 : RegT Try.prog opsT6 qT6_2 (some 54) 21 (LT6 2) (LT6 3) := regT hT6_2 rfl noselT6 (by kernel_rfl) (by kernel_rfl) lT6_2
def qT6_3 : Oper := { dst := some 55, op := Op.move (Operand.tmp 54), type := 4, pos := "laws.go:446", after := #[{ on := 2, ground := Ground.data }], guard := none }
theorem hT6_3 : opsT6[3]? = some qT6_3 := by kernel_rfl
theorem lT6_3 : (LT6 3).setIfInBounds 3 true = LT6 4 := by kernel_rfl
theorem tT6_3 : RegT Try.prog opsT6 qT6_3 (some 55) 20 (LT6 3) (LT6 4) := regT hT6_3 rfl noselT6 (by kernel_rfl) (by kernel_rfl) lT6_3
def qT6_4 : Oper := { dst := some 56, op := Op.move (Operand.tmp 6), type := 27, pos := "laws.go:446", after := #[{ on := 3, ground := Ground.guard }], guard := some (3, false) }
theorem hT6_4 : opsT6[4]? = some qT6_4 := by kernel_rfl
theorem lT6_4 : (LT6 4).setIfInBounds 4 true = LT6 5 := by kernel_rfl
theorem tT6_4 : RegT Try.prog opsT6 qT6_4 (some 56) 19 (LT6 4) (LT6 5) := regT hT6_4 rfl noselT6 (by kernel_rfl) (by kernel_rfl) lT6_4
def qT6_5 : Oper := { dst := some 57, op := Op.move (Operand.tmp 9), type := 27, pos := "laws.go:446", after := #[{ on := 3, ground := Ground.guard }], guard := some (3, false) }
theorem hT6_5 : opsT6[5]? = some qT6_5 := by kernel_rfl
theorem lT6_5 : (LT6 5).setIfInBounds 5 true = LT6 6 := by kernel_rfl
theorem tT6_5 : RegT Try.prog opsT6 qT6_5 (some 57) 18 (LT6 5) (LT6 6) := regT hT6_5 rfl noselT6 (by kernel_rfl) (by kernel_rfl) lT6_5
def qT6_6 : Oper := { dst := some 58, op := Op.call { callee := Callee.value (Operand.func 10), args := #[Operand.tmp 56, Operand.tmp 57], argTypes := #[27, 27] }, type := 4, pos := "laws.go:446", after := #[{ on := 4, ground := Ground.data }, { on := 5, ground := Ground.data }, { on := 3, ground := Ground.chain }, { on := 3, ground := Ground.guard }], guard := some (3, false) }
theorem hT6_6 : opsT6[6]? = some qT6_6 := by kernel_rfl
theorem lT6_6 : (LT6 6).setIfInBounds 6 true = LT6 7 := by kernel_rfl
theorem cT6_6 : RegC Try.prog opsT6 qT6_6 (some 58) 17 (LT6 6) (LT6 7) := regC hT6_6 rfl (by kernel_rfl) lT6_6
def qT6_7 : Oper := { dst := some 59, op := Op.unOp UnOp.not 4 (Operand.tmp 58), type := 4, pos := "laws.go:446", after := #[{ on := 6, ground := Ground.data }, { on := 3, ground := Ground.guard }], guard := some (3, false) }
theorem hT6_7 : opsT6[7]? = some qT6_7 := by kernel_rfl
theorem lT6_7 : (LT6 7).setIfInBounds 7 true = LT6 8 := by kernel_rfl
theorem tT6_7 : RegT Try.prog opsT6 qT6_7 (some 59) 16 (LT6 7) (LT6 8) := regT hT6_7 rfl noselT6 (by kernel_rfl) (by kernel_rfl) lT6_7
def qT6_8 : Oper := { dst := some 60, op := Op.pick (Operand.tmp 55) (Operand.const (Value.bool true)) (Operand.tmp 59), type := 4, pos := "laws.go:446", after := #[{ on := 3, ground := Ground.data }, { on := 7, ground := Ground.data }], guard := none }
theorem hT6_8 : opsT6[8]? = some qT6_8 := by kernel_rfl
theorem lT6_8 : (LT6 8).setIfInBounds 8 true = LT6 9 := by kernel_rfl
theorem tT6_8 : RegT Try.prog opsT6 qT6_8 (some 60) 15 (LT6 8) (LT6 9) := regT hT6_8 rfl noselT6 (by kernel_rfl) (by kernel_rfl) lT6_8
def qT6_9 : Oper := { dst := some 61, op := Op.move (Operand.tmp 60), type := 4, pos := "laws.go:446", after := #[{ on := 8, ground := Ground.data }, { on := 6, ground := Ground.chain }], guard := none }
theorem hT6_9 : opsT6[9]? = some qT6_9 := by kernel_rfl
theorem lT6_9 : (LT6 9).setIfInBounds 9 true = LT6 10 := by kernel_rfl
theorem tT6_9 : RegT Try.prog opsT6 qT6_9 (some 61) 14 (LT6 9) (LT6 10) := regT hT6_9 rfl noselT6 (by kernel_rfl) (by kernel_rfl) lT6_9
def qT6_10 : Oper := { dst := some 62, op := Op.move (Operand.tmp 7), type := 34, pos := "laws.go:446", after := #[{ on := 9, ground := Ground.guard }], guard := some (9, false) }
theorem hT6_10 : opsT6[10]? = some qT6_10 := by kernel_rfl
theorem lT6_10 : (LT6 10).setIfInBounds 10 true = LT6 11 := by kernel_rfl
theorem tT6_10 : RegT Try.prog opsT6 qT6_10 (some 62) 13 (LT6 10) (LT6 11) := regT hT6_10 rfl noselT6 (by kernel_rfl) (by kernel_rfl) lT6_10
def qT6_11 : Oper := { dst := some 63, op := Op.move (Operand.tmp 10), type := 34, pos := "laws.go:446", after := #[{ on := 9, ground := Ground.guard }], guard := some (9, false) }
theorem hT6_11 : opsT6[11]? = some qT6_11 := by kernel_rfl
theorem lT6_11 : (LT6 11).setIfInBounds 11 true = LT6 12 := by kernel_rfl
theorem tT6_11 : RegT Try.prog opsT6 qT6_11 (some 63) 12 (LT6 11) (LT6 12) := regT hT6_11 rfl noselT6 (by kernel_rfl) (by kernel_rfl) lT6_11
def qT6_12 : Oper := { dst := some 64, op := Op.call { callee := Callee.value (Operand.func 11), args := #[Operand.tmp 62, Operand.tmp 63], argTypes := #[34, 34] }, type := 4, pos := "laws.go:446", after := #[{ on := 10, ground := Ground.data }, { on := 11, ground := Ground.data }, { on := 9, ground := Ground.chain }, { on := 9, ground := Ground.guard }], guard := some (9, false) }
theorem hT6_12 : opsT6[12]? = some qT6_12 := by kernel_rfl
theorem lT6_12 : (LT6 12).setIfInBounds 12 true = LT6 13 := by kernel_rfl
theorem cT6_12 : RegC Try.prog opsT6 qT6_12 (some 64) 11 (LT6 12) (LT6 13) := regC hT6_12 rfl (by kernel_rfl) lT6_12
def qT6_13 : Oper := { dst := some 65, op := Op.unOp UnOp.not 4 (Operand.tmp 64), type := 4, pos := "laws.go:446", after := #[{ on := 12, ground := Ground.data }, { on := 9, ground := Ground.guard }], guard := some (9, false) }
theorem hT6_13 : opsT6[13]? = some qT6_13 := by kernel_rfl
theorem lT6_13 : (LT6 13).setIfInBounds 13 true = LT6 14 := by kernel_rfl
theorem tT6_13 : RegT Try.prog opsT6 qT6_13 (some 65) 10 (LT6 13) (LT6 14) := regT hT6_13 rfl noselT6 (by kernel_rfl) (by kernel_rfl) lT6_13
def qT6_14 : Oper := { dst := some 66, op := Op.pick (Operand.tmp 61) (Operand.const (Value.bool true)) (Operand.tmp 65), type := 4, pos := "laws.go:446", after := #[{ on := 9, ground := Ground.data }, { on := 13, ground := Ground.data }], guard := none }
theorem hT6_14 : opsT6[14]? = some qT6_14 := by kernel_rfl
theorem lT6_14 : (LT6 14).setIfInBounds 14 true = LT6 15 := by kernel_rfl
theorem tT6_14 : RegT Try.prog opsT6 qT6_14 (some 66) 9 (LT6 14) (LT6 15) := regT hT6_14 rfl noselT6 (by kernel_rfl) (by kernel_rfl) lT6_14
def qT6_15 : Oper := { dst := some 67, op := Op.move (Operand.tmp 66), type := 4, pos := "laws.go:446", after := #[{ on := 14, ground := Ground.data }, { on := 12, ground := Ground.chain }], guard := none }
theorem hT6_15 : opsT6[15]? = some qT6_15 := by kernel_rfl
theorem lT6_15 : (LT6 15).setIfInBounds 15 true = LT6 16 := by kernel_rfl
theorem tT6_15 : RegT Try.prog opsT6 qT6_15 (some 67) 8 (LT6 15) (LT6 16) := regT hT6_15 rfl noselT6 (by kernel_rfl) (by kernel_rfl) lT6_15
def qT6_16 : Oper := { dst := some 68, op := Op.load 26 (Operand.tmp 3), type := 26, pos := "laws.go:446", after := #[{ on := 15, ground := Ground.guard }], guard := some (15, false) }
theorem hT6_16 : opsT6[16]? = some qT6_16 := by kernel_rfl
theorem lT6_16 : (LT6 16).setIfInBounds 16 true = LT6 17 := by kernel_rfl
theorem tT6_16 : RegT Try.prog opsT6 qT6_16 (some 68) 7 (LT6 16) (LT6 17) := regT hT6_16 rfl noselT6 (by kernel_rfl) (by kernel_rfl) lT6_16
def qT6_17 : Oper := { dst := some 69, op := Op.load 31 (Operand.tmp 5), type := 31, pos := "laws.go:446", after := #[{ on := 15, ground := Ground.guard }], guard := some (15, false) }
theorem hT6_17 : opsT6[17]? = some qT6_17 := by kernel_rfl
theorem lT6_17 : (LT6 17).setIfInBounds 17 true = LT6 18 := by kernel_rfl
theorem tT6_17 : RegT Try.prog opsT6 qT6_17 (some 69) 6 (LT6 17) (LT6 18) := regT hT6_17 rfl noselT6 (by kernel_rfl) (by kernel_rfl) lT6_17
def qT6_19 : Oper := { dst := some 71, op := Op.load 26 (Operand.tmp 3), type := 26, pos := "laws.go:446", after := #[{ on := 15, ground := Ground.guard }], guard := some (15, false) }
theorem hT6_19 : opsT6[19]? = some qT6_19 := by kernel_rfl
theorem lT6_18 : (LT6 18).setIfInBounds 19 true = LT6 19 := by kernel_rfl
theorem tT6_18 : RegT Try.prog opsT6 qT6_19 (some 71) 5 (LT6 18) (LT6 19) := regT hT6_19 rfl noselT6 (by kernel_rfl) (by kernel_rfl) lT6_18
def qT6_20 : Oper := { dst := some 72, op := Op.load 31 (Operand.tmp 5), type := 31, pos := "laws.go:446", after := #[{ on := 15, ground := Ground.guard }], guard := some (15, false) }
theorem hT6_20 : opsT6[20]? = some qT6_20 := by kernel_rfl
theorem lT6_19 : (LT6 19).setIfInBounds 20 true = LT6 20 := by kernel_rfl
theorem tT6_19 : RegT Try.prog opsT6 qT6_20 (some 72) 4 (LT6 19) (LT6 20) := regT hT6_20 rfl noselT6 (by kernel_rfl) (by kernel_rfl) lT6_19
def qT6_18 : Oper := { dst := some 70, op := Op.call { callee := Callee.value (Operand.func 12), args := #[Operand.tmp 68, Operand.tmp 69], argTypes := #[26, 31] }, type := 4, pos := "laws.go:446", after := #[{ on := 16, ground := Ground.data }, { on := 17, ground := Ground.data }, { on := 15, ground := Ground.chain }, { on := 15, ground := Ground.guard }], guard := some (15, false) }
theorem hT6_18 : opsT6[18]? = some qT6_18 := by kernel_rfl
theorem lT6_20 : (LT6 20).setIfInBounds 18 true = LT6 21 := by kernel_rfl
theorem cT6_20 : RegC Try.prog opsT6 qT6_18 (some 70) 3 (LT6 20) (LT6 21) := regC hT6_18 rfl (by kernel_rfl) lT6_20
def qT6_21 : Oper := { dst := some 73, op := Op.call { callee := Callee.value (Operand.func 13), args := #[Operand.tmp 71, Operand.tmp 72], argTypes := #[26, 31] }, type := 4, pos := "laws.go:446", after := #[{ on := 19, ground := Ground.data }, { on := 20, ground := Ground.data }, { on := 18, ground := Ground.chain }, { on := 15, ground := Ground.guard }], guard := some (15, false) }
theorem hT6_21 : opsT6[21]? = some qT6_21 := by kernel_rfl
theorem lT6_21 : (LT6 21).setIfInBounds 21 true = LT6 22 := by kernel_rfl
theorem cT6_21 : RegC Try.prog opsT6 qT6_21 (some 73) 2 (LT6 21) (LT6 22) := regC hT6_21 rfl (by kernel_rfl) lT6_21
def qT6_22 : Oper := { dst := some 74, op := Op.binOp BinOp.neq 4 (Operand.tmp 70) (Operand.tmp 73) 4, type := 4, pos := "laws.go:446", after := #[{ on := 18, ground := Ground.data }, { on := 21, ground := Ground.data }, { on := 15, ground := Ground.guard }], guard := some (15, false) }
theorem hT6_22 : opsT6[22]? = some qT6_22 := by kernel_rfl
theorem lT6_22 : (LT6 22).setIfInBounds 22 true = LT6 23 := by kernel_rfl
theorem tT6_22 : RegT Try.prog opsT6 qT6_22 (some 74) 1 (LT6 22) (LT6 23) := regT hT6_22 rfl noselT6 (by kernel_rfl) (by kernel_rfl) lT6_22
def qT6_23 : Oper := { dst := some 75, op := Op.pick (Operand.tmp 67) (Operand.const (Value.bool true)) (Operand.tmp 74), type := 4, pos := "laws.go:446", after := #[{ on := 15, ground := Ground.data }, { on := 22, ground := Ground.data }], guard := none }
theorem hT6_23 : opsT6[23]? = some qT6_23 := by kernel_rfl
theorem lT6_23 : (LT6 23).setIfInBounds 23 true = LT6 24 := by kernel_rfl
theorem tT6_23 : RegT Try.prog opsT6 qT6_23 (some 75) 0 (LT6 23) (LT6 24) := regT hT6_23 rfl noselT6 (by kernel_rfl) (by kernel_rfl) lT6_23
end Go.Proofs.Ytlanmkimaambgaa.hexes

namespace Go.Proofs.Ytlanmkimaambgaa.hexes
open Go.RowKit

def findT14 (n : Nat) : Code → Option Code
  | .region id ops d => if id = n then some (.region id ops d) else none
  | .seq a b => match findT14 n a with
    | some c => some c
    | none => findT14 n b
  | .block _ c => findT14 n c
  | .scope c => findT14 n c
  | .loop c => findT14 n c
  | .cond _ a b => match findT14 n a with
    | some c => some c
    | none => findT14 n b
  | _ => none
def opsOfT14 : Option Code → Array Oper
  | some (.region _ ops _) => ops
  | _ => #[]
noncomputable def opsT14 : Array Oper := opsOfT14 (Try.f3.body.bind (findT14 14))
def schT14 : List Nat := [0, 1, 2, 3, 4, 5, 6, 7, 8, 9, 10, 11, 12, 13, 14, 15, 16, 17, 18, 19, 20, 21, 22]
def LT14 (k : Nat) : Array Bool := ((List.range 23).map fun i => (schT14.take k).contains i).toArray
theorem noselT14 : Region.noSelect opsT14 = true := by kernel_rfl
def qT14_0 : Oper := { dst := some 90, op := Op.move (Operand.tmp 7), type := 34, pos := "laws.go:454", after := #[], guard := none }
theorem hT14_0 : opsT14[0]? = some qT14_0 := by kernel_rfl
theorem lT14_0 : (LT14 0).setIfInBounds 0 true = LT14 1 := by kernel_rfl
theorem tT14_0 : RegT Try.prog opsT14 qT14_0 (some 90) 22 (LT14 0) (LT14 1) := regT hT14_0 rfl noselT14 (by kernel_rfl) (by kernel_rfl) lT14_0
def qT14_1 : Oper := { dst := some 91, op := Op.move (Operand.tmp 12), type := 3, pos := "laws.go:454", after := #[], guard := none }
theorem hT14_1 : opsT14[1]? = some qT14_1 := by kernel_rfl
theorem lT14_1 : (LT14 1).setIfInBounds 1 true = LT14 2 := by kernel_rfl
theorem tT14_1 : RegT Try.prog opsT14 qT14_1 (some 91) 21 (LT14 1) (LT14 2) := regT hT14_1 rfl noselT14 (by kernel_rfl) (by kernel_rfl) lT14_1
def qT14_2 : Oper := { dst := some 92, op := Op.indexAddr 34 (Operand.tmp 90) (Operand.tmp 91), type := 0, pos := "laws.go:454", after := #[{ on := 0, ground := Ground.data }, { on := 1, ground := Ground.data }], guard := none }
theorem hT14_2 : opsT14[2]? = some qT14_2 := by kernel_rfl
theorem lT14_2 : (LT14 2).setIfInBounds 2 true = LT14 3 := by kernel_rfl
theorem tT14_2 : RegT Try.prog opsT14 qT14_2 (some 92) 20 (LT14 2) (LT14 3) := regT hT14_2 rfl noselT14 (by kernel_rfl) (by kernel_rfl) lT14_2
def qT14_3 : Oper := { dst := some 93, op := Op.fieldAddr 31 (Operand.tmp 92) 1, type := 0, pos := "laws.go:454", after := #[{ on := 2, ground := Ground.data }], guard := none }
theorem hT14_3 : opsT14[3]? = some qT14_3 := by kernel_rfl
theorem lT14_3 : (LT14 3).setIfInBounds 3 true = LT14 4 := by kernel_rfl
theorem tT14_3 : RegT Try.prog opsT14 qT14_3 (some 93) 19 (LT14 3) (LT14 4) := regT hT14_3 rfl noselT14 (by kernel_rfl) (by kernel_rfl) lT14_3
def qT14_4 : Oper := { dst := some 94, op := Op.load 29 (Operand.tmp 93), type := 29, pos := "laws.go:454", after := #[{ on := 3, ground := Ground.data }], guard := none }
theorem hT14_4 : opsT14[4]? = some qT14_4 := by kernel_rfl
theorem lT14_4 : (LT14 4).setIfInBounds 4 true = LT14 5 := by kernel_rfl
theorem tT14_4 : RegT Try.prog opsT14 qT14_4 (some 94) 18 (LT14 4) (LT14 5) := regT hT14_4 rfl noselT14 (by kernel_rfl) (by kernel_rfl) lT14_4
def qT14_5 : Oper := { dst := some 95, op := Op.fieldAddr 31 (Operand.tmp 5) 1, type := 0, pos := "laws.go:454", after := #[], guard := none }
theorem hT14_5 : opsT14[5]? = some qT14_5 := by kernel_rfl
theorem lT14_5 : (LT14 5).setIfInBounds 5 true = LT14 6 := by kernel_rfl
theorem tT14_5 : RegT Try.prog opsT14 qT14_5 (some 95) 17 (LT14 5) (LT14 6) := regT hT14_5 rfl noselT14 (by kernel_rfl) (by kernel_rfl) lT14_5
def qT14_6 : Oper := { dst := some 96, op := Op.fieldAddr 29 (Operand.tmp 95) 0, type := 0, pos := "laws.go:454", after := #[{ on := 5, ground := Ground.data }], guard := none }
theorem hT14_6 : opsT14[6]? = some qT14_6 := by kernel_rfl
theorem lT14_6 : (LT14 6).setIfInBounds 6 true = LT14 7 := by kernel_rfl
theorem tT14_6 : RegT Try.prog opsT14 qT14_6 (some 96) 16 (LT14 6) (LT14 7) := regT hT14_6 rfl noselT14 (by kernel_rfl) (by kernel_rfl) lT14_6
def qT14_7 : Oper := { dst := some 97, op := Op.load 3 (Operand.tmp 96), type := 3, pos := "laws.go:454", after := #[{ on := 6, ground := Ground.data }], guard := none }
theorem hT14_7 : opsT14[7]? = some qT14_7 := by kernel_rfl
theorem lT14_7 : (LT14 7).setIfInBounds 7 true = LT14 8 := by kernel_rfl
theorem tT14_7 : RegT Try.prog opsT14 qT14_7 (some 97) 15 (LT14 7) (LT14 8) := regT hT14_7 rfl noselT14 (by kernel_rfl) (by kernel_rfl) lT14_7
def qT14_8 : Oper := { dst := some 98, op := Op.fieldAddr 31 (Operand.tmp 5) 1, type := 0, pos := "laws.go:454", after := #[], guard := none }
theorem hT14_8 : opsT14[8]? = some qT14_8 := by kernel_rfl
theorem lT14_8 : (LT14 8).setIfInBounds 8 true = LT14 9 := by kernel_rfl
theorem tT14_8 : RegT Try.prog opsT14 qT14_8 (some 98) 14 (LT14 8) (LT14 9) := regT hT14_8 rfl noselT14 (by kernel_rfl) (by kernel_rfl) lT14_8
def qT14_9 : Oper := { dst := some 99, op := Op.fieldAddr 29 (Operand.tmp 98) 1, type := 0, pos := "laws.go:454", after := #[{ on := 8, ground := Ground.data }], guard := none }
theorem hT14_9 : opsT14[9]? = some qT14_9 := by kernel_rfl
theorem lT14_9 : (LT14 9).setIfInBounds 9 true = LT14 10 := by kernel_rfl
theorem tT14_9 : RegT Try.prog opsT14 qT14_9 (some 99) 13 (LT14 9) (LT14 10) := regT hT14_9 rfl noselT14 (by kernel_rfl) (by kernel_rfl) lT14_9
def qT14_10 : Oper := { dst := some 100, op := Op.load 3 (Operand.tmp 99), type := 3, pos := "laws.go:454", after := #[{ on := 9, ground := Ground.data }], guard := none }
theorem hT14_10 : opsT14[10]? = some qT14_10 := by kernel_rfl
theorem lT14_10 : (LT14 10).setIfInBounds 10 true = LT14 11 := by kernel_rfl
theorem tT14_10 : RegT Try.prog opsT14 qT14_10 (some 100) 12 (LT14 10) (LT14 11) := regT hT14_10 rfl noselT14 (by kernel_rfl) (by kernel_rfl) lT14_10
def qT14_11 : Oper := { dst := some 101, op := Op.move (Operand.tmp 13), type := 3, pos := "laws.go:454", after := #[], guard := none }
theorem hT14_11 : opsT14[11]? = some qT14_11 := by kernel_rfl
theorem lT14_11 : (LT14 11).setIfInBounds 11 true = LT14 12 := by kernel_rfl
theorem tT14_11 : RegT Try.prog opsT14 qT14_11 (some 101) 11 (LT14 11) (LT14 12) := regT hT14_11 rfl noselT14 (by kernel_rfl) (by kernel_rfl) lT14_11
def qT14_12 : Oper := { dst := some 102, op := Op.binOp BinOp.add 3 (Operand.tmp 100) (Operand.tmp 101) 3, type := 3, pos := "laws.go:454", after := #[{ on := 10, ground := Ground.data }, { on := 11, ground := Ground.data }], guard := none }
theorem hT14_12 : opsT14[12]? = some qT14_12 := by kernel_rfl
theorem lT14_12 : (LT14 12).setIfInBounds 12 true = LT14 13 := by kernel_rfl
theorem tT14_12 : RegT Try.prog opsT14 qT14_12 (some 102) 10 (LT14 12) (LT14 13) := regT hT14_12 rfl noselT14 (by kernel_rfl) (by kernel_rfl) lT14_12
def qT14_13 : Oper := { dst := some 103, op := Op.build 29 #[(0, Operand.tmp 97), (1, Operand.tmp 102)], type := 29, pos := "laws.go:454", after := #[{ on := 7, ground := Ground.data }, { on := 12, ground := Ground.data }], guard := none }
theorem hT14_13 : opsT14[13]? = some qT14_13 := by kernel_rfl
theorem lT14_13 : (LT14 13).setIfInBounds 13 true = LT14 14 := by kernel_rfl
theorem tT14_13 : RegT Try.prog opsT14 qT14_13 (some 103) 9 (LT14 13) (LT14 14) := regT hT14_13 rfl noselT14 (by kernel_rfl) (by kernel_rfl) lT14_13
def qT14_14 : Oper := { dst := some 104, op := Op.binOp BinOp.neq 29 (Operand.tmp 94) (Operand.tmp 103) 29, type := 4, pos := "laws.go:454", after := #[{ on := 4, ground := Ground.data }, { on := 13, ground := Ground.data }], guard := none }
theorem hT14_14 : opsT14[14]? = some qT14_14 := by kernel_rfl
theorem lT14_14 : (LT14 14).setIfInBounds 14 true = LT14 15 := by kernel_rfl
theorem tT14_14 : RegT Try.prog opsT14 qT14_14 (some 104) 8 (LT14 14) (LT14 15) := regT hT14_14 rfl noselT14 (by kernel_rfl) (by kernel_rfl) lT14_14
def qT14_15 : Oper := { dst := some 105, op := Op.move (Operand.tmp 104), type := 4, pos := "laws.go:454", after := #[{ on := 14, ground := Ground.data }], guard := none }
theorem hT14_15 : opsT14[15]? = some qT14_15 := by kernel_rfl
theorem lT14_15 : (LT14 15).setIfInBounds 15 true = LT14 16 := by kernel_rfl
theorem tT14_15 : RegT Try.prog opsT14 qT14_15 (some 105) 7 (LT14 15) (LT14 16) := regT hT14_15 rfl noselT14 (by kernel_rfl) (by kernel_rfl) lT14_15
def qT14_16 : Oper := { dst := some 106, op := Op.move (Operand.tmp 7), type := 34, pos := "laws.go:454", after := #[{ on := 15, ground := Ground.guard }], guard := some (15, false) }
theorem hT14_16 : opsT14[16]? = some qT14_16 := by kernel_rfl
theorem lT14_16 : (LT14 16).setIfInBounds 16 true = LT14 17 := by kernel_rfl
theorem tT14_16 : RegT Try.prog opsT14 qT14_16 (some 106) 6 (LT14 16) (LT14 17) := regT hT14_16 rfl noselT14 (by kernel_rfl) (by kernel_rfl) lT14_16
def qT14_17 : Oper := { dst := some 107, op := Op.move (Operand.tmp 12), type := 3, pos := "laws.go:454", after := #[{ on := 15, ground := Ground.guard }], guard := some (15, false) }
theorem hT14_17 : opsT14[17]? = some qT14_17 := by kernel_rfl
theorem lT14_17 : (LT14 17).setIfInBounds 17 true = LT14 18 := by kernel_rfl
theorem tT14_17 : RegT Try.prog opsT14 qT14_17 (some 107) 5 (LT14 17) (LT14 18) := regT hT14_17 rfl noselT14 (by kernel_rfl) (by kernel_rfl) lT14_17
def qT14_18 : Oper := { dst := some 108, op := Op.indexAddr 34 (Operand.tmp 106) (Operand.tmp 107), type := 0, pos := "laws.go:454", after := #[{ on := 16, ground := Ground.data }, { on := 17, ground := Ground.data }, { on := 15, ground := Ground.guard }], guard := some (15, false) }
theorem hT14_18 : opsT14[18]? = some qT14_18 := by kernel_rfl
theorem lT14_18 : (LT14 18).setIfInBounds 18 true = LT14 19 := by kernel_rfl
theorem tT14_18 : RegT Try.prog opsT14 qT14_18 (some 108) 4 (LT14 18) (LT14 19) := regT hT14_18 rfl noselT14 (by kernel_rfl) (by kernel_rfl) lT14_18
def qT14_19 : Oper := { dst := some 109, op := Op.load 31 (Operand.tmp 108), type := 31, pos := "laws.go:454", after := #[{ on := 18, ground := Ground.data }, { on := 15, ground := Ground.guard }], guard := some (15, false) }
theorem hT14_19 : opsT14[19]? = some qT14_19 := by kernel_rfl
theorem lT14_19 : (LT14 19).setIfInBounds 19 true = LT14 20 := by kernel_rfl
theorem tT14_19 : RegT Try.prog opsT14 qT14_19 (some 109) 3 (LT14 19) (LT14 20) := regT hT14_19 rfl noselT14 (by kernel_rfl) (by kernel_rfl) lT14_19
def qT14_20 : Oper := { dst := some 110, op := Op.call { callee := Callee.value (Operand.func 14), args := #[Operand.tmp 109], argTypes := #[31] }, type := 4, pos := "laws.go:454", after := #[{ on := 19, ground := Ground.data }, { on := 15, ground := Ground.chain }, { on := 15, ground := Ground.guard }], guard := some (15, false) }
theorem hT14_20 : opsT14[20]? = some qT14_20 := by kernel_rfl
theorem lT14_20 : (LT14 20).setIfInBounds 20 true = LT14 21 := by kernel_rfl
theorem cT14_20 : RegC Try.prog opsT14 qT14_20 (some 110) 2 (LT14 20) (LT14 21) := regC hT14_20 rfl (by kernel_rfl) lT14_20
def qT14_21 : Oper := { dst := some 111, op := Op.unOp UnOp.not 4 (Operand.tmp 110), type := 4, pos := "laws.go:454", after := #[{ on := 20, ground := Ground.data }, { on := 15, ground := Ground.guard }], guard := some (15, false) }
theorem hT14_21 : opsT14[21]? = some qT14_21 := by kernel_rfl
theorem lT14_21 : (LT14 21).setIfInBounds 21 true = LT14 22 := by kernel_rfl
theorem tT14_21 : RegT Try.prog opsT14 qT14_21 (some 111) 1 (LT14 21) (LT14 22) := regT hT14_21 rfl noselT14 (by kernel_rfl) (by kernel_rfl) lT14_21
def qT14_22 : Oper := { dst := some 112, op := Op.pick (Operand.tmp 105) (Operand.const (Value.bool true)) (Operand.tmp 111), type := 4, pos := "laws.go:454", after := #[{ on := 15, ground := Ground.data }, { on := 21, ground := Ground.data }], guard := none }
theorem hT14_22 : opsT14[22]? = some qT14_22 := by kernel_rfl
theorem lT14_22 : (LT14 22).setIfInBounds 22 true = LT14 23 := by kernel_rfl
theorem tT14_22 : RegT Try.prog opsT14 qT14_22 (some 112) 0 (LT14 22) (LT14 23) := regT hT14_22 rfl noselT14 (by kernel_rfl) (by kernel_rfl) lT14_22
end Go.Proofs.Ytlanmkimaambgaa.hexes

