/-
  A statement of laws.FnFixed: its operations, and a theorem a step.
  A row's capacity is not below its length.
  What the walks of chapter 9's exact laws take: a boxed cell and rows kept through writes.
  What an exact law does with a list of cells that lies somewhere in an owned block: compare, mark, hold.
  Improve's contracts in a walk's words; marking one of two lists that share a type.
  Growth of worlds, rows kept beside a cursor, one new stamp.
-/
import Derived.Test.YtbbagpnjjjohpaaK10
import Derived.Test.YtbbagpnjjjohpaaK1
import Derived.Test.YtbbagpnjjjohpaaK9
import Derived.Deep.Slices
import Derived.ChangeSame
import Derived.OpenShut
import Derived.Lib.SmallJoins
import Derived.Test.YtbbagpnjjjohpaaK4
import Derived.Test.YtbbagpnjjjohpaaK26
import Derived.Test.YtbbagpnjjjohpaaK32
import Derived.Test.YtbbagpnjjjohpaaK16

namespace Go.Proofs.Ytbbagpnjjjohpaa.hexes
open Go.RowKit

def findF12X (n : Nat) : Code → Option Code
  | .region id ops d => if id = n then some (.region id ops d) else none
  | .seq a b => match findF12X n a with
    | some c => some c
    | none => findF12X n b
  | .block _ c => findF12X n c
  | .scope c => findF12X n c
  | .loop c => findF12X n c
  | .cond _ a b => match findF12X n a with
    | some c => some c
    | none => findF12X n b
  | _ => none
def opsOfF12X : Option Code → Array Oper
  | some (.region _ ops _) => ops
  | _ => #[]
noncomputable def opsF12X : Array Oper := opsOfF12X (Try.f3.body.bind (findF12X 12))
def schF12X : List Nat := [0, 1, 3, 4, 2, 5, 6, 7, 8, 9, 11, 12, 10, 13, 14, 15, 16, 17, 18, 19, 20, 21, 22, 23, 24, 25, 26, 27, 28, 29, 30, 32, 33, 31, 34, 35, 36, 37]
def LF12X (k : Nat) : Array Bool := ((List.range 38).map fun i => (schF12X.take k).contains i).toArray
theorem noselF12X : Region.noSelect opsF12X = true := by kernel_rfl
def qF12X_0 : Oper := { dst := some 82, op := Op.load 26 (Operand.tmp 7), type := 26, pos := "laws.go:481", after := #[], guard := none }
theorem hF12X_0 : opsF12X[0]? = some qF12X_0 := by kernel_rfl
theorem lF12X_0 : (LF12X 0).setIfInBounds 0 true = LF12X 1 := by kernel_rfl
theorem tF12X_0 : RegT Try.prog opsF12X qF12X_0 (some 82) 37 (LF12X 0) (LF12X 1) := regT hF12X_0 rfl noselF12X (by kernel_rfl) (by kernel_rfl) lF12X_0
def qF12X_1 : Oper := { dst := some 83, op := Op.move (Operand.tmp 8), type := 30, pos := "laws.go:481", after := #[], guard := none }
theorem hF12X_1 : opsF12X[1]? = some qF12X_1 := by kernel_rfl
theorem lF12X_1 : (LF12X 1).setIfInBounds 1 true = LF12X 2 := by kernel_rfl
theorem tF12X_1 : RegT Try.prog opsF12X qF12X_1 (some 83) 36 (LF12X 1) (LF12X 2) := regT hF12X_1 rfl noselF12X (by kernel_rfl) (by kernel_rfl) lF12X_1
def qF12X_3 : Oper := { dst := some 85, op := Op.load 26 (Operand.tmp 7), type := 26, pos := "laws.go:481", after := #[], guard := none }
theorem hF12X_3 : opsF12X[3]? = some qF12X_3 := by kernel_rfl
theorem lF12X_2 : (LF12X 2).setIfInBounds 3 true = LF12X 3 := by kernel_rfl
theorem tF12X_2 : RegT Try.prog opsF12X qF12X_3 (some 85) 35 (LF12X 2) (LF12X 3) := regT hF12X_3 rfl noselF12X (by kernel_rfl) (by kernel_rfl) lF12X_2
def qF12X_4 : Oper := { dst := some 86, op := Op.move (Operand.tmp 8), type := 30, pos := "laws.go:481", after := #[], guard := none }
theorem hF12X_4 : opsF12X[4]? = some qF12X_4 := by kernel_rfl
theorem lF12X_3 : (LF12X 3).setIfInBounds 4 true = LF12X 4 := by kernel_rfl
theorem tF12X_3 : RegT Try.prog opsF12X qF12X_4 (some 86) 34 (LF12X 3) (LF12X 4) := regT hF12X_4 rfl noselF12X (by kernel_rfl) (by kernel_rfl) lF12X_3
def qF12X_2 : Oper := { dst := some 84, op := Op.call { callee := Callee.value (Operand.func 23), args := #[Operand.tmp 82, Operand.tmp 83], argTypes := #[26, 30] }, type := 4, pos := "laws.go:481", after := #[{ on := 0, ground := Ground.data }, { on := 1, ground := Ground.data }], guard := none }
theorem hF12X_2 : opsF12X[2]? = some qF12X_2 := by kernel_rfl
theorem lF12X_4 : (LF12X 4).setIfInBounds 2 true = LF12X 5 := by kernel_rfl
theorem cF12X_4 : RegC Try.prog opsF12X qF12X_2 (some 84) 33 (LF12X 4) (LF12X 5) := regC hF12X_2 rfl (by kernel_rfl) lF12X_4
def qF12X_5 : Oper := { dst := some 87, op := Op.call { callee := Callee.value (Operand.func 24), args := #[Operand.tmp 85, Operand.tmp 86], argTypes := #[26, 30] }, type := 4, pos := "laws.go:481", after := #[{ on := 3, ground := Ground.data }, { on := 4, ground := Ground.data }, { on := 2, ground := Ground.chain }], guard := none }
theorem hF12X_5 : opsF12X[5]? = some qF12X_5 := by kernel_rfl
theorem lF12X_5 : (LF12X 5).setIfInBounds 5 true = LF12X 6 := by kernel_rfl
theorem cF12X_5 : RegC Try.prog opsF12X qF12X_5 (some 87) 32 (LF12X 5) (LF12X 6) := regC hF12X_5 rfl (by kernel_rfl) lF12X_5
def qF12X_6 : Oper := { dst := some 88, op := Op.binOp BinOp.neq 4 (Operand.tmp 84) (Operand.tmp 87) 4, type := 4, pos := "laws.go:481", after := #[{ on := 2, ground := Ground.data }, { on := 5, ground := Ground.data }], guard := none }
theorem hF12X_6 : opsF12X[6]? = some qF12X_6 := by kernel_rfl
theorem lF12X_6 : (LF12X 6).setIfInBounds 6 true = LF12X 7 := by kernel_rfl
theorem tF12X_6 : RegT Try.prog opsF12X qF12X_6 (some 88) 31 (LF12X 6) (LF12X 7) := regT hF12X_6 rfl noselF12X (by kernel_rfl) (by kernel_rfl) lF12X_6
def qF12X_7 : Oper := { dst := some 89, op := Op.move (Operand.tmp 88), type := 4, pos := "laws.go:481", after := #[{ on := 6, ground := Ground.data }, { on := 5, ground := Ground.chain }], guard := none }
theorem hF12X_7 : opsF12X[7]? = some qF12X_7 := by kernel_rfl
theorem lF12X_7 : (LF12X 7).setIfInBounds 7 true = LF12X 8 := by kernel_rfl
theorem tF12X_7 : RegT Try.prog opsF12X qF12X_7 (some 89) 30 (LF12X 7) (LF12X 8) := regT hF12X_7 rfl noselF12X (by kernel_rfl) (by kernel_rfl) lF12X_7
def qF12X_8 : Oper := { dst := some 90, op := Op.move (Operand.tmp 9), type := 30, pos := "laws.go:481", after := #[{ on := 7, ground := Ground.guard }], guard := some (7, false) }
theorem hF12X_8 : opsF12X[8]? = some qF12X_8 := by kernel_rfl
theorem lF12X_8 : (LF12X 8).setIfInBounds 8 true = LF12X 9 := by kernel_rfl
theorem tF12X_8 : RegT Try.prog opsF12X qF12X_8 (some 90) 29 (LF12X 8) (LF12X 9) := regT hF12X_8 rfl noselF12X (by kernel_rfl) (by kernel_rfl) lF12X_8
def qF12X_9 : Oper := { dst := some 91, op := Op.move (Operand.tmp 10), type := 30, pos := "laws.go:481", after := #[{ on := 7, ground := Ground.guard }], guard := some (7, false) }
theorem hF12X_9 : opsF12X[9]? = some qF12X_9 := by kernel_rfl
theorem lF12X_9 : (LF12X 9).setIfInBounds 9 true = LF12X 10 := by kernel_rfl
theorem tF12X_9 : RegT Try.prog opsF12X qF12X_9 (some 91) 28 (LF12X 9) (LF12X 10) := regT hF12X_9 rfl noselF12X (by kernel_rfl) (by kernel_rfl) lF12X_9
def qF12X_11 : Oper := { dst := some 93, op := Op.move (Operand.tmp 9), type := 30, pos := "laws.go:481", after := #[{ on := 7, ground := Ground.guard }], guard := some (7, false) }
theorem hF12X_11 : opsF12X[11]? = some qF12X_11 := by kernel_rfl
theorem lF12X_10 : (LF12X 10).setIfInBounds 11 true = LF12X 11 := by kernel_rfl
theorem tF12X_10 : RegT Try.prog opsF12X qF12X_11 (some 93) 27 (LF12X 10) (LF12X 11) := regT hF12X_11 rfl noselF12X (by kernel_rfl) (by kernel_rfl) lF12X_10
def qF12X_12 : Oper := { dst := some 94, op := Op.move (Operand.tmp 10), type := 30, pos := "laws.go:481", after := #[{ on := 7, ground := Ground.guard }], guard := some (7, false) }
theorem hF12X_12 : opsF12X[12]? = some qF12X_12 := by kernel_rfl
theorem lF12X_11 : (LF12X 11).setIfInBounds 12 true = LF12X 12 := by kernel_rfl
theorem tF12X_11 : RegT Try.prog opsF12X qF12X_12 (some 94) 26 (LF12X 11) (LF12X 12) := regT hF12X_12 rfl noselF12X (by kernel_rfl) (by kernel_rfl) lF12X_11
def qF12X_10 : Oper := { dst := some 92, op := Op.call { callee := Callee.value (Operand.func 25), args := #[Operand.tmp 90, Operand.tmp 91], argTypes := #[30, 30] }, type := 4, pos := "laws.go:481", after := #[{ on := 8, ground := Ground.data }, { on := 9, ground := Ground.data }, { on := 7, ground := Ground.chain }, { on := 7, ground := Ground.guard }], guard := some (7, false) }
theorem hF12X_10 : opsF12X[10]? = some qF12X_10 := by kernel_rfl
theorem lF12X_12 : (LF12X 12).setIfInBounds 10 true = LF12X 13 := by kernel_rfl
theorem cF12X_12 : RegC Try.prog opsF12X qF12X_10 (some 92) 25 (LF12X 12) (LF12X 13) := regC hF12X_10 rfl (by kernel_rfl) lF12X_12
def qF12X_13 : Oper := { dst := some 95, op := Op.call { callee := Callee.value (Operand.func 26), args := #[Operand.tmp 93, Operand.tmp 94], argTypes := #[30, 30] }, type := 4, pos := "laws.go:481", after := #[{ on := 11, ground := Ground.data }, { on := 12, ground := Ground.data }, { on := 10, ground := Ground.chain }, { on := 7, ground := Ground.guard }], guard := some (7, false) }
theorem hF12X_13 : opsF12X[13]? = some qF12X_13 := by kernel_rfl
theorem lF12X_13 : (LF12X 13).setIfInBounds 13 true = LF12X 14 := by kernel_rfl
theorem cF12X_13 : RegC Try.prog opsF12X qF12X_13 (some 95) 24 (LF12X 13) (LF12X 14) := regC hF12X_13 rfl (by kernel_rfl) lF12X_13
def qF12X_14 : Oper := { dst := some 96, op := Op.binOp BinOp.neq 4 (Operand.tmp 92) (Operand.tmp 95) 4, type := 4, pos := "laws.go:481", after := #[{ on := 10, ground := Ground.data }, { on := 13, ground := Ground.data }, { on := 7, ground := Ground.guard }], guard := some (7, false) }
theorem hF12X_14 : opsF12X[14]? = some qF12X_14 := by kernel_rfl
theorem lF12X_14 : (LF12X 14).setIfInBounds 14 true = LF12X 15 := by kernel_rfl
theorem tF12X_14 : RegT Try.prog opsF12X qF12X_14 (some 96) 23 (LF12X 14) (LF12X 15) := regT hF12X_14 rfl noselF12X (by kernel_rfl) (by kernel_rfl) lF12X_14
def qF12X_15 : Oper := { dst := some 97, op := Op.pick (Operand.tmp 89) (Operand.const (Value.bool true)) (Operand.tmp 96), type := 4, pos := "laws.go:481", after := #[{ on := 7, ground := Ground.data }, { on := 14, ground := Ground.data }], guard := none }
theorem hF12X_15 : opsF12X[15]? = some qF12X_15 := by kernel_rfl
theorem lF12X_15 : (LF12X 15).setIfInBounds 15 true = LF12X 16 := by kernel_rfl
theorem tF12X_15 : RegT Try.prog opsF12X qF12X_15 (some 97) 22 (LF12X 15) (LF12X 16) := regT hF12X_15 rfl noselF12X (by kernel_rfl) (by kernel_rfl) lF12X_15
def qF12X_16 : Oper := { dst := some 98, op := Op.move (Operand.tmp 97), type := 4, pos := "laws.go:481", after := #[{ on := 15, ground := Ground.data }, { on := 13, ground := Ground.chain }], guard := none }
theorem hF12X_16 : opsF12X[16]? = some qF12X_16 := by kernel_rfl
theorem lF12X_16 : (LF12X 16).setIfInBounds 16 true = LF12X 17 := by kernel_rfl
theorem tF12X_16 : RegT Try.prog opsF12X qF12X_16 (some 98) 21 (LF12X 16) (LF12X 17) := regT hF12X_16 rfl noselF12X (by kernel_rfl) (by kernel_rfl) lF12X_16
def qF12X_17 : Oper := { dst := some 99, op := Op.move (Operand.tmp 14), type := 30, pos := "laws.go:481", after := #[{ on := 16, ground := Ground.guard }], guard := some (16, false) }
theorem hF12X_17 : opsF12X[17]? = some qF12X_17 := by kernel_rfl
theorem lF12X_17 : (LF12X 17).setIfInBounds 17 true = LF12X 18 := by kernel_rfl
theorem tF12X_17 : RegT Try.prog opsF12X qF12X_17 (some 99) 20 (LF12X 17) (LF12X 18) := regT hF12X_17 rfl noselF12X (by kernel_rfl) (by kernel_rfl) lF12X_17
def qF12X_18 : Oper := { dst := some 100, op := Op.move (Operand.tmp 16), type := 30, pos := "laws.go:481", after := #[{ on := 16, ground := Ground.guard }], guard := some (16, false) }
theorem hF12X_18 : opsF12X[18]? = some qF12X_18 := by kernel_rfl
theorem lF12X_18 : (LF12X 18).setIfInBounds 18 true = LF12X 19 := by kernel_rfl
theorem tF12X_18 : RegT Try.prog opsF12X qF12X_18 (some 100) 19 (LF12X 18) (LF12X 19) := regT hF12X_18 rfl noselF12X (by kernel_rfl) (by kernel_rfl) lF12X_18
def qF12X_19 : Oper := { dst := some 101, op := Op.call { callee := Callee.value (Operand.func 14), args := #[Operand.tmp 99, Operand.tmp 100], argTypes := #[30, 30] }, type := 4, pos := "laws.go:481", after := #[{ on := 17, ground := Ground.data }, { on := 18, ground := Ground.data }, { on := 16, ground := Ground.chain }, { on := 16, ground := Ground.guard }], guard := some (16, false) }
theorem hF12X_19 : opsF12X[19]? = some qF12X_19 := by kernel_rfl
theorem lF12X_19 : (LF12X 19).setIfInBounds 19 true = LF12X 20 := by kernel_rfl
theorem cF12X_19 : RegC Try.prog opsF12X qF12X_19 (some 101) 18 (LF12X 19) (LF12X 20) := regC hF12X_19 rfl (by kernel_rfl) lF12X_19
def qF12X_20 : Oper := { dst := some 102, op := Op.unOp UnOp.not 4 (Operand.tmp 101), type := 4, pos := "laws.go:481", after := #[{ on := 19, ground := Ground.data }, { on := 16, ground := Ground.guard }], guard := some (16, false) }
theorem hF12X_20 : opsF12X[20]? = some qF12X_20 := by kernel_rfl
theorem lF12X_20 : (LF12X 20).setIfInBounds 20 true = LF12X 21 := by kernel_rfl
theorem tF12X_20 : RegT Try.prog opsF12X qF12X_20 (some 102) 17 (LF12X 20) (LF12X 21) := regT hF12X_20 rfl noselF12X (by kernel_rfl) (by kernel_rfl) lF12X_20
def qF12X_21 : Oper := { dst := some 103, op := Op.pick (Operand.tmp 98) (Operand.const (Value.bool true)) (Operand.tmp 102), type := 4, pos := "laws.go:481", after := #[{ on := 16, ground := Ground.data }, { on := 20, ground := Ground.data }], guard := none }
theorem hF12X_21 : opsF12X[21]? = some qF12X_21 := by kernel_rfl
theorem lF12X_21 : (LF12X 21).setIfInBounds 21 true = LF12X 22 := by kernel_rfl
theorem tF12X_21 : RegT Try.prog opsF12X qF12X_21 (some 103) 16 (LF12X 21) (LF12X 22) := regT hF12X_21 rfl noselF12X (by kernel_rfl) (by kernel_rfl) lF12X_21
def qF12X_22 : Oper := { dst := some 104, op := Op.move (Operand.tmp 103), type := 4, pos := "laws.go:481", after := #[{ on := 21, ground := Ground.data }, { on := 19, ground := Ground.chain }], guard := none }
theorem hF12X_22 : opsF12X[22]? = some qF12X_22 := by kernel_rfl
theorem lF12X_22 : (LF12X 22).setIfInBounds 22 true = LF12X 23 := by kernel_rfl
theorem tF12X_22 : RegT Try.prog opsF12X qF12X_22 (some 104) 15 (LF12X 22) (LF12X 23) := regT hF12X_22 rfl noselF12X (by kernel_rfl) (by kernel_rfl) lF12X_22
def qF12X_23 : Oper := { dst := some 105, op := Op.move (Operand.tmp 15), type := 30, pos := "laws.go:481", after := #[{ on := 22, ground := Ground.guard }], guard := some (22, false) }
theorem hF12X_23 : opsF12X[23]? = some qF12X_23 := by kernel_rfl
theorem lF12X_23 : (LF12X 23).setIfInBounds 23 true = LF12X 24 := by kernel_rfl
theorem tF12X_23 : RegT Try.prog opsF12X qF12X_23 (some 105) 14 (LF12X 23) (LF12X 24) := regT hF12X_23 rfl noselF12X (by kernel_rfl) (by kernel_rfl) lF12X_23
def qF12X_24 : Oper := { dst := some 106, op := Op.move (Operand.tmp 17), type := 30, pos := "laws.go:481", after := #[{ on := 22, ground := Ground.guard }], guard := some (22, false) }
theorem hF12X_24 : opsF12X[24]? = some qF12X_24 := by kernel_rfl
theorem lF12X_24 : (LF12X 24).setIfInBounds 24 true = LF12X 25 := by kernel_rfl
theorem tF12X_24 : RegT Try.prog opsF12X qF12X_24 (some 106) 13 (LF12X 24) (LF12X 25) := regT hF12X_24 rfl noselF12X (by kernel_rfl) (by kernel_rfl) lF12X_24
def qF12X_25 : Oper := { dst := some 107, op := Op.call { callee := Callee.value (Operand.func 14), args := #[Operand.tmp 105, Operand.tmp 106], argTypes := #[30, 30] }, type := 4, pos := "laws.go:481", after := #[{ on := 23, ground := Ground.data }, { on := 24, ground := Ground.data }, { on := 22, ground := Ground.chain }, { on := 22, ground := Ground.guard }], guard := some (22, false) }
theorem hF12X_25 : opsF12X[25]? = some qF12X_25 := by kernel_rfl
theorem lF12X_25 : (LF12X 25).setIfInBounds 25 true = LF12X 26 := by kernel_rfl
theorem cF12X_25 : RegC Try.prog opsF12X qF12X_25 (some 107) 12 (LF12X 25) (LF12X 26) := regC hF12X_25 rfl (by kernel_rfl) lF12X_25
def qF12X_26 : Oper := { dst := some 108, op := Op.unOp UnOp.not 4 (Operand.tmp 107), type := 4, pos := "laws.go:481", after := #[{ on := 25, ground := Ground.data }, { on := 22, ground := Ground.guard }], guard := some (22, false) }
theorem hF12X_26 : opsF12X[26]? = some qF12X_26 := by kernel_rfl
theorem lF12X_26 : (LF12X 26).setIfInBounds 26 true = LF12X 27 := by kernel_rfl
theorem tF12X_26 : RegT Try.prog opsF12X qF12X_26 (some 108) 11 (LF12X 26) (LF12X 27) := regT hF12X_26 rfl noselF12X (by kernel_rfl) (by kernel_rfl) lF12X_26
def qF12X_27 : Oper := { dst := some 109, op := Op.pick (Operand.tmp 104) (Operand.const (Value.bool true)) (Operand.tmp 108), type := 4, pos := "laws.go:481", after := #[{ on := 22, ground := Ground.data }, { on := 26, ground := Ground.data }], guard := none }
theorem hF12X_27 : opsF12X[27]? = some qF12X_27 := by kernel_rfl
theorem lF12X_27 : (LF12X 27).setIfInBounds 27 true = LF12X 28 := by kernel_rfl
theorem tF12X_27 : RegT Try.prog opsF12X qF12X_27 (some 109) 10 (LF12X 27) (LF12X 28) := regT hF12X_27 rfl noselF12X (by kernel_rfl) (by kernel_rfl) lF12X_27
def qF12X_28 : Oper := { dst := some 110, op := Op.move (Operand.tmp 109), type := 4, pos := "laws.go:481", after := #[{ on := 27, ground := Ground.data }, { on := 25, ground := Ground.chain }], guard := none }
theorem hF12X_28 : opsF12X[28]? = some qF12X_28 := by kernel_rfl
theorem lF12X_28 : (LF12X 28).setIfInBounds 28 true = LF12X 29 := by kernel_rfl
theorem tF12X_28 : RegT Try.prog opsF12X qF12X_28 (some 110) 9 (LF12X 28) (LF12X 29) := regT hF12X_28 rfl noselF12X (by kernel_rfl) (by kernel_rfl) lF12X_28
def qF12X_29 : Oper := { dst := some 111, op := Op.load 26 (Operand.tmp 7), type := 26, pos := "laws.go:481", after := #[{ on := 28, ground := Ground.guard }], guard := some (28, false) }
theorem hF12X_29 : opsF12X[29]? = some qF12X_29 := by kernel_rfl
theorem lF12X_29 : (LF12X 29).setIfInBounds 29 true = LF12X 30 := by kernel_rfl
theorem tF12X_29 : RegT Try.prog opsF12X qF12X_29 (some 111) 8 (LF12X 29) (LF12X 30) := regT hF12X_29 rfl noselF12X (by kernel_rfl) (by kernel_rfl) lF12X_29
def qF12X_30 : Oper := { dst := some 112, op := Op.move (Operand.tmp 8), type := 30, pos := "laws.go:481", after := #[{ on := 28, ground := Ground.guard }], guard := some (28, false) }
theorem hF12X_30 : opsF12X[30]? = some qF12X_30 := by kernel_rfl
theorem lF12X_30 : (LF12X 30).setIfInBounds 30 true = LF12X 31 := by kernel_rfl
theorem tF12X_30 : RegT Try.prog opsF12X qF12X_30 (some 112) 7 (LF12X 30) (LF12X 31) := regT hF12X_30 rfl noselF12X (by kernel_rfl) (by kernel_rfl) lF12X_30
def qF12X_32 : Oper := { dst := some 114, op := Op.load 26 (Operand.tmp 7), type := 26, pos := "laws.go:481", after := #[{ on := 28, ground := Ground.guard }], guard := some (28, false) }
theorem hF12X_32 : opsF12X[32]? = some qF12X_32 := by kernel_rfl
theorem lF12X_31 : (LF12X 31).setIfInBounds 32 true = LF12X 32 := by kernel_rfl
theorem tF12X_31 : RegT Try.prog opsF12X qF12X_32 (some 114) 6 (LF12X 31) (LF12X 32) := regT hF12X_32 rfl noselF12X (by kernel_rfl) (by kernel_rfl) lF12X_31
def qF12X_33 : Oper := { dst := some 115, op := Op.move (Operand.tmp 8), type := 30, pos := "laws.go:481", after := #[{ on := 28, ground := Ground.guard }], guard := some (28, false) }
theorem hF12X_33 : opsF12X[33]? = some qF12X_33 := by kernel_rfl
theorem lF12X_32 : (LF12X 32).setIfInBounds 33 true = LF12X 33 := by kernel_rfl
theorem tF12X_32 : RegT Try.prog opsF12X qF12X_33 (some 115) 5 (LF12X 32) (LF12X 33) := regT hF12X_33 rfl noselF12X (by kernel_rfl) (by kernel_rfl) lF12X_32
def qF12X_31 : Oper := { dst := some 113, op := Op.call { callee := Callee.value (Operand.func 27), args := #[Operand.tmp 111, Operand.tmp 112], argTypes := #[26, 30] }, type := 30, pos := "laws.go:481", after := #[{ on := 29, ground := Ground.data }, { on := 30, ground := Ground.data }, { on := 28, ground := Ground.chain }, { on := 28, ground := Ground.guard }], guard := some (28, false) }
theorem hF12X_31 : opsF12X[31]? = some qF12X_31 := by kernel_rfl
theorem lF12X_33 : (LF12X 33).setIfInBounds 31 true = LF12X 34 := by kernel_rfl
theorem cF12X_33 : RegC Try.prog opsF12X qF12X_31 (some 113) 4 (LF12X 33) (LF12X 34) := regC hF12X_31 rfl (by kernel_rfl) lF12X_33
def qF12X_34 : Oper := { dst := some 116, op := Op.call { callee := Callee.value (Operand.func 28), args := #[Operand.tmp 114, Operand.tmp 115], argTypes := #[26, 30] }, type := 30, pos := "laws.go:481", after := #[{ on := 32, ground := Ground.data }, { on := 33, ground := Ground.data }, { on := 31, ground := Ground.chain }, { on := 28, ground := Ground.guard }], guard := some (28, false) }
theorem hF12X_34 : opsF12X[34]? = some qF12X_34 := by kernel_rfl
theorem lF12X_34 : (LF12X 34).setIfInBounds 34 true = LF12X 35 := by kernel_rfl
theorem cF12X_34 : RegC Try.prog opsF12X qF12X_34 (some 116) 3 (LF12X 34) (LF12X 35) := regC hF12X_34 rfl (by kernel_rfl) lF12X_34
def qF12X_35 : Oper := { dst := some 117, op := Op.call { callee := Callee.value (Operand.func 14), args := #[Operand.tmp 113, Operand.tmp 116], argTypes := #[30, 30] }, type := 4, pos := "laws.go:481", after := #[{ on := 31, ground := Ground.data }, { on := 34, ground := Ground.data }, { on := 34, ground := Ground.chain }, { on := 28, ground := Ground.guard }], guard := some (28, false) }
theorem hF12X_35 : opsF12X[35]? = some qF12X_35 := by kernel_rfl
theorem lF12X_35 : (LF12X 35).setIfInBounds 35 true = LF12X 36 := by kernel_rfl
theorem cF12X_35 : RegC Try.prog opsF12X qF12X_35 (some 117) 2 (LF12X 35) (LF12X 36) := regC hF12X_35 rfl (by kernel_rfl) lF12X_35
def qF12X_36 : Oper := { dst := some 118, op := Op.unOp UnOp.not 4 (Operand.tmp 117), type := 4, pos := "laws.go:481", after := #[{ on := 35, ground := Ground.data }, { on := 28, ground := Ground.guard }], guard := some (28, false) }
theorem hF12X_36 : opsF12X[36]? = some qF12X_36 := by kernel_rfl
theorem lF12X_36 : (LF12X 36).setIfInBounds 36 true = LF12X 37 := by kernel_rfl
theorem tF12X_36 : RegT Try.prog opsF12X qF12X_36 (some 118) 1 (LF12X 36) (LF12X 37) := regT hF12X_36 rfl noselF12X (by kernel_rfl) (by kernel_rfl) lF12X_36
def qF12X_37 : Oper := { dst := some 119, op := Op.pick (Operand.tmp 110) (Operand.const (Value.bool true)) (Operand.tmp 118), type := 4, pos := "laws.go:481", after := #[{ on := 28, ground := Ground.data }, { on := 36, ground := Ground.data }], guard := none }
theorem hF12X_37 : opsF12X[37]? = some qF12X_37 := by kernel_rfl
theorem lF12X_37 : (LF12X 37).setIfInBounds 37 true = LF12X 38 := by kernel_rfl
theorem tF12X_37 : RegT Try.prog opsF12X qF12X_37 (some 119) 0 (LF12X 37) (LF12X 38) := regT hF12X_37 rfl noselF12X (by kernel_rfl) (by kernel_rfl) lF12X_37
end Go.Proofs.Ytbbagpnjjjohpaa.hexes

namespace Go.Proofs.Ytbbagpnjjjohpaa.hexes
open Go.RowKit
theorem Row.cap {w : World} {lo hi e size n c : Nat} {A : Option Addr} {xs : List Value} (h : Row w lo hi e size A n c xs) : n ≤ c := by
  rcases h.own.2 with ⟨h0, rfl⟩ | ⟨g, cap, cur, hv, _, _, hnc, _⟩
  · exact Nat.zero_le _
  · simp only [Value.slice.injEq, true_and] at hv
    obtain ⟨_, rfl⟩ := hv
    exact hnc
end Go.Proofs.Ytbbagpnjjjohpaa.hexes

namespace Go.Proofs.Ytbbagpnjjjohpaa.hexes
open Go.RowKit

theorem XB.wrote {w w' : World} {b : Nat} {x0 x1 x2 x3 : Int} {lo hi : Nat} (h : XB b x0 x1 x2 x3 w) (hw : Wrote w w' lo hi) (hd : b < lo ∨ hi ≤ b) : XB b x0 x1 x2 x3 w' := by
  obtain ⟨row, hg, hr⟩ := hw
  exact h.grown hg (fun e => by have := hr b e; omega)
theorem Row.base {w : World} {lo lo' hi e size n c : Nat} {A : Option Addr} {xs : List Value} (h : Row w lo hi e size A n c xs) (hl : lo' ≤ lo) : Row w lo' hi e size A n c xs := ⟨own_base h.own hl, h.lt⟩
end Go.Proofs.Ytbbagpnjjjohpaa.hexes

namespace Go.Proofs.Ytbbagpnjjjohpaa.hexes
open Go.RowKit

theorem Wce.wroteR {w w' : World} {lo hi lo' hi' n c : Nat} {A : Option Addr} {zs : List Ce} (h : Wce w lo hi A n c zs) (hw : WroteR lo' hi' w w') (hd : hi ≤ lo' ∨ hi' ≤ lo) : Wce w' lo hi A n c zs := by
  induction hw with
  | refl => exact h
  | step _ hw ih => exact ih.wrote hw hd
theorem Wce.turned {w w' : World} {lo hi lo' hi' n c : Nat} {A : Option Addr} {zs : List Ce} (h : Wce w lo hi A n c zs) (hw : Turned lo' hi' w w') (hd : hi ≤ lo' ∨ hi' ≤ lo) : Wce w' lo hi A n c zs := by
  obtain ⟨w1, hb, hw⟩ := hw
  exact (h.below hb).wroteR hw hd
end Go.Proofs.Ytbbagpnjjjohpaa.hexes

namespace Go.Proofs.Ytbbagpnjjjohpaa.hexes
open Go.RowKit

theorem ImpEnd.rows {w w' : World} {e : Ending} {q : List Ce × List Ce} {us vs : List Ce} {m3 m4 : Nat} (h : ImpEnd w q e w') (hq : q = (us, vs)) (h3 : us.length = m3) (h4 : vs.length = m4) : ∃ A3 c3 A4 c4, e = .returned (.tuple #[.slice A3 m3 c3, .slice A4 m4 c4]) ∧ Wce w' w.heap.size w'.heap.size A3 m3 c3 us ∧ Wce w' w.heap.size w'.heap.size A4 m4 c4 vs ∧ ApartC A3 A4 ∧ Below w.heap.size w w' := by
  subst hq h3 h4
  obtain ⟨A3, c3, m3, A4, c4, m4, rfl, rfl, he, r3, r4, ap, hb⟩ := h
  exact ⟨A3, c3, A4, c4, he, r3, r4, ap, hb⟩
theorem specImp_rows {gs : List Nd} {wk cp : Int} {A : Option Addr} {n c : Nat} {ces : List Ce} {A2 : Option Addr} {n2 c2 : Nat} {x0 x1 x2 x3 : Int} {us vs : List Ce} {m3 m4 : Nat} (hq : impG gs wk cp ces (x0, x1, x2, x3) = (us, vs)) (h3 : us.length = m3) (h4 : vs.length = m4) (hl : gs.length = n) (ho : ∀ x ∈ gs, x.2.2.2.length ≤ 1048576) (hn : n ≤ 1048576) (hl2 : ces.length = n2) (hA2 : A2 = none → c2 = 0) (hc2 : n2 ≤ c2) (hn2 : n2 ≤ 1048576) (w : World) (h : Nds w A gs) (h2 : Ces w A2 ces) :
    Calls Try.prog 22 #[.agg #[.slice A n c, .int .i64 wk, .int .i64 cp], .slice A2 n2 c2, .agg #[.int .i64 x0, .int .i64 x1, .int .i64 x2, .int .i64 x3]] w fun e w' => ∃ A3 c3 A4 c4, e = .returned (.tuple #[.slice A3 m3 c3, .slice A4 m4 c4]) ∧ Wce w' w.heap.size w'.heap.size A3 m3 c3 us ∧ Wce w' w.heap.size w'.heap.size A4 m4 c4 vs ∧ ApartC A3 A4 ∧ Below w.heap.size w w' :=
  (specImp_any gs wk cp A n c hl ho hn ces A2 n2 c2 hl2 hA2 hc2 (by omega) x0 x1 x2 x3 w h h2).mono fun _ _ he => he.rows hq h3 h4
theorem implImp_rows {gs : List Nd} {wk cp : Int} {A : Option Addr} {n c : Nat} {ces : List Ce} {A2 : Option Addr} {n2 c2 : Nat} {x0 x1 x2 x3 : Int} {us vs : List Ce} {m3 m4 : Nat} (hq : impG gs wk cp ces (x0, x1, x2, x3) = (us, vs)) (h3 : us.length = m3) (h4 : vs.length = m4) (hl : gs.length = n) (ho : ∀ x ∈ gs, x.2.2.2.length ≤ 1048576) (hn : n ≤ 1048576) (hl2 : ces.length = n2) (hA2 : A2 = none → c2 = 0) (hc2 : n2 ≤ c2) (hn2 : n2 ≤ 1048576) (w : World) (h : Nds w A gs) (h2 : Ces w A2 ces) :
    Calls Try.prog 21 #[.agg #[.slice A n c, .int .i64 wk, .int .i64 cp], .slice A2 n2 c2, .agg #[.int .i64 x0, .int .i64 x1, .int .i64 x2, .int .i64 x3]] w fun e w' => ∃ A3 c3 A4 c4, e = .returned (.tuple #[.slice A3 m3 c3, .slice A4 m4 c4]) ∧ Wce w' w.heap.size w'.heap.size A3 m3 c3 us ∧ Wce w' w.heap.size w'.heap.size A4 m4 c4 vs ∧ ApartC A3 A4 ∧ Below w.heap.size w w' :=
  (implImp_any gs wk cp A n c hl ho hn ces A2 n2 c2 hl2 hA2 hc2 (by omega) x0 x1 x2 x3 w h h2).mono fun _ _ he => he.rows hq h3 h4
theorem ApartC.symm {A B : Option Addr} (h : ApartC A B) : ApartC B A := fun g o o' hB hA => h g o' o hA hB
end Go.Proofs.Ytbbagpnjjjohpaa.hexes

namespace Go.Proofs.Ytbbagpnjjjohpaa.hexes
open Go.RowKit

theorem grown_new {a b c : World} {row row' : Option Nat} (h : a.grownBy b row) (k : b.grownBy c row') (hr : ∀ g, row' = some g → a.heap.size ≤ g) : a.grownBy c row :=
  ⟨k.os.trans h.os, k.tape.trans h.tape, k.output.trans h.output, Nat.le_trans h.size k.size, fun i hi hne => (k.block i (Nat.lt_of_lt_of_le hi h.size) (fun e => by have := hr i e.symm; omega)).trans (h.block i hi hne)⟩

theorem own_kept_c {w w' : World} {B e size n c : Nat} {v : Value} {xs : List Value} (h : w.ownsRow B e size v n xs) (hg : w.grownBy w' (some c)) (hc : c < B) : w'.ownsRow B e size v n xs := by
  refine h.kept hg ?_
  cases hv : v.ownBlock with
  | none => exact .inl rfl
  | some g =>
    refine .inr fun e => ?_
    have := own_ge h g hv
    have := Option.some.inj e
    omega

end Go.Proofs.Ytbbagpnjjjohpaa.hexes

