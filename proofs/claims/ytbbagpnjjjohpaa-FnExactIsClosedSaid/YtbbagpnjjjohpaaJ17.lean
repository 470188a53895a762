/-
  A statement of spec.CellOrder: its operations, and a theorem a step.
-/
import Derived.Test.YtbbagpnjjjohpaaJ16

namespace Go.Proofs.Ytbbagpnjjjohpaa.hexes
open Go.RowKit

def findE1 (n : Nat) : Code → Option Code
  | .region id ops d => if id = n then some (.region id ops d) else none
  | .seq a b => match findE1 n a with
    | some c => some c
    | none => findE1 n b
  | .block _ c => findE1 n c
  | .scope c => findE1 n c
  | .loop c => findE1 n c
  | .cond _ a b => match findE1 n a with
    | some c => some c
    | none => findE1 n b
  | _ => none
def opsOfE1 : Option Code → Array Oper
  | some (.region _ ops _) => ops
  | _ => #[]
noncomputable def opsE1 : Array Oper := opsOfE1 (Try.f108.body.bind (findE1 1))
def schE1 : List Nat := [0, 1, 2, 3, 5, 6, 7, 8, 10, 11, 12, 13, 15, 16, 17, 18, 4, 9, 14, 19, 20, 21]
def LE1 (k : Nat) : Array Bool := ((List.range 22).map fun i => (schE1.take k).contains i).toArray
theorem noselE1 : Region.noSelect opsE1 = true := by kernel_rfl
def qE1_0 : Oper := { dst := some 7, op := Op.fieldAddr 38 (Operand.tmp 2) 1, type := 0, pos := "l09_memory.go:6", after := #[], guard := none }
theorem hE1_0 : opsE1[0]? = some qE1_0 := by kernel_rfl
theorem lE1_0 : (LE1 0).setIfInBounds 0 true = LE1 1 := by kernel_rfl
theorem tE1_0 : RegT Try.prog opsE1 qE1_0 (some 7) 21 (LE1 0) (LE1 1) := regT hE1_0 rfl noselE1 (by kernel_rfl) (by kernel_rfl) lE1_0
def qE1_1 : Oper := { dst := some 8, op := Op.load 3 (Operand.tmp 7), type := 3, pos := "l09_memory.go:6", after := #[{ on := 0, ground := Ground.data }], guard := none }
theorem hE1_1 : opsE1[1]? = some qE1_1 := by kernel_rfl
theorem lE1_1 : (LE1 1).setIfInBounds 1 true = LE1 2 := by kernel_rfl
theorem tE1_1 : RegT Try.prog opsE1 qE1_1 (some 8) 20 (LE1 1) (LE1 2) := regT hE1_1 rfl noselE1 (by kernel_rfl) (by kernel_rfl) lE1_1
def qE1_2 : Oper := { dst := some 9, op := Op.fieldAddr 38 (Operand.tmp 3) 1, type := 0, pos := "l09_memory.go:6", after := #[], guard := none }
theorem hE1_2 : opsE1[2]? = some qE1_2 := by kernel_rfl
theorem lE1_2 : (LE1 2).setIfInBounds 2 true = LE1 3 := by kernel_rfl
theorem tE1_2 : RegT Try.prog opsE1 qE1_2 (some 9) 19 (LE1 2) (LE1 3) := regT hE1_2 rfl noselE1 (by kernel_rfl) (by kernel_rfl) lE1_2
def qE1_3 : Oper := { dst := some 10, op := Op.load 3 (Operand.tmp 9), type := 3, pos := "l09_memory.go:6", after := #[{ on := 2, ground := Ground.data }], guard := none }
theorem hE1_3 : opsE1[3]? = some qE1_3 := by kernel_rfl
theorem lE1_3 : (LE1 3).setIfInBounds 3 true = LE1 4 := by kernel_rfl
theorem tE1_3 : RegT Try.prog opsE1 qE1_3 (some 10) 18 (LE1 3) (LE1 4) := regT hE1_3 rfl noselE1 (by kernel_rfl) (by kernel_rfl) lE1_3
def qE1_5 : Oper := { dst := some 12, op := Op.fieldAddr 38 (Operand.tmp 2) 0, type := 0, pos := "l09_memory.go:6", after := #[], guard := none }
theorem hE1_5 : opsE1[5]? = some qE1_5 := by kernel_rfl
theorem lE1_4 : (LE1 4).setIfInBounds 5 true = LE1 5 := by kernel_rfl
theorem tE1_4 : RegT Try.prog opsE1 qE1_5 (some 12) 17 (LE1 4) (LE1 5) := regT hE1_5 rfl noselE1 (by kernel_rfl) (by kernel_rfl) lE1_4
def qE1_6 : Oper := { dst := some 13, op := Op.load 3 (Operand.tmp 12), type := 3, pos := "l09_memory.go:6", after := #[{ on := 5, ground := Ground.data }], guard := none }
theorem hE1_6 : opsE1[6]? = some qE1_6 := by kernel_rfl
theorem lE1_5 : (LE1 5).setIfInBounds 6 true = LE1 6 := by kernel_rfl
theorem tE1_5 : RegT Try.prog opsE1 qE1_6 (some 13) 16 (LE1 5) (LE1 6) := regT hE1_6 rfl noselE1 (by kernel_rfl) (by kernel_rfl) lE1_5
def qE1_7 : Oper := { dst := some 14, op := Op.fieldAddr 38 (Operand.tmp 3) 0, type := 0, pos := "l09_memory.go:6", after := #[], guard := none }
theorem hE1_7 : opsE1[7]? = some qE1_7 := by kernel_rfl
theorem lE1_6 : (LE1 6).setIfInBounds 7 true = LE1 7 := by kernel_rfl
theorem tE1_6 : RegT Try.prog opsE1 qE1_7 (some 14) 15 (LE1 6) (LE1 7) := regT hE1_7 rfl noselE1 (by kernel_rfl) (by kernel_rfl) lE1_6
def qE1_8 : Oper := { dst := some 15, op := Op.load 3 (Operand.tmp 14), type := 3, pos := "l09_memory.go:6", after := #[{ on := 7, ground := Ground.data }], guard := none }
theorem hE1_8 : opsE1[8]? = some qE1_8 := by kernel_rfl
theorem lE1_7 : (LE1 7).setIfInBounds 8 true = LE1 8 := by kernel_rfl
theorem tE1_7 : RegT Try.prog opsE1 qE1_8 (some 15) 14 (LE1 7) (LE1 8) := regT hE1_8 rfl noselE1 (by kernel_rfl) (by kernel_rfl) lE1_7
def qE1_10 : Oper := { dst := some 17, op := Op.fieldAddr 38 (Operand.tmp 2) 2, type := 0, pos := "l09_memory.go:6", after := #[], guard := none }
theorem hE1_10 : opsE1[10]? = some qE1_10 := by kernel_rfl
theorem lE1_8 : (LE1 8).setIfInBounds 10 true = LE1 9 := by kernel_rfl
theorem tE1_8 : RegT Try.prog opsE1 qE1_10 (some 17) 13 (LE1 8) (LE1 9) := regT hE1_10 rfl noselE1 (by kernel_rfl) (by kernel_rfl) lE1_8
def qE1_11 : Oper := { dst := some 18, op := Op.load 3 (Operand.tmp 17), type := 3, pos := "l09_memory.go:6", after := #[{ on := 10, ground := Ground.data }], guard := none }
theorem hE1_11 : opsE1[11]? = some qE1_11 := by kernel_rfl
theorem lE1_9 : (LE1 9).setIfInBounds 11 true = LE1 10 := by kernel_rfl
theorem tE1_9 : RegT Try.prog opsE1 qE1_11 (some 18) 12 (LE1 9) (LE1 10) := regT hE1_11 rfl noselE1 (by kernel_rfl) (by kernel_rfl) lE1_9
def qE1_12 : Oper := { dst := some 19, op := Op.fieldAddr 38 (Operand.tmp 3) 2, type := 0, pos := "l09_memory.go:6", after := #[], guard := none }
theorem hE1_12 : opsE1[12]? = some qE1_12 := by kernel_rfl
theorem lE1_10 : (LE1 10).setIfInBounds 12 true = LE1 11 := by kernel_rfl
theorem tE1_10 : RegT Try.prog opsE1 qE1_12 (some 19) 11 (LE1 10) (LE1 11) := regT hE1_12 rfl noselE1 (by kernel_rfl) (by kernel_rfl) lE1_10
def qE1_13 : Oper := { dst := some 20, op := Op.load 3 (Operand.tmp 19), type := 3, pos := "l09_memory.go:6", after := #[{ on := 12, ground := Ground.data }], guard := none }
theorem hE1_13 : opsE1[13]? = some qE1_13 := by kernel_rfl
theorem lE1_11 : (LE1 11).setIfInBounds 13 true = LE1 12 := by kernel_rfl
theorem tE1_11 : RegT Try.prog opsE1 qE1_13 (some 20) 10 (LE1 11) (LE1 12) := regT hE1_13 rfl noselE1 (by kernel_rfl) (by kernel_rfl) lE1_11
def qE1_15 : Oper := { dst := some 22, op := Op.fieldAddr 38 (Operand.tmp 2) 3, type := 0, pos := "l09_memory.go:6", after := #[], guard := none }
theorem hE1_15 : opsE1[15]? = some qE1_15 := by kernel_rfl
theorem lE1_12 : (LE1 12).setIfInBounds 15 true = LE1 13 := by kernel_rfl
theorem tE1_12 : RegT Try.prog opsE1 qE1_15 (some 22) 9 (LE1 12) (LE1 13) := regT hE1_15 rfl noselE1 (by kernel_rfl) (by kernel_rfl) lE1_12
def qE1_16 : Oper := { dst := some 23, op := Op.load 3 (Operand.tmp 22), type := 3, pos := "l09_memory.go:6", after := #[{ on := 15, ground := Ground.data }], guard := none }
theorem hE1_16 : opsE1[16]? = some qE1_16 := by kernel_rfl
theorem lE1_13 : (LE1 13).setIfInBounds 16 true = LE1 14 := by kernel_rfl
theorem tE1_13 : RegT Try.prog opsE1 qE1_16 (some 23) 8 (LE1 13) (LE1 14) := regT hE1_16 rfl noselE1 (by kernel_rfl) (by kernel_rfl) lE1_13
def qE1_17 : Oper := { dst := some 24, op := Op.fieldAddr 38 (Operand.tmp 3) 3, type := 0, pos := "l09_memory.go:6", after := #[], guard := none }
theorem hE1_17 : opsE1[17]? = some qE1_17 := by kernel_rfl
theorem lE1_14 : (LE1 14).setIfInBounds 17 true = LE1 15 := by kernel_rfl
theorem tE1_14 : RegT Try.prog opsE1 qE1_17 (some 24) 7 (LE1 14) (LE1 15) := regT hE1_17 rfl noselE1 (by kernel_rfl) (by kernel_rfl) lE1_14
def qE1_18 : Oper := { dst := some 25, op := Op.load 3 (Operand.tmp 24), type := 3, pos := "l09_memory.go:6", after := #[{ on := 17, ground := Ground.data }], guard := none }
theorem hE1_18 : opsE1[18]? = some qE1_18 := by kernel_rfl
theorem lE1_15 : (LE1 15).setIfInBounds 18 true = LE1 16 := by kernel_rfl
theorem tE1_15 : RegT Try.prog opsE1 qE1_18 (some 25) 6 (LE1 15) (LE1 16) := regT hE1_18 rfl noselE1 (by kernel_rfl) (by kernel_rfl) lE1_15
def qE1_4 : Oper := { dst := some 11, op := Op.call { callee := Callee.value (Operand.func 120), args := #[Operand.tmp 8, Operand.tmp 10], argTypes := #[3, 3] }, type := 3, pos := "l09_memory.go:6", after := #[{ on := 1, ground := Ground.data }, { on := 3, ground := Ground.data }], guard := none }
theorem hE1_4 : opsE1[4]? = some qE1_4 := by kernel_rfl
theorem lE1_16 : (LE1 16).setIfInBounds 4 true = LE1 17 := by kernel_rfl
theorem cE1_16 : RegC Try.prog opsE1 qE1_4 (some 11) 5 (LE1 16) (LE1 17) := regC hE1_4 rfl (by kernel_rfl) lE1_16
def qE1_9 : Oper := { dst := some 16, op := Op.call { callee := Callee.value (Operand.func 120), args := #[Operand.tmp 13, Operand.tmp 15], argTypes := #[3, 3] }, type := 3, pos := "l09_memory.go:6", after := #[{ on := 6, ground := Ground.data }, { on := 8, ground := Ground.data }, { on := 4, ground := Ground.chain }], guard := none }
theorem hE1_9 : opsE1[9]? = some qE1_9 := by kernel_rfl
theorem lE1_17 : (LE1 17).setIfInBounds 9 true = LE1 18 := by kernel_rfl
theorem cE1_17 : RegC Try.prog opsE1 qE1_9 (some 16) 4 (LE1 17) (LE1 18) := regC hE1_9 rfl (by kernel_rfl) lE1_17
def qE1_14 : Oper := { dst := some 21, op := Op.call { callee := Callee.value (Operand.func 120), args := #[Operand.tmp 18, Operand.tmp 20], argTypes := #[3, 3] }, type := 3, pos := "l09_memory.go:6", after := #[{ on := 11, ground := Ground.data }, { on := 13, ground := Ground.data }, { on := 9, ground := Ground.chain }], guard := none }
theorem hE1_14 : opsE1[14]? = some qE1_14 := by kernel_rfl
theorem lE1_18 : (LE1 18).setIfInBounds 14 true = LE1 19 := by kernel_rfl
theorem cE1_18 : RegC Try.prog opsE1 qE1_14 (some 21) 3 (LE1 18) (LE1 19) := regC hE1_14 rfl (by kernel_rfl) lE1_18
def qE1_19 : Oper := { dst := some 26, op := Op.call { callee := Callee.value (Operand.func 120), args := #[Operand.tmp 23, Operand.tmp 25], argTypes := #[3, 3] }, type := 3, pos := "l09_memory.go:6", after := #[{ on := 16, ground := Ground.data }, { on := 18, ground := Ground.data }, { on := 14, ground := Ground.chain }], guard := none }
theorem hE1_19 : opsE1[19]? = some qE1_19 := by kernel_rfl
theorem lE1_19 : (LE1 19).setIfInBounds 19 true = LE1 20 := by kernel_rfl
theorem cE1_19 : RegC Try.prog opsE1 qE1_19 (some 26) 2 (LE1 19) (LE1 20) := regC hE1_19 rfl (by kernel_rfl) lE1_19
def qE1_20 : Oper := { dst := some 27, op := Op.buildSlice 44 4 #[(0, Operand.tmp 11), (1, Operand.tmp 16), (2, Operand.tmp 21), (3, Operand.tmp 26)], type := 44, pos := "l09_memory.go:6", after := #[{ on := 4, ground := Ground.data }, { on := 9, ground := Ground.data }, { on := 14, ground := Ground.data }, { on := 19, ground := Ground.data }], guard := none }
theorem hE1_20 : opsE1[20]? = some qE1_20 := by kernel_rfl
theorem lE1_20 : (LE1 20).setIfInBounds 20 true = LE1 21 := by kernel_rfl
theorem cE1_20 : RegC Try.prog opsE1 qE1_20 (some 27) 1 (LE1 20) (LE1 21) := regC hE1_20 rfl (by kernel_rfl) lE1_20
def qE1_21 : Oper := { dst := some 5, op := Op.assign (Operand.tmp 27), type := 44, pos := "l09_memory.go:6", after := #[{ on := 20, ground := Ground.data }, { on := 19, ground := Ground.chain }, { on := 0, ground := Ground.phase }, { on := 1, ground := Ground.phase }, { on := 2, ground := Ground.phase }, { on := 3, ground := Ground.phase }, { on := 4, ground := Ground.phase }, { on := 5, ground := Ground.phase }, { on := 6, ground := Ground.phase }, { on := 7, ground := Ground.phase }, { on := 8, ground := Ground.phase }, { on := 9, ground := Ground.phase }, { on := 10, ground := Ground.phase }, { on := 11, ground := Ground.phase }, { on := 12, ground := Ground.phase }, { on := 13, ground := Ground.phase }, { on := 14, ground := Ground.phase }, { on := 15, ground := Ground.phase }, { on := 16, ground := Ground.phase }, { on := 17, ground := Ground.phase }, { on := 18, ground := Ground.phase }, { on := 19, ground := Ground.phase }, { on := 20, ground := Ground.phase }], guard := none }
theorem hE1_21 : opsE1[21]? = some qE1_21 := by kernel_rfl
theorem lE1_21 : (LE1 21).setIfInBounds 21 true = LE1 22 := by kernel_rfl
theorem tE1_21 : RegT Try.prog opsE1 qE1_21 (some 5) 0 (LE1 21) (LE1 22) := regT hE1_21 rfl noselE1 (by kernel_rfl) (by kernel_rfl) lE1_21
end Go.Proofs.Ytbbagpnjjjohpaa.hexes

