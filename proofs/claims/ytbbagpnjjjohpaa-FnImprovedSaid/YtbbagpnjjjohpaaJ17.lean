/-
  A statement of spec.Recall: its operations, and a theorem a step.
-/
import Derived.Test.YtbbagpnjjjohpaaJ12

namespace Go.Proofs.Ytbbagpnjjjohpaa.hexes
open Go.RowKit

def findR16 (n : Nat) : Code → Option Code
  | .region id ops d => if id = n then some (.region id ops d) else none
  | .seq a b => match findR16 n a with
    | some c => some c
    | none => findR16 n b
  | .block _ c => findR16 n c
  | .scope c => findR16 n c
  | .loop c => findR16 n c
  | .cond _ a b => match findR16 n a with
    | some c => some c
    | none => findR16 n b
  | _ => none
def opsOfR16 : Option Code → Array Oper
  | some (.region _ ops _) => ops
  | _ => #[]
noncomputable def opsR16 : Array Oper := opsOfR16 (Try.f58.body.bind (findR16 16))
def schR16 : List Nat := [0, 1, 2, 3, 4, 5, 6, 7, 8, 9, 10, 11, 12, 13, 14, 15, 16, 17, 18, 19, 20, 21, 22, 23, 24, 25, 26, 27]
def LR16 (k : Nat) : Array Bool := ((List.range 28).map fun i => (schR16.take k).contains i).toArray
theorem noselR16 : Region.noSelect opsR16 = true := by kernel_rfl
def qR16_0 : Oper := { dst := some 55, op := Op.move (Operand.tmp 1), type := 30, pos := "l09_memory.go:73", after := #[], guard := none }
theorem hR16_0 : opsR16[0]? = some qR16_0 := by kernel_rfl
theorem lR16_0 : (LR16 0).setIfInBounds 0 true = LR16 1 := by kernel_rfl
theorem tR16_0 : RegT Try.prog opsR16 qR16_0 (some 55) 27 (LR16 0) (LR16 1) := regT hR16_0 rfl noselR16 (by kernel_rfl) (by kernel_rfl) lR16_0
def qR16_1 : Oper := { dst := some 56, op := Op.move (Operand.tmp 12), type := 3, pos := "l09_memory.go:73", after := #[], guard := none }
theorem hR16_1 : opsR16[1]? = some qR16_1 := by kernel_rfl
theorem lR16_1 : (LR16 1).setIfInBounds 1 true = LR16 2 := by kernel_rfl
theorem tR16_1 : RegT Try.prog opsR16 qR16_1 (some 56) 26 (LR16 1) (LR16 2) := regT hR16_1 rfl noselR16 (by kernel_rfl) (by kernel_rfl) lR16_1
def qR16_2 : Oper := { dst := some 57, op := Op.indexAddr 30 (Operand.tmp 55) (Operand.tmp 56), type := 0, pos := "l09_memory.go:73", after := #[{ on := 0, ground := Ground.data }, { on := 1, ground := Ground.data }], guard := none }
theorem hR16_2 : opsR16[2]? = some qR16_2 := by kernel_rfl
theorem lR16_2 : (LR16 2).setIfInBounds 2 true = LR16 3 := by kernel_rfl
theorem tR16_2 : RegT Try.prog opsR16 qR16_2 (some 57) 25 (LR16 2) (LR16 3) := regT hR16_2 rfl noselR16 (by kernel_rfl) (by kernel_rfl) lR16_2
def qR16_3 : Oper := { dst := some 58, op := Op.fieldAddr 38 (Operand.tmp 57) 0, type := 0, pos := "l09_memory.go:73", after := #[{ on := 2, ground := Ground.data }], guard := none }
theorem hR16_3 : opsR16[3]? = some qR16_3 := by kernel_rfl
theorem lR16_3 : (LR16 3).setIfInBounds 3 true = LR16 4 := by kernel_rfl
theorem tR16_3 : RegT Try.prog opsR16 qR16_3 (some 58) 24 (LR16 3) (LR16 4) := regT hR16_3 rfl noselR16 (by kernel_rfl) (by kernel_rfl) lR16_3
def qR16_4 : Oper := { dst := some 59, op := Op.load 3 (Operand.tmp 58), type := 3, pos := "l09_memory.go:73", after := #[{ on := 3, ground := Ground.data }], guard := none }
theorem hR16_4 : opsR16[4]? = some qR16_4 := by kernel_rfl
theorem lR16_4 : (LR16 4).setIfInBounds 4 true = LR16 5 := by kernel_rfl
theorem tR16_4 : RegT Try.prog opsR16 qR16_4 (some 59) 23 (LR16 4) (LR16 5) := regT hR16_4 rfl noselR16 (by kernel_rfl) (by kernel_rfl) lR16_4
def qR16_5 : Oper := { dst := some 60, op := Op.fieldAddr 38 (Operand.tmp 5) 0, type := 0, pos := "l09_memory.go:73", after := #[], guard := none }
theorem hR16_5 : opsR16[5]? = some qR16_5 := by kernel_rfl
theorem lR16_5 : (LR16 5).setIfInBounds 5 true = LR16 6 := by kernel_rfl
theorem tR16_5 : RegT Try.prog opsR16 qR16_5 (some 60) 22 (LR16 5) (LR16 6) := regT hR16_5 rfl noselR16 (by kernel_rfl) (by kernel_rfl) lR16_5
def qR16_6 : Oper := { dst := some 61, op := Op.load 3 (Operand.tmp 60), type := 3, pos := "l09_memory.go:73", after := #[{ on := 5, ground := Ground.data }], guard := none }
theorem hR16_6 : opsR16[6]? = some qR16_6 := by kernel_rfl
theorem lR16_6 : (LR16 6).setIfInBounds 6 true = LR16 7 := by kernel_rfl
theorem tR16_6 : RegT Try.prog opsR16 qR16_6 (some 61) 21 (LR16 6) (LR16 7) := regT hR16_6 rfl noselR16 (by kernel_rfl) (by kernel_rfl) lR16_6
def qR16_7 : Oper := { dst := some 62, op := Op.binOp BinOp.neq 3 (Operand.tmp 59) (Operand.tmp 61) 3, type := 4, pos := "l09_memory.go:73", after := #[{ on := 4, ground := Ground.data }, { on := 6, ground := Ground.data }], guard := none }
theorem hR16_7 : opsR16[7]? = some qR16_7 := by kernel_rfl
theorem lR16_7 : (LR16 7).setIfInBounds 7 true = LR16 8 := by kernel_rfl
theorem tR16_7 : RegT Try.prog opsR16 qR16_7 (some 62) 20 (LR16 7) (LR16 8) := regT hR16_7 rfl noselR16 (by kernel_rfl) (by kernel_rfl) lR16_7
def qR16_8 : Oper := { dst := some 63, op := Op.move (Operand.tmp 62), type := 4, pos := "l09_memory.go:73", after := #[{ on := 7, ground := Ground.data }], guard := none }
theorem hR16_8 : opsR16[8]? = some qR16_8 := by kernel_rfl
theorem lR16_8 : (LR16 8).setIfInBounds 8 true = LR16 9 := by kernel_rfl
theorem tR16_8 : RegT Try.prog opsR16 qR16_8 (some 63) 19 (LR16 8) (LR16 9) := regT hR16_8 rfl noselR16 (by kernel_rfl) (by kernel_rfl) lR16_8
def qR16_9 : Oper := { dst := some 64, op := Op.move (Operand.tmp 1), type := 30, pos := "l09_memory.go:73", after := #[{ on := 8, ground := Ground.guard }], guard := some (8, false) }
theorem hR16_9 : opsR16[9]? = some qR16_9 := by kernel_rfl
theorem lR16_9 : (LR16 9).setIfInBounds 9 true = LR16 10 := by kernel_rfl
theorem tR16_9 : RegT Try.prog opsR16 qR16_9 (some 64) 18 (LR16 9) (LR16 10) := regT hR16_9 rfl noselR16 (by kernel_rfl) (by kernel_rfl) lR16_9
def qR16_10 : Oper := { dst := some 65, op := Op.move (Operand.tmp 12), type := 3, pos := "l09_memory.go:73", after := #[{ on := 8, ground := Ground.guard }], guard := some (8, false) }
theorem hR16_10 : opsR16[10]? = some qR16_10 := by kernel_rfl
theorem lR16_10 : (LR16 10).setIfInBounds 10 true = LR16 11 := by kernel_rfl
theorem tR16_10 : RegT Try.prog opsR16 qR16_10 (some 65) 17 (LR16 10) (LR16 11) := regT hR16_10 rfl noselR16 (by kernel_rfl) (by kernel_rfl) lR16_10
def qR16_11 : Oper := { dst := some 66, op := Op.indexAddr 30 (Operand.tmp 64) (Operand.tmp 65), type := 0, pos := "l09_memory.go:73", after := #[{ on := 9, ground := Ground.data }, { on := 10, ground := Ground.data }, { on := 8, ground := Ground.guard }], guard := some (8, false) }
theorem hR16_11 : opsR16[11]? = some qR16_11 := by kernel_rfl
theorem lR16_11 : (LR16 11).setIfInBounds 11 true = LR16 12 := by kernel_rfl
theorem tR16_11 : RegT Try.prog opsR16 qR16_11 (some 66) 16 (LR16 11) (LR16 12) := regT hR16_11 rfl noselR16 (by kernel_rfl) (by kernel_rfl) lR16_11
def qR16_12 : Oper := { dst := some 67, op := Op.fieldAddr 38 (Operand.tmp 66) 1, type := 0, pos := "l09_memory.go:73", after := #[{ on := 11, ground := Ground.data }, { on := 8, ground := Ground.guard }], guard := some (8, false) }
theorem hR16_12 : opsR16[12]? = some qR16_12 := by kernel_rfl
theorem lR16_12 : (LR16 12).setIfInBounds 12 true = LR16 13 := by kernel_rfl
theorem tR16_12 : RegT Try.prog opsR16 qR16_12 (some 67) 15 (LR16 12) (LR16 13) := regT hR16_12 rfl noselR16 (by kernel_rfl) (by kernel_rfl) lR16_12
def qR16_13 : Oper := { dst := some 68, op := Op.load 3 (Operand.tmp 67), type := 3, pos := "l09_memory.go:73", after := #[{ on := 12, ground := Ground.data }, { on := 8, ground := Ground.guard }], guard := some (8, false) }
theorem hR16_13 : opsR16[13]? = some qR16_13 := by kernel_rfl
theorem lR16_13 : (LR16 13).setIfInBounds 13 true = LR16 14 := by kernel_rfl
theorem tR16_13 : RegT Try.prog opsR16 qR16_13 (some 68) 14 (LR16 13) (LR16 14) := regT hR16_13 rfl noselR16 (by kernel_rfl) (by kernel_rfl) lR16_13
def qR16_14 : Oper := { dst := some 69, op := Op.fieldAddr 38 (Operand.tmp 5) 1, type := 0, pos := "l09_memory.go:73", after := #[{ on := 8, ground := Ground.guard }], guard := some (8, false) }
theorem hR16_14 : opsR16[14]? = some qR16_14 := by kernel_rfl
theorem lR16_14 : (LR16 14).setIfInBounds 14 true = LR16 15 := by kernel_rfl
theorem tR16_14 : RegT Try.prog opsR16 qR16_14 (some 69) 13 (LR16 14) (LR16 15) := regT hR16_14 rfl noselR16 (by kernel_rfl) (by kernel_rfl) lR16_14
def qR16_15 : Oper := { dst := some 70, op := Op.load 3 (Operand.tmp 69), type := 3, pos := "l09_memory.go:73", after := #[{ on := 14, ground := Ground.data }, { on := 8, ground := Ground.guard }], guard := some (8, false) }
theorem hR16_15 : opsR16[15]? = some qR16_15 := by kernel_rfl
theorem lR16_15 : (LR16 15).setIfInBounds 15 true = LR16 16 := by kernel_rfl
theorem tR16_15 : RegT Try.prog opsR16 qR16_15 (some 70) 12 (LR16 15) (LR16 16) := regT hR16_15 rfl noselR16 (by kernel_rfl) (by kernel_rfl) lR16_15
def qR16_16 : Oper := { dst := some 71, op := Op.binOp BinOp.neq 3 (Operand.tmp 68) (Operand.tmp 70) 3, type := 4, pos := "l09_memory.go:73", after := #[{ on := 13, ground := Ground.data }, { on := 15, ground := Ground.data }, { on := 8, ground := Ground.guard }], guard := some (8, false) }
theorem hR16_16 : opsR16[16]? = some qR16_16 := by kernel_rfl
theorem lR16_16 : (LR16 16).setIfInBounds 16 true = LR16 17 := by kernel_rfl
theorem tR16_16 : RegT Try.prog opsR16 qR16_16 (some 71) 11 (LR16 16) (LR16 17) := regT hR16_16 rfl noselR16 (by kernel_rfl) (by kernel_rfl) lR16_16
def qR16_17 : Oper := { dst := some 72, op := Op.pick (Operand.tmp 63) (Operand.const (Value.bool true)) (Operand.tmp 71), type := 4, pos := "l09_memory.go:73", after := #[{ on := 8, ground := Ground.data }, { on := 16, ground := Ground.data }], guard := none }
theorem hR16_17 : opsR16[17]? = some qR16_17 := by kernel_rfl
theorem lR16_17 : (LR16 17).setIfInBounds 17 true = LR16 18 := by kernel_rfl
theorem tR16_17 : RegT Try.prog opsR16 qR16_17 (some 72) 10 (LR16 17) (LR16 18) := regT hR16_17 rfl noselR16 (by kernel_rfl) (by kernel_rfl) lR16_17
def qR16_18 : Oper := { dst := some 73, op := Op.move (Operand.tmp 72), type := 4, pos := "l09_memory.go:73", after := #[{ on := 17, ground := Ground.data }, { on := 8, ground := Ground.chain }], guard := none }
theorem hR16_18 : opsR16[18]? = some qR16_18 := by kernel_rfl
theorem lR16_18 : (LR16 18).setIfInBounds 18 true = LR16 19 := by kernel_rfl
theorem tR16_18 : RegT Try.prog opsR16 qR16_18 (some 73) 9 (LR16 18) (LR16 19) := regT hR16_18 rfl noselR16 (by kernel_rfl) (by kernel_rfl) lR16_18
def qR16_19 : Oper := { dst := some 74, op := Op.move (Operand.tmp 1), type := 30, pos := "l09_memory.go:73", after := #[{ on := 18, ground := Ground.guard }], guard := some (18, false) }
theorem hR16_19 : opsR16[19]? = some qR16_19 := by kernel_rfl
theorem lR16_19 : (LR16 19).setIfInBounds 19 true = LR16 20 := by kernel_rfl
theorem tR16_19 : RegT Try.prog opsR16 qR16_19 (some 74) 8 (LR16 19) (LR16 20) := regT hR16_19 rfl noselR16 (by kernel_rfl) (by kernel_rfl) lR16_19
def qR16_20 : Oper := { dst := some 75, op := Op.move (Operand.tmp 12), type := 3, pos := "l09_memory.go:73", after := #[{ on := 18, ground := Ground.guard }], guard := some (18, false) }
theorem hR16_20 : opsR16[20]? = some qR16_20 := by kernel_rfl
theorem lR16_20 : (LR16 20).setIfInBounds 20 true = LR16 21 := by kernel_rfl
theorem tR16_20 : RegT Try.prog opsR16 qR16_20 (some 75) 7 (LR16 20) (LR16 21) := regT hR16_20 rfl noselR16 (by kernel_rfl) (by kernel_rfl) lR16_20
def qR16_21 : Oper := { dst := some 76, op := Op.indexAddr 30 (Operand.tmp 74) (Operand.tmp 75), type := 0, pos := "l09_memory.go:73", after := #[{ on := 19, ground := Ground.data }, { on := 20, ground := Ground.data }, { on := 18, ground := Ground.guard }], guard := some (18, false) }
theorem hR16_21 : opsR16[21]? = some qR16_21 := by kernel_rfl
theorem lR16_21 : (LR16 21).setIfInBounds 21 true = LR16 22 := by kernel_rfl
theorem tR16_21 : RegT Try.prog opsR16 qR16_21 (some 76) 6 (LR16 21) (LR16 22) := regT hR16_21 rfl noselR16 (by kernel_rfl) (by kernel_rfl) lR16_21
def qR16_22 : Oper := { dst := some 77, op := Op.fieldAddr 38 (Operand.tmp 76) 2, type := 0, pos := "l09_memory.go:73", after := #[{ on := 21, ground := Ground.data }, { on := 18, ground := Ground.guard }], guard := some (18, false) }
theorem hR16_22 : opsR16[22]? = some qR16_22 := by kernel_rfl
theorem lR16_22 : (LR16 22).setIfInBounds 22 true = LR16 23 := by kernel_rfl
theorem tR16_22 : RegT Try.prog opsR16 qR16_22 (some 77) 5 (LR16 22) (LR16 23) := regT hR16_22 rfl noselR16 (by kernel_rfl) (by kernel_rfl) lR16_22
def qR16_23 : Oper := { dst := some 78, op := Op.load 3 (Operand.tmp 77), type := 3, pos := "l09_memory.go:73", after := #[{ on := 22, ground := Ground.data }, { on := 18, ground := Ground.guard }], guard := some (18, false) }
theorem hR16_23 : opsR16[23]? = some qR16_23 := by kernel_rfl
theorem lR16_23 : (LR16 23).setIfInBounds 23 true = LR16 24 := by kernel_rfl
theorem tR16_23 : RegT Try.prog opsR16 qR16_23 (some 78) 4 (LR16 23) (LR16 24) := regT hR16_23 rfl noselR16 (by kernel_rfl) (by kernel_rfl) lR16_23
def qR16_24 : Oper := { dst := some 79, op := Op.fieldAddr 38 (Operand.tmp 5) 2, type := 0, pos := "l09_memory.go:73", after := #[{ on := 18, ground := Ground.guard }], guard := some (18, false) }
theorem hR16_24 : opsR16[24]? = some qR16_24 := by kernel_rfl
theorem lR16_24 : (LR16 24).setIfInBounds 24 true = LR16 25 := by kernel_rfl
theorem tR16_24 : RegT Try.prog opsR16 qR16_24 (some 79) 3 (LR16 24) (LR16 25) := regT hR16_24 rfl noselR16 (by kernel_rfl) (by kernel_rfl) lR16_24
def qR16_25 : Oper := { dst := some 80, op := Op.load 3 (Operand.tmp 79), type := 3, pos := "l09_memory.go:73", after := #[{ on := 24, ground := Ground.data }, { on := 18, ground := Ground.guard }], guard := some (18, false) }
theorem hR16_25 : opsR16[25]? = some qR16_25 := by kernel_rfl
theorem lR16_25 : (LR16 25).setIfInBounds 25 true = LR16 26 := by kernel_rfl
theorem tR16_25 : RegT Try.prog opsR16 qR16_25 (some 80) 2 (LR16 25) (LR16 26) := regT hR16_25 rfl noselR16 (by kernel_rfl) (by kernel_rfl) lR16_25
def qR16_26 : Oper := { dst := some 81, op := Op.binOp BinOp.neq 3 (Operand.tmp 78) (Operand.tmp 80) 3, type := 4, pos := "l09_memory.go:73", after := #[{ on := 23, ground := Ground.data }, { on := 25, ground := Ground.data }, { on := 18, ground := Ground.guard }], guard := some (18, false) }
theorem hR16_26 : opsR16[26]? = some qR16_26 := by kernel_rfl
theorem lR16_26 : (LR16 26).setIfInBounds 26 true = LR16 27 := by kernel_rfl
theorem tR16_26 : RegT Try.prog opsR16 qR16_26 (some 81) 1 (LR16 26) (LR16 27) := regT hR16_26 rfl noselR16 (by kernel_rfl) (by kernel_rfl) lR16_26
def qR16_27 : Oper := { dst := some 82, op := Op.pick (Operand.tmp 73) (Operand.const (Value.bool true)) (Operand.tmp 81), type := 4, pos := "l09_memory.go:73", after := #[{ on := 18, ground := Ground.data }, { on := 26, ground := Ground.data }], guard := none }
theorem hR16_27 : opsR16[27]? = some qR16_27 := by kernel_rfl
theorem lR16_27 : (LR16 27).setIfInBounds 27 true = LR16 28 := by kernel_rfl
theorem tR16_27 : RegT Try.prog opsR16 qR16_27 (some 82) 0 (LR16 27) (LR16 28) := regT hR16_27 rfl noselR16 (by kernel_rfl) (by kernel_rfl) lR16_27
end Go.Proofs.Ytbbagpnjjjohpaa.hexes

