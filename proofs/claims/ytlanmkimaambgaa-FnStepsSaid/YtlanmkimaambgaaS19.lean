/-
  A statement of impl.process: its operations, and a theorem a step.
-/
import Derived.Test.YtlanmkimaambgaaS11

namespace Go.Proofs.Ytlanmkimaambgaa.hexes
open Go.RowKit

def findPR6 (n : Nat) : Code → Option Code
  | .region id ops d => if id = n then some (.region id ops d) else none
  | .seq a b => match findPR6 n a with
    | some c => some c
    | none => findPR6 n b
  | .block _ c => findPR6 n c
  | .scope c => findPR6 n c
  | .loop c => findPR6 n c
  | .cond _ a b => match findPR6 n a with
    | some c => some c
    | none => findPR6 n b
  | _ => none
def opsOfPR6 : Option Code → Array Oper
  | some (.region _ ops _) => ops
  | _ => #[]
noncomputable def opsPR6 : Array Oper := opsOfPR6 (Try.f40.body.bind (findPR6 6))
def schPR6 : List Nat := [0, 1, 2, 3, 4, 5, 6, 7, 8, 9, 10]
def LPR6 (k : Nat) : Array Bool := ((List.range 11).map fun i => (schPR6.take k).contains i).toArray
theorem noselPR6 : Region.noSelect opsPR6 = true := by kernel_rfl
def qPR6_0 : Oper := { dst := some 32, op := Op.fieldAddr 111 (Operand.tmp 12) 0, type := 0, pos := "l10_steps.go:50", after := #[], guard := none }
theorem hPR6_0 : opsPR6[0]? = some qPR6_0 := by kernel_rfl
theorem lPR6_0 : (LPR6 0).setIfInBounds 0 true = LPR6 1 := by kernel_rfl
theorem tPR6_0 : RegT Try.prog opsPR6 qPR6_0 (some 32) 10 (LPR6 0) (LPR6 1) := regT hPR6_0 rfl noselPR6 (by kernel_rfl) (by kernel_rfl) lPR6_0
def qPR6_1 : Oper := { dst := some 33, op := Op.load 3 (Operand.tmp 32), type := 3, pos := "l10_steps.go:50", after := #[{ on := 0, ground := Ground.data }], guard := none }
theorem hPR6_1 : opsPR6[1]? = some qPR6_1 := by kernel_rfl
theorem lPR6_1 : (LPR6 1).setIfInBounds 1 true = LPR6 2 := by kernel_rfl
theorem tPR6_1 : RegT Try.prog opsPR6 qPR6_1 (some 33) 9 (LPR6 1) (LPR6 2) := regT hPR6_1 rfl noselPR6 (by kernel_rfl) (by kernel_rfl) lPR6_1
def qPR6_2 : Oper := { dst := some 34, op := Op.move (Operand.tmp 1), type := 27, pos := "l10_steps.go:50", after := #[], guard := none }
theorem hPR6_2 : opsPR6[2]? = some qPR6_2 := by kernel_rfl
theorem lPR6_2 : (LPR6 2).setIfInBounds 2 true = LPR6 3 := by kernel_rfl
theorem tPR6_2 : RegT Try.prog opsPR6 qPR6_2 (some 34) 8 (LPR6 2) (LPR6 3) := regT hPR6_2 rfl noselPR6 (by kernel_rfl) (by kernel_rfl) lPR6_2
def qPR6_3 : Oper := { dst := some 35, op := Op.load 31 (Operand.tmp 5), type := 31, pos := "l10_steps.go:50", after := #[], guard := none }
theorem hPR6_3 : opsPR6[3]? = some qPR6_3 := by kernel_rfl
theorem lPR6_3 : (LPR6 3).setIfInBounds 3 true = LPR6 4 := by kernel_rfl
theorem tPR6_3 : RegT Try.prog opsPR6 qPR6_3 (some 35) 7 (LPR6 3) (LPR6 4) := regT hPR6_3 rfl noselPR6 (by kernel_rfl) (by kernel_rfl) lPR6_3
def qPR6_4 : Oper := { dst := some 36, op := Op.call { callee := Callee.value (Operand.func 72), args := #[Operand.tmp 35], argTypes := #[31] }, type := 75, pos := "l10_steps.go:50", after := #[{ on := 3, ground := Ground.data }], guard := none }
theorem hPR6_4 : opsPR6[4]? = some qPR6_4 := by kernel_rfl
theorem lPR6_4 : (LPR6 4).setIfInBounds 4 true = LPR6 5 := by kernel_rfl
theorem cPR6_4 : RegC Try.prog opsPR6 qPR6_4 (some 36) 6 (LPR6 4) (LPR6 5) := regC hPR6_4 rfl (by kernel_rfl) lPR6_4
def qPR6_5 : Oper := { dst := some 37, op := Op.call { callee := Callee.value (Operand.func 71), args := #[Operand.tmp 33, Operand.tmp 34, Operand.tmp 36], argTypes := #[3, 27, 75] }, type := 85, pos := "l10_steps.go:50", after := #[{ on := 1, ground := Ground.data }, { on := 2, ground := Ground.data }, { on := 4, ground := Ground.data }, { on := 4, ground := Ground.chain }], guard := none }
theorem hPR6_5 : opsPR6[5]? = some qPR6_5 := by kernel_rfl
theorem lPR6_5 : (LPR6 5).setIfInBounds 5 true = LPR6 6 := by kernel_rfl
theorem cPR6_5 : RegC Try.prog opsPR6 qPR6_5 (some 37) 5 (LPR6 5) (LPR6 6) := regC hPR6_5 rfl (by kernel_rfl) lPR6_5
def qPR6_6 : Oper := { dst := some 31, op := Op.move (Operand.tmp 37), type := 85, pos := "l10_steps.go:50", after := #[{ on := 5, ground := Ground.data }], guard := none }
theorem hPR6_6 : opsPR6[6]? = some qPR6_6 := by kernel_rfl
theorem lPR6_6 : (LPR6 6).setIfInBounds 6 true = LPR6 7 := by kernel_rfl
theorem tPR6_6 : RegT Try.prog opsPR6 qPR6_6 (some 31) 4 (LPR6 6) (LPR6 7) := regT hPR6_6 rfl noselPR6 (by kernel_rfl) (by kernel_rfl) lPR6_6
def qPR6_7 : Oper := { dst := some 38, op := Op.extract (Operand.tmp 31) 0, type := 27, pos := "l10_steps.go:50", after := #[{ on := 6, ground := Ground.data }], guard := none }
theorem hPR6_7 : opsPR6[7]? = some qPR6_7 := by kernel_rfl
theorem lPR6_7 : (LPR6 7).setIfInBounds 7 true = LPR6 8 := by kernel_rfl
theorem tPR6_7 : RegT Try.prog opsPR6 qPR6_7 (some 38) 3 (LPR6 7) (LPR6 8) := regT hPR6_7 rfl noselPR6 (by kernel_rfl) (by kernel_rfl) lPR6_7
def qPR6_8 : Oper := { dst := some 39, op := Op.extract (Operand.tmp 31) 1, type := 4, pos := "l10_steps.go:50", after := #[{ on := 6, ground := Ground.data }, { on := 9, ground := Ground.gcOnly Departure.lateStores }], guard := none }
theorem hPR6_8 : opsPR6[8]? = some qPR6_8 := by kernel_rfl
theorem lPR6_8 : (LPR6 8).setIfInBounds 8 true = LPR6 9 := by kernel_rfl
theorem tPR6_8 : RegT Try.prog opsPR6 qPR6_8 (some 39) 2 (LPR6 8) (LPR6 9) := regT hPR6_8 rfl noselPR6 (by kernel_rfl) (by kernel_rfl) lPR6_8
def qPR6_9 : Oper := { dst := some 1, op := Op.assign (Operand.tmp 38), type := 27, pos := "l10_steps.go:50", after := #[{ on := 7, ground := Ground.data }, { on := 5, ground := Ground.chain }, { on := 0, ground := Ground.phase }, { on := 1, ground := Ground.phase }, { on := 2, ground := Ground.phase }, { on := 3, ground := Ground.phase }, { on := 4, ground := Ground.phase }, { on := 5, ground := Ground.phase }, { on := 6, ground := Ground.phase }, { on := 7, ground := Ground.phase }, { on := 8, ground := Ground.textOnly Departure.lateStores }], guard := none }
theorem hPR6_9 : opsPR6[9]? = some qPR6_9 := by kernel_rfl
theorem lPR6_9 : (LPR6 9).setIfInBounds 9 true = LPR6 10 := by kernel_rfl
theorem tPR6_9 : RegT Try.prog opsPR6 qPR6_9 (some 1) 1 (LPR6 9) (LPR6 10) := regT hPR6_9 rfl noselPR6 (by kernel_rfl) (by kernel_rfl) lPR6_9
def qPR6_10 : Oper := { dst := some 10, op := Op.assign (Operand.tmp 39), type := 4, pos := "l10_steps.go:50", after := #[{ on := 8, ground := Ground.data }, { on := 9, ground := Ground.chain }, { on := 0, ground := Ground.phase }, { on := 1, ground := Ground.phase }, { on := 2, ground := Ground.phase }, { on := 3, ground := Ground.phase }, { on := 4, ground := Ground.phase }, { on := 5, ground := Ground.phase }, { on := 6, ground := Ground.phase }, { on := 7, ground := Ground.phase }, { on := 8, ground := Ground.phase }, { on := 9, ground := Ground.phase }], guard := none }
theorem hPR6_10 : opsPR6[10]? = some qPR6_10 := by kernel_rfl
theorem lPR6_10 : (LPR6 10).setIfInBounds 10 true = LPR6 11 := by kernel_rfl
theorem tPR6_10 : RegT Try.prog opsPR6 qPR6_10 (some 10) 0 (LPR6 10) (LPR6 11) := regT hPR6_10 rfl noselPR6 (by kernel_rfl) (by kernel_rfl) lPR6_10
end Go.Proofs.Ytlanmkimaambgaa.hexes

