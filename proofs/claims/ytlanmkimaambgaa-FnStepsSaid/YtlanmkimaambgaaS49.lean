/-
  A statement of spec.DrawStepAll: its operations, and a theorem a step.
-/
import Derived.Test.YtlanmkimaambgaaS11

namespace Go.Proofs.Ytlanmkimaambgaa.hexes
open Go.RowKit

def findD9 (n : Nat) : Code → Option Code
  | .region id ops d => if id = n then some (.region id ops d) else none
  | .seq a b => match findD9 n a with
    | some c => some c
    | none => findD9 n b
  | .block _ c => findD9 n c
  | .scope c => findD9 n c
  | .loop c => findD9 n c
  | .cond _ a b => match findD9 n a with
    | some c => some c
    | none => findD9 n b
  | _ => none
def opsOfD9 : Option Code → Array Oper
  | some (.region _ ops _) => ops
  | _ => #[]
noncomputable def opsD9 : Array Oper := opsOfD9 (Try.f15.body.bind (findD9 8))
theorem noselD9 : Region.noSelect opsD9 = true := by kernel_rfl
def qD9_0 : Oper := { dst := some 27, op := Op.load 26 (Operand.tmp 7), type := 26, pos := "l10_steps.go:103", after := #[], guard := none }
theorem hD9_0 : opsD9[0]? = some qD9_0 := by kernel_rfl
def qD9_1 : Oper := { dst := some 28, op := Op.move (Operand.tmp 6), type := 66, pos := "l10_steps.go:103", after := #[], guard := none }
theorem hD9_1 : opsD9[1]? = some qD9_1 := by kernel_rfl
def qD9_2 : Oper := { dst := some 29, op := Op.load 26 (Operand.tmp 7), type := 26, pos := "l10_steps.go:103", after := #[], guard := none }
theorem hD9_2 : opsD9[2]? = some qD9_2 := by kernel_rfl
def qD9_3 : Oper := { dst := some 30, op := Op.call { callee := Callee.value (Operand.func 35), args := #[Operand.tmp 28, Operand.tmp 29], argTypes := #[66, 26] }, type := 27, pos := "l10_steps.go:103", after := #[{ on := 1, ground := Ground.data }, { on := 2, ground := Ground.data }], guard := none }
theorem hD9_3 : opsD9[3]? = some qD9_3 := by kernel_rfl
def qD9_4 : Oper := { dst := some 31, op := Op.move (Operand.tmp 8), type := 34, pos := "l10_steps.go:103", after := #[{ on := 9, ground := Ground.gcOnly Departure.lateStores }], guard := none }
theorem hD9_4 : opsD9[4]? = some qD9_4 := by kernel_rfl
def qD9_5 : Oper := { dst := some 32, op := Op.move (Operand.tmp 6), type := 66, pos := "l10_steps.go:103", after := #[], guard := none }
theorem hD9_5 : opsD9[5]? = some qD9_5 := by kernel_rfl
def qD9_6 : Oper := { dst := some 33, op := Op.buildSlice 40 6 #[(0, Operand.const (Value.int IntKind.i64 300)), (1, Operand.const (Value.int IntKind.i64 300)), (2, Operand.const (Value.int IntKind.i64 10)), (3, Operand.const (Value.int IntKind.i64 1)), (4, Operand.const (Value.int IntKind.i64 0)), (5, Operand.const (Value.int IntKind.i64 (-1)))], type := 40, pos := "l10_steps.go:103", after := #[], guard := none }
theorem hD9_6 : opsD9[6]? = some qD9_6 := by kernel_rfl
def qD9_7 : Oper := { dst := some 34, op := Op.call { callee := Callee.value (Operand.func 52), args := #[Operand.tmp 32, Operand.tmp 33], argTypes := #[66, 40] }, type := 3, pos := "l10_steps.go:103", after := #[{ on := 5, ground := Ground.data }, { on := 6, ground := Ground.data }, { on := 3, ground := Ground.chain }], guard := none }
theorem hD9_7 : opsD9[7]? = some qD9_7 := by kernel_rfl
def qD9_8 : Oper := { dst := none, op := Op.store 26 (Operand.tmp 2) (Operand.tmp 27), type := 0, pos := "l10_steps.go:103", after := #[{ on := 0, ground := Ground.data }, { on := 7, ground := Ground.chain }, { on := 0, ground := Ground.phase }, { on := 1, ground := Ground.textOnly Departure.lateStores }, { on := 2, ground := Ground.textOnly Departure.lateStores }, { on := 3, ground := Ground.textOnly Departure.lateStoresUnsure }, { on := 4, ground := Ground.textOnly Departure.lateStores }, { on := 5, ground := Ground.textOnly Departure.lateStores }, { on := 6, ground := Ground.textOnly Departure.lateStores }, { on := 7, ground := Ground.textOnly Departure.lateStoresUnsure }], guard := none }
theorem hD9_8 : opsD9[8]? = some qD9_8 := by kernel_rfl
def qD9_9 : Oper := { dst := some 3, op := Op.assign (Operand.tmp 30), type := 27, pos := "l10_steps.go:103", after := #[{ on := 3, ground := Ground.data }, { on := 8, ground := Ground.chain }, { on := 0, ground := Ground.phase }, { on := 1, ground := Ground.phase }, { on := 2, ground := Ground.phase }, { on := 3, ground := Ground.phase }, { on := 4, ground := Ground.textOnly Departure.lateStores }, { on := 5, ground := Ground.textOnly Departure.lateStores }, { on := 6, ground := Ground.textOnly Departure.lateStores }, { on := 7, ground := Ground.textOnly Departure.lateStoresUnsure }, { on := 8, ground := Ground.phase }], guard := none }
theorem hD9_9 : opsD9[9]? = some qD9_9 := by kernel_rfl
def qD9_10 : Oper := { dst := some 4, op := Op.assign (Operand.tmp 31), type := 34, pos := "l10_steps.go:103", after := #[{ on := 4, ground := Ground.data }, { on := 9, ground := Ground.chain }, { on := 0, ground := Ground.phase }, { on := 1, ground := Ground.phase }, { on := 2, ground := Ground.phase }, { on := 3, ground := Ground.phase }, { on := 4, ground := Ground.phase }, { on := 5, ground := Ground.textOnly Departure.lateStores }, { on := 6, ground := Ground.textOnly Departure.lateStores }, { on := 7, ground := Ground.textOnly Departure.lateStoresUnsure }, { on := 8, ground := Ground.phase }, { on := 9, ground := Ground.phase }], guard := none }
theorem hD9_10 : opsD9[10]? = some qD9_10 := by kernel_rfl
def qD9_11 : Oper := { dst := some 5, op := Op.assign (Operand.tmp 34), type := 3, pos := "l10_steps.go:103", after := #[{ on := 7, ground := Ground.data }, { on := 10, ground := Ground.chain }, { on := 0, ground := Ground.phase }, { on := 1, ground := Ground.phase }, { on := 2, ground := Ground.phase }, { on := 3, ground := Ground.phase }, { on := 4, ground := Ground.phase }, { on := 5, ground := Ground.phase }, { on := 6, ground := Ground.phase }, { on := 7, ground := Ground.phase }, { on := 8, ground := Ground.phase }, { on := 9, ground := Ground.phase }, { on := 10, ground := Ground.phase }], guard := none }
theorem hD9_11 : opsD9[11]? = some qD9_11 := by kernel_rfl
theorem tD9_e_0 : RegT Try.prog opsD9 qD9_0 (some 27) 11 (#[false, false, false, false, false, false, false, false, false, false, false, false] : Array Bool) (#[true, false, false, false, false, false, false, false, false, false, false, false] : Array Bool) := regT hD9_0 rfl noselD9 (by kernel_rfl) (by kernel_rfl) (by kernel_rfl)
theorem tD9_0_1 : RegT Try.prog opsD9 qD9_1 (some 28) 10 (#[true, false, false, false, false, false, false, false, false, false, false, false] : Array Bool) (#[true, true, false, false, false, false, false, false, false, false, false, false] : Array Bool) := regT hD9_1 rfl noselD9 (by kernel_rfl) (by kernel_rfl) (by kernel_rfl)
theorem tD9_01_2 : RegT Try.prog opsD9 qD9_2 (some 29) 9 (#[true, true, false, false, false, false, false, false, false, false, false, false] : Array Bool) (#[true, true, true, false, false, false, false, false, false, false, false, false] : Array Bool) := regT hD9_2 rfl noselD9 (by kernel_rfl) (by kernel_rfl) (by kernel_rfl)
theorem tD9_012_4 : RegT Try.prog opsD9 qD9_4 (some 31) 8 (#[true, true, true, false, false, false, false, false, false, false, false, false] : Array Bool) (#[true, true, true, false, true, false, false, false, false, false, false, false] : Array Bool) := regT hD9_4 rfl noselD9 (by kernel_rfl) (by kernel_rfl) (by kernel_rfl)
theorem tD9_0124_5 : RegT Try.prog opsD9 qD9_5 (some 32) 7 (#[true, true, true, false, true, false, false, false, false, false, false, false] : Array Bool) (#[true, true, true, false, true, true, false, false, false, false, false, false] : Array Bool) := regT hD9_5 rfl noselD9 (by kernel_rfl) (by kernel_rfl) (by kernel_rfl)
theorem tD9_012345678_9 : RegT Try.prog opsD9 qD9_9 (some 3) 2 (#[true, true, true, true, true, true, true, true, true, false, false, false] : Array Bool) (#[true, true, true, true, true, true, true, true, true, true, false, false] : Array Bool) := regT hD9_9 rfl noselD9 (by kernel_rfl) (by kernel_rfl) (by kernel_rfl)
theorem tD9_0123456789_10 : RegT Try.prog opsD9 qD9_10 (some 4) 1 (#[true, true, true, true, true, true, true, true, true, true, false, false] : Array Bool) (#[true, true, true, true, true, true, true, true, true, true, true, false] : Array Bool) := regT hD9_10 rfl noselD9 (by kernel_rfl) (by kernel_rfl) (by kernel_rfl)
theorem tD9_0123456789_10_11 : RegT Try.prog opsD9 qD9_11 (some 5) 0 (#[true, true, true, true, true, true, true, true, true, true, true, false] : Array Bool) (#[true, true, true, true, true, true, true, true, true, true, true, true] : Array Bool) := regT hD9_11 rfl noselD9 (by kernel_rfl) (by kernel_rfl) (by kernel_rfl)
theorem cD9_01234567_8 : RegC Try.prog opsD9 qD9_8 (none) 3 (#[true, true, true, true, true, true, true, true, false, false, false, false] : Array Bool) (#[true, true, true, true, true, true, true, true, true, false, false, false] : Array Bool) := regC hD9_8 rfl (by kernel_rfl) (by kernel_rfl)
theorem cD9_0123456_7 : RegC Try.prog opsD9 qD9_7 (some 34) 4 (#[true, true, true, true, true, true, true, false, false, false, false, false] : Array Bool) (#[true, true, true, true, true, true, true, true, false, false, false, false] : Array Bool) := regC hD9_7 rfl (by kernel_rfl) (by kernel_rfl)
theorem cD9_012345_6 : RegC Try.prog opsD9 qD9_6 (some 33) 5 (#[true, true, true, true, true, true, false, false, false, false, false, false] : Array Bool) (#[true, true, true, true, true, true, true, false, false, false, false, false] : Array Bool) := regC hD9_6 rfl (by kernel_rfl) (by kernel_rfl)
theorem cD9_012456_3 : RegC Try.prog opsD9 qD9_3 (some 30) 5 (#[true, true, true, false, true, true, true, false, false, false, false, false] : Array Bool) (#[true, true, true, true, true, true, true, false, false, false, false, false] : Array Bool) := regC hD9_3 rfl (by kernel_rfl) (by kernel_rfl)
set_option maxRecDepth 100000 in
theorem cD9_01245_36 {Q : Exit → Act → World → Prop} {S : World → Prop} {a : Act} {w : World}
    (h3 : ∀ K' : Act → World → Prop, Shut (∀ a w, S w → (S w → wpAnyH Try.prog .any opsD9 Q S 6 (#[true, true, true, true, true, true, false, false, false, false, false, false] : Array Bool) a w) → K' a w) → if Region.wanted qD9_3 (yielded opsD9 a.tmps) = true then Oper.wp Try.prog qD9_3 a w K' Q else K' (a.put (some 30) undef) w)
    (h6 : ∀ K' : Act → World → Prop, Shut (∀ a w, S w → (S w → wpAnyH Try.prog .any opsD9 Q S 6 (#[true, true, true, false, true, true, true, false, false, false, false, false] : Array Bool) a w) → K' a w) → if Region.wanted qD9_6 (yielded opsD9 a.tmps) = true then Oper.wp Try.prog qD9_6 a w K' Q else K' (a.put (some 33) undef) w) :
    wpAnyH Try.prog .any opsD9 Q S 7 (#[true, true, true, false, true, true, false, false, false, false, false, false] : Array Bool) a w :=
  wpAnyH_ready (rs := [3, 6]) (by kernel_rfl) (by simp) (AllReadyH.cons hD9_3 (fun K' hK => h3 K' ((show (#[true, true, true, false, true, true, false, false, false, false, false, false] : Array Bool).setIfInBounds 3 true = (#[true, true, true, true, true, true, false, false, false, false, false, false] : Array Bool) by kernel_rfl) ▸ hK)) (AllReadyH.cons hD9_6 (fun K' hK => h6 K' ((show (#[true, true, true, false, true, true, false, false, false, false, false, false] : Array Bool).setIfInBounds 6 true = (#[true, true, true, false, true, true, true, false, false, false, false, false] : Array Bool) by kernel_rfl) ▸ hK)) AllReadyH.nil))
end Go.Proofs.Ytlanmkimaambgaa.hexes

