/-
  A statement of impl.StepAll: its operations, and a theorem a step.
-/
import Derived.Test.YtlanmkimaambgaaGreatProg
import Derived.WalkKit
import Derived.Deep.RegionHeld3
namespace Go.Proofs.YtlanmkimaambgaaGreat.hexes
open Go.RowKit

def findIA6 (n : Nat) : Code → Option Code
  | .region id ops d => if id = n then some (.region id ops d) else none
  | .seq a b => match findIA6 n a with
    | some c => some c
    | none => findIA6 n b
  | .block _ c => findIA6 n c
  | .scope c => findIA6 n c
  | .loop c => findIA6 n c
  | .cond _ a b => match findIA6 n a with
    | some c => some c
    | none => findIA6 n b
  | _ => none
def opsOfIA6 : Option Code → Array Oper
  | some (.region _ ops _) => ops
  | _ => #[]
noncomputable def opsIA6 : Array Oper := opsOfIA6 (Tryz.f11.body.bind (findIA6 6))
def schIA6 : List Nat := [0, 1, 2, 3, 4, 5, 6, 7, 8, 9, 10, 11]
def LIA6 (k : Nat) : Array Bool := ((List.range 12).map fun i => (schIA6.take k).contains i).toArray
theorem noselIA6 : Region.noSelect opsIA6 = true := by kernel_rfl
def qIA6_0 : Oper := { dst := some 31, op := Op.load 36 (Operand.tmp 4), type := 36, pos := "l10_steps.go:90", after := #[], guard := none }
theorem hIA6_0 : opsIA6[0]? = some qIA6_0 := by kernel_rfl
def qIA6_1 : Oper := { dst := some 32, op := Op.move (Operand.tmp 11), type := 30, pos := "l10_steps.go:90", after := #[], guard := none }
theorem hIA6_1 : opsIA6[1]? = some qIA6_1 := by kernel_rfl
def qIA6_2 : Oper := { dst := some 33, op := Op.move (Operand.tmp 12), type := 31, pos := "l10_steps.go:90", after := #[], guard := none }
theorem hIA6_2 : opsIA6[2]? = some qIA6_2 := by kernel_rfl
def qIA6_3 : Oper := { dst := some 34, op := Op.indexAddr 31 (Operand.tmp 33) (Operand.const (Value.int IntKind.i64 0)), type := 0, pos := "l10_steps.go:90", after := #[{ on := 2, ground := Ground.data }], guard := none }
theorem hIA6_3 : opsIA6[3]? = some qIA6_3 := by kernel_rfl
def qIA6_4 : Oper := { dst := some 35, op := Op.load 54 (Operand.tmp 34), type := 54, pos := "l10_steps.go:90", after := #[{ on := 3, ground := Ground.data }], guard := none }
theorem hIA6_4 : opsIA6[4]? = some qIA6_4 := by kernel_rfl
def qIA6_5 : Oper := { dst := some 36, op := Op.call { callee := Callee.value (Operand.func 29), args := #[Operand.tmp 31, Operand.tmp 32, Operand.tmp 35], argTypes := #[36, 30, 54] }, type := 49, pos := "l10_steps.go:90", after := #[{ on := 0, ground := Ground.data }, { on := 1, ground := Ground.data }, { on := 4, ground := Ground.data }], guard := none }
theorem hIA6_5 : opsIA6[5]? = some qIA6_5 := by kernel_rfl
def qIA6_6 : Oper := { dst := some 30, op := Op.move (Operand.tmp 36), type := 49, pos := "l10_steps.go:90", after := #[{ on := 5, ground := Ground.data }], guard := none }
theorem hIA6_6 : opsIA6[6]? = some qIA6_6 := by kernel_rfl
def qIA6_7 : Oper := { dst := some 37, op := Op.extract (Operand.tmp 30) 0, type := 30, pos := "l10_steps.go:90", after := #[{ on := 6, ground := Ground.data }], guard := none }
theorem hIA6_7 : opsIA6[7]? = some qIA6_7 := by kernel_rfl
def qIA6_8 : Oper := { dst := some 38, op := Op.extract (Operand.tmp 30) 1, type := 31, pos := "l10_steps.go:90", after := #[{ on := 6, ground := Ground.data }, { on := 10, ground := Ground.gcOnly Departure.lateStores }], guard := none }
theorem hIA6_8 : opsIA6[8]? = some qIA6_8 := by kernel_rfl
def qIA6_9 : Oper := { dst := some 39, op := Op.extract (Operand.tmp 30) 2, type := 4, pos := "l10_steps.go:90", after := #[{ on := 6, ground := Ground.data }, { on := 11, ground := Ground.gcOnly Departure.lateStores }], guard := none }
theorem hIA6_9 : opsIA6[9]? = some qIA6_9 := by kernel_rfl
def qIA6_10 : Oper := { dst := some 11, op := Op.assign (Operand.tmp 37), type := 30, pos := "l10_steps.go:90", after := #[{ on := 7, ground := Ground.data }, { on := 5, ground := Ground.chain }, { on := 0, ground := Ground.phase }, { on := 1, ground := Ground.phase }, { on := 2, ground := Ground.phase }, { on := 3, ground := Ground.phase }, { on := 4, ground := Ground.phase }, { on := 5, ground := Ground.phase }, { on := 6, ground := Ground.phase }, { on := 7, ground := Ground.phase }, { on := 8, ground := Ground.textOnly Departure.lateStores }, { on := 9, ground := Ground.textOnly Departure.lateStores }], guard := none }
theorem hIA6_10 : opsIA6[10]? = some qIA6_10 := by kernel_rfl
def qIA6_11 : Oper := { dst := some 15, op := Op.assign (Operand.tmp 38), type := 31, pos := "l10_steps.go:90", after := #[{ on := 8, ground := Ground.data }, { on := 10, ground := Ground.chain }, { on := 0, ground := Ground.phase }, { on := 1, ground := Ground.phase }, { on := 2, ground := Ground.phase }, { on := 3, ground := Ground.phase }, { on := 4, ground := Ground.phase }, { on := 5, ground := Ground.phase }, { on := 6, ground := Ground.phase }, { on := 7, ground := Ground.phase }, { on := 8, ground := Ground.phase }, { on := 9, ground := Ground.textOnly Departure.lateStores }, { on := 10, ground := Ground.phase }], guard := none }
theorem hIA6_11 : opsIA6[11]? = some qIA6_11 := by kernel_rfl
theorem tIA6_e_0 {Q : Exit → Act → World → Prop} {S : World → Prop} {a : Act} {w : World} (v : Value) (hQ : ∀ c a w, Q (.panic c) (a.put (some 31) v) w → Q (.panic c) a w) (hy : YieldsIf Tryz.prog opsIA6 S qIA6_0 v a) (hS : S w)
    (h : wpAnyH Tryz.prog .any opsIA6 Q S 11 (#[true, false, false, false, false, false, false, false, false, false, false, false] : Array Bool) (a.put (some 31) v) w) : wpAnyH Tryz.prog .any opsIA6 Q S 12 (#[false, false, false, false, false, false, false, false, false, false, false, false] : Array Bool) a w :=
  wpAnyH_take (i := 0) hIA6_0 noselIA6 (by kernel_rfl) (by kernel_rfl) hQ hy hS ((show (#[false, false, false, false, false, false, false, false, false, false, false, false] : Array Bool).setIfInBounds 0 true = (#[true, false, false, false, false, false, false, false, false, false, false, false] : Array Bool) by kernel_rfl).symm ▸ h)
theorem tIA6_0_1 {Q : Exit → Act → World → Prop} {S : World → Prop} {a : Act} {w : World} (v : Value) (hQ : ∀ c a w, Q (.panic c) (a.put (some 32) v) w → Q (.panic c) a w) (hy : YieldsIf Tryz.prog opsIA6 S qIA6_1 v a) (hS : S w)
    (h : wpAnyH Tryz.prog .any opsIA6 Q S 10 (#[true, true, false, false, false, false, false, false, false, false, false, false] : Array Bool) (a.put (some 32) v) w) : wpAnyH Tryz.prog .any opsIA6 Q S 11 (#[true, false, false, false, false, false, false, false, false, false, false, false] : Array Bool) a w :=
  wpAnyH_take (i := 1) hIA6_1 noselIA6 (by kernel_rfl) (by kernel_rfl) hQ hy hS ((show (#[true, false, false, false, false, false, false, false, false, false, false, false] : Array Bool).setIfInBounds 1 true = (#[true, true, false, false, false, false, false, false, false, false, false, false] : Array Bool) by kernel_rfl).symm ▸ h)
theorem tIA6_01_2 {Q : Exit → Act → World → Prop} {S : World → Prop} {a : Act} {w : World} (v : Value) (hQ : ∀ c a w, Q (.panic c) (a.put (some 33) v) w → Q (.panic c) a w) (hy : YieldsIf Tryz.prog opsIA6 S qIA6_2 v a) (hS : S w)
    (h : wpAnyH Tryz.prog .any opsIA6 Q S 9 (#[true, true, true, false, false, false, false, false, false, false, false, false] : Array Bool) (a.put (some 33) v) w) : wpAnyH Tryz.prog .any opsIA6 Q S 10 (#[true, true, false, false, false, false, false, false, false, false, false, false] : Array Bool) a w :=
  wpAnyH_take (i := 2) hIA6_2 noselIA6 (by kernel_rfl) (by kernel_rfl) hQ hy hS ((show (#[true, true, false, false, false, false, false, false, false, false, false, false] : Array Bool).setIfInBounds 2 true = (#[true, true, true, false, false, false, false, false, false, false, false, false] : Array Bool) by kernel_rfl).symm ▸ h)
theorem tIA6_012_3 {Q : Exit → Act → World → Prop} {S : World → Prop} {a : Act} {w : World} (v : Value) (hQ : ∀ c a w, Q (.panic c) (a.put (some 34) v) w → Q (.panic c) a w) (hy : YieldsIf Tryz.prog opsIA6 S qIA6_3 v a) (hS : S w)
    (h : wpAnyH Tryz.prog .any opsIA6 Q S 8 (#[true, true, true, true, false, false, false, false, false, false, false, false] : Array Bool) (a.put (some 34) v) w) : wpAnyH Tryz.prog .any opsIA6 Q S 9 (#[true, true, true, false, false, false, false, false, false, false, false, false] : Array Bool) a w :=
  wpAnyH_take (i := 3) hIA6_3 noselIA6 (by kernel_rfl) (by kernel_rfl) hQ hy hS ((show (#[true, true, true, false, false, false, false, false, false, false, false, false] : Array Bool).setIfInBounds 3 true = (#[true, true, true, true, false, false, false, false, false, false, false, false] : Array Bool) by kernel_rfl).symm ▸ h)
theorem tIA6_0123_4 {Q : Exit → Act → World → Prop} {S : World → Prop} {a : Act} {w : World} (v : Value) (hQ : ∀ c a w, Q (.panic c) (a.put (some 35) v) w → Q (.panic c) a w) (hy : YieldsIf Tryz.prog opsIA6 S qIA6_4 v a) (hS : S w)
    (h : wpAnyH Tryz.prog .any opsIA6 Q S 7 (#[true, true, true, true, true, false, false, false, false, false, false, false] : Array Bool) (a.put (some 35) v) w) : wpAnyH Tryz.prog .any opsIA6 Q S 8 (#[true, true, true, true, false, false, false, false, false, false, false, false] : Array Bool) a w :=
  wpAnyH_take (i := 4) hIA6_4 noselIA6 (by kernel_rfl) (by kernel_rfl) hQ hy hS ((show (#[true, true, true, true, false, false, false, false, false, false, false, false] : Array Bool).setIfInBounds 4 true = (#[true, true, true, true, true, false, false, false, false, false, false, false] : Array Bool) by kernel_rfl).symm ▸ h)
theorem tIA6_012345_6 {Q : Exit → Act → World → Prop} {S : World → Prop} {a : Act} {w : World} (v : Value) (hQ : ∀ c a w, Q (.panic c) (a.put (some 30) v) w → Q (.panic c) a w) (hy : YieldsIf Tryz.prog opsIA6 S qIA6_6 v a) (hS : S w)
    (h : wpAnyH Tryz.prog .any opsIA6 Q S 5 (#[true, true, true, true, true, true, true, false, false, false, false, false] : Array Bool) (a.put (some 30) v) w) : wpAnyH Tryz.prog .any opsIA6 Q S 6 (#[true, true, true, true, true, true, false, false, false, false, false, false] : Array Bool) a w :=
  wpAnyH_take (i := 6) hIA6_6 noselIA6 (by kernel_rfl) (by kernel_rfl) hQ hy hS ((show (#[true, true, true, true, true, true, false, false, false, false, false, false] : Array Bool).setIfInBounds 6 true = (#[true, true, true, true, true, true, true, false, false, false, false, false] : Array Bool) by kernel_rfl).symm ▸ h)
theorem tIA6_0123456_7 {Q : Exit → Act → World → Prop} {S : World → Prop} {a : Act} {w : World} (v : Value) (hQ : ∀ c a w, Q (.panic c) (a.put (some 37) v) w → Q (.panic c) a w) (hy : YieldsIf Tryz.prog opsIA6 S qIA6_7 v a) (hS : S w)
    (h : wpAnyH Tryz.prog .any opsIA6 Q S 4 (#[true, true, true, true, true, true, true, true, false, false, false, false] : Array Bool) (a.put (some 37) v) w) : wpAnyH Tryz.prog .any opsIA6 Q S 5 (#[true, true, true, true, true, true, true, false, false, false, false, false] : Array Bool) a w :=
  wpAnyH_take (i := 7) hIA6_7 noselIA6 (by kernel_rfl) (by kernel_rfl) hQ hy hS ((show (#[true, true, true, true, true, true, true, false, false, false, false, false] : Array Bool).setIfInBounds 7 true = (#[true, true, true, true, true, true, true, true, false, false, false, false] : Array Bool) by kernel_rfl).symm ▸ h)
theorem tIA6_01234567_8 {Q : Exit → Act → World → Prop} {S : World → Prop} {a : Act} {w : World} (v : Value) (hQ : ∀ c a w, Q (.panic c) (a.put (some 38) v) w → Q (.panic c) a w) (hy : YieldsIf Tryz.prog opsIA6 S qIA6_8 v a) (hS : S w)
    (h : wpAnyH Tryz.prog .any opsIA6 Q S 3 (#[true, true, true, true, true, true, true, true, true, false, false, false] : Array Bool) (a.put (some 38) v) w) : wpAnyH Tryz.prog .any opsIA6 Q S 4 (#[true, true, true, true, true, true, true, true, false, false, false, false] : Array Bool) a w :=
  wpAnyH_take (i := 8) hIA6_8 noselIA6 (by kernel_rfl) (by kernel_rfl) hQ hy hS ((show (#[true, true, true, true, true, true, true, true, false, false, false, false] : Array Bool).setIfInBounds 8 true = (#[true, true, true, true, true, true, true, true, true, false, false, false] : Array Bool) by kernel_rfl).symm ▸ h)
theorem tIA6_012345678_9 {Q : Exit → Act → World → Prop} {S : World → Prop} {a : Act} {w : World} (v : Value) (hQ : ∀ c a w, Q (.panic c) (a.put (some 39) v) w → Q (.panic c) a w) (hy : YieldsIf Tryz.prog opsIA6 S qIA6_9 v a) (hS : S w)
    (h : wpAnyH Tryz.prog .any opsIA6 Q S 2 (#[true, true, true, true, true, true, true, true, true, true, false, false] : Array Bool) (a.put (some 39) v) w) : wpAnyH Tryz.prog .any opsIA6 Q S 3 (#[true, true, true, true, true, true, true, true, true, false, false, false] : Array Bool) a w :=
  wpAnyH_take (i := 9) hIA6_9 noselIA6 (by kernel_rfl) (by kernel_rfl) hQ hy hS ((show (#[true, true, true, true, true, true, true, true, true, false, false, false] : Array Bool).setIfInBounds 9 true = (#[true, true, true, true, true, true, true, true, true, true, false, false] : Array Bool) by kernel_rfl).symm ▸ h)
theorem tIA6_0123456789_10 {Q : Exit → Act → World → Prop} {S : World → Prop} {a : Act} {w : World} (v : Value) (hQ : ∀ c a w, Q (.panic c) (a.put (some 11) v) w → Q (.panic c) a w) (hy : YieldsIf Tryz.prog opsIA6 S qIA6_10 v a) (hS : S w)
    (h : wpAnyH Tryz.prog .any opsIA6 Q S 1 (#[true, true, true, true, true, true, true, true, true, true, true, false] : Array Bool) (a.put (some 11) v) w) : wpAnyH Tryz.prog .any opsIA6 Q S 2 (#[true, true, true, true, true, true, true, true, true, true, false, false] : Array Bool) a w :=
  wpAnyH_take (i := 10) hIA6_10 noselIA6 (by kernel_rfl) (by kernel_rfl) hQ hy hS ((show (#[true, true, true, true, true, true, true, true, true, true, false, false] : Array Bool).setIfInBounds 10 true = (#[true, true, true, true, true, true, true, true, true, true, true, false] : Array Bool) by kernel_rfl).symm ▸ h)
theorem tIA6_0123456789_10_11 {Q : Exit → Act → World → Prop} {S : World → Prop} {a : Act} {w : World} (v : Value) (hQ : ∀ c a w, Q (.panic c) (a.put (some 15) v) w → Q (.panic c) a w) (hy : YieldsIf Tryz.prog opsIA6 S qIA6_11 v a) (hS : S w)
    (h : wpAnyH Tryz.prog .any opsIA6 Q S 0 (#[true, true, true, true, true, true, true, true, true, true, true, true] : Array Bool) (a.put (some 15) v) w) : wpAnyH Tryz.prog .any opsIA6 Q S 1 (#[true, true, true, true, true, true, true, true, true, true, true, false] : Array Bool) a w :=
  wpAnyH_take (i := 11) hIA6_11 noselIA6 (by kernel_rfl) (by kernel_rfl) hQ hy hS ((show (#[true, true, true, true, true, true, true, true, true, true, true, false] : Array Bool).setIfInBounds 11 true = (#[true, true, true, true, true, true, true, true, true, true, true, true] : Array Bool) by kernel_rfl).symm ▸ h)
set_option maxRecDepth 100000 in
theorem cIA6_01234_5 {Q : Exit → Act → World → Prop} {S : World → Prop} {a : Act} {w : World}
    (h5 : ∀ K' : Act → World → Prop, Shut (∀ a w, S w → (S w → wpAnyH Tryz.prog .any opsIA6 Q S 6 (#[true, true, true, true, true, true, false, false, false, false, false, false] : Array Bool) a w) → K' a w) → if Region.wanted qIA6_5 (yielded opsIA6 a.tmps) = true then Oper.wp Tryz.prog qIA6_5 a w K' Q else K' (a.put (some 36) undef) w) :
    wpAnyH Tryz.prog .any opsIA6 Q S 7 (#[true, true, true, true, true, false, false, false, false, false, false, false] : Array Bool) a w :=
  wpAnyH_ready (rs := [5]) (by kernel_rfl) (by simp) (AllReadyH.cons hIA6_5 (fun K' hK => h5 K' ((show (#[true, true, true, true, true, false, false, false, false, false, false, false] : Array Bool).setIfInBounds 5 true = (#[true, true, true, true, true, true, false, false, false, false, false, false] : Array Bool) by kernel_rfl) ▸ hK)) AllReadyH.nil)
end Go.Proofs.YtlanmkimaambgaaGreat.hexes
