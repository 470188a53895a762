/-
  A statement of spec.Adjust: its operations, and a theorem a step.
-/
import Derived.Test.YtdmbkjebagnloaaGreatDoorProg
import Derived.WalkKit
import Derived.Deep.RegionHeld3
namespace Go.Proofs.YtdmbkjebagnloaaGreatDoor.hexes
open Go.RowKit

def findD12 (n : Nat) : Code → Option Code
  | .region id ops d => if id = n then some (.region id ops d) else none
  | .seq a b => match findD12 n a with
    | some c => some c
    | none => findD12 n b
  | .block _ c => findD12 n c
  | .scope c => findD12 n c
  | .loop c => findD12 n c
  | .cond _ a b => match findD12 n a with
    | some c => some c
    | none => findD12 n b
  | _ => none
def opsOfD12 : Option Code → Array Oper
  | some (.region _ ops _) => ops
  | _ => #[]
noncomputable def opsD12 : Array Oper := opsOfD12 (Tryz.f47.body.bind (findD12 12))
def schD12 : List Nat := [0, 1, 2, 3, 4, 5, 6, 7, 8, 9, 10, 11]
def LD12 (k : Nat) : Array Bool := ((List.range 12).map fun i => (schD12.take k).contains i).toArray
theorem noselD12 : Region.noSelect opsD12 = true := by kernel_rfl
def qD12_0 : Oper := { dst := some 48, op := Op.move (Operand.tmp 11), type := 4, pos := "l04_counts.go:35", after := #[], guard := none }
theorem hD12_0 : opsD12[0]? = some qD12_0 := by kernel_rfl
theorem lD12_0 : (LD12 0).setIfInBounds 0 true = LD12 1 := by kernel_rfl
theorem tD12_0 {Q : Exit → Act → World → Prop} {S : World → Prop} {a : Act} {w : World} (v : Value) (hQ : ∀ c a w, Q (.panic c) (a.put (some 48) v) w → Q (.panic c) a w) (hy : YieldsIf Tryz.prog opsD12 S qD12_0 v a) (hS : S w)
    (h : wpAnyH Tryz.prog .any opsD12 Q S 11 (LD12 1) (a.put (some 48) v) w) : wpAnyH Tryz.prog .any opsD12 Q S 12 (LD12 0) a w :=
  wpAnyH_take (i := 0) hD12_0 noselD12 (by kernel_rfl) (by kernel_rfl) hQ hy hS (lD12_0.symm ▸ h)
def qD12_1 : Oper := { dst := some 49, op := Op.unOp UnOp.not 4 (Operand.tmp 48), type := 4, pos := "l04_counts.go:35", after := #[{ on := 0, ground := Ground.data }], guard := none }
theorem hD12_1 : opsD12[1]? = some qD12_1 := by kernel_rfl
theorem lD12_1 : (LD12 1).setIfInBounds 1 true = LD12 2 := by kernel_rfl
theorem tD12_1 {Q : Exit → Act → World → Prop} {S : World → Prop} {a : Act} {w : World} (v : Value) (hQ : ∀ c a w, Q (.panic c) (a.put (some 49) v) w → Q (.panic c) a w) (hy : YieldsIf Tryz.prog opsD12 S qD12_1 v a) (hS : S w)
    (h : wpAnyH Tryz.prog .any opsD12 Q S 10 (LD12 2) (a.put (some 49) v) w) : wpAnyH Tryz.prog .any opsD12 Q S 11 (LD12 1) a w :=
  wpAnyH_take (i := 1) hD12_1 noselD12 (by kernel_rfl) (by kernel_rfl) hQ hy hS (lD12_1.symm ▸ h)
def qD12_2 : Oper := { dst := some 50, op := Op.move (Operand.tmp 49), type := 4, pos := "l04_counts.go:35", after := #[{ on := 1, ground := Ground.data }], guard := none }
theorem hD12_2 : opsD12[2]? = some qD12_2 := by kernel_rfl
theorem lD12_2 : (LD12 2).setIfInBounds 2 true = LD12 3 := by kernel_rfl
theorem tD12_2 {Q : Exit → Act → World → Prop} {S : World → Prop} {a : Act} {w : World} (v : Value) (hQ : ∀ c a w, Q (.panic c) (a.put (some 50) v) w → Q (.panic c) a w) (hy : YieldsIf Tryz.prog opsD12 S qD12_2 v a) (hS : S w)
    (h : wpAnyH Tryz.prog .any opsD12 Q S 9 (LD12 3) (a.put (some 50) v) w) : wpAnyH Tryz.prog .any opsD12 Q S 10 (LD12 2) a w :=
  wpAnyH_take (i := 2) hD12_2 noselD12 (by kernel_rfl) (by kernel_rfl) hQ hy hS (lD12_2.symm ▸ h)
def qD12_3 : Oper := { dst := some 51, op := Op.load 30 (Operand.tmp 4), type := 30, pos := "l04_counts.go:35", after := #[{ on := 2, ground := Ground.guard }], guard := some (2, true) }
theorem hD12_3 : opsD12[3]? = some qD12_3 := by kernel_rfl
theorem lD12_3 : (LD12 3).setIfInBounds 3 true = LD12 4 := by kernel_rfl
theorem tD12_3 {Q : Exit → Act → World → Prop} {S : World → Prop} {a : Act} {w : World} (v : Value) (hQ : ∀ c a w, Q (.panic c) (a.put (some 51) v) w → Q (.panic c) a w) (hy : YieldsIf Tryz.prog opsD12 S qD12_3 v a) (hS : S w)
    (h : wpAnyH Tryz.prog .any opsD12 Q S 8 (LD12 4) (a.put (some 51) v) w) : wpAnyH Tryz.prog .any opsD12 Q S 9 (LD12 3) a w :=
  wpAnyH_take (i := 3) hD12_3 noselD12 (by kernel_rfl) (by kernel_rfl) hQ hy hS (lD12_3.symm ▸ h)
def qD12_4 : Oper := { dst := some 52, op := Op.move (Operand.tmp 0), type := 44, pos := "l04_counts.go:35", after := #[{ on := 2, ground := Ground.guard }], guard := some (2, true) }
theorem hD12_4 : opsD12[4]? = some qD12_4 := by kernel_rfl
theorem lD12_4 : (LD12 4).setIfInBounds 4 true = LD12 5 := by kernel_rfl
theorem tD12_4 {Q : Exit → Act → World → Prop} {S : World → Prop} {a : Act} {w : World} (v : Value) (hQ : ∀ c a w, Q (.panic c) (a.put (some 52) v) w → Q (.panic c) a w) (hy : YieldsIf Tryz.prog opsD12 S qD12_4 v a) (hS : S w)
    (h : wpAnyH Tryz.prog .any opsD12 Q S 7 (LD12 5) (a.put (some 52) v) w) : wpAnyH Tryz.prog .any opsD12 Q S 8 (LD12 4) a w :=
  wpAnyH_take (i := 4) hD12_4 noselD12 (by kernel_rfl) (by kernel_rfl) hQ hy hS (lD12_4.symm ▸ h)
def qD12_5 : Oper := { dst := some 53, op := Op.move (Operand.tmp 12), type := 3, pos := "l04_counts.go:35", after := #[{ on := 2, ground := Ground.guard }], guard := some (2, true) }
theorem hD12_5 : opsD12[5]? = some qD12_5 := by kernel_rfl
theorem lD12_5 : (LD12 5).setIfInBounds 5 true = LD12 6 := by kernel_rfl
theorem tD12_5 {Q : Exit → Act → World → Prop} {S : World → Prop} {a : Act} {w : World} (v : Value) (hQ : ∀ c a w, Q (.panic c) (a.put (some 53) v) w → Q (.panic c) a w) (hy : YieldsIf Tryz.prog opsD12 S qD12_5 v a) (hS : S w)
    (h : wpAnyH Tryz.prog .any opsD12 Q S 6 (LD12 6) (a.put (some 53) v) w) : wpAnyH Tryz.prog .any opsD12 Q S 7 (LD12 5) a w :=
  wpAnyH_take (i := 5) hD12_5 noselD12 (by kernel_rfl) (by kernel_rfl) hQ hy hS (lD12_5.symm ▸ h)
def qD12_6 : Oper := { dst := some 54, op := Op.indexAddr 44 (Operand.tmp 52) (Operand.tmp 53), type := 0, pos := "l04_counts.go:35", after := #[{ on := 4, ground := Ground.data }, { on := 5, ground := Ground.data }, { on := 2, ground := Ground.guard }], guard := some (2, true) }
theorem hD12_6 : opsD12[6]? = some qD12_6 := by kernel_rfl
theorem lD12_6 : (LD12 6).setIfInBounds 6 true = LD12 7 := by kernel_rfl
theorem tD12_6 {Q : Exit → Act → World → Prop} {S : World → Prop} {a : Act} {w : World} (v : Value) (hQ : ∀ c a w, Q (.panic c) (a.put (some 54) v) w → Q (.panic c) a w) (hy : YieldsIf Tryz.prog opsD12 S qD12_6 v a) (hS : S w)
    (h : wpAnyH Tryz.prog .any opsD12 Q S 5 (LD12 7) (a.put (some 54) v) w) : wpAnyH Tryz.prog .any opsD12 Q S 6 (LD12 6) a w :=
  wpAnyH_take (i := 6) hD12_6 noselD12 (by kernel_rfl) (by kernel_rfl) hQ hy hS (lD12_6.symm ▸ h)
def qD12_7 : Oper := { dst := some 55, op := Op.fieldAddr 64 (Operand.tmp 54) 0, type := 0, pos := "l04_counts.go:35", after := #[{ on := 6, ground := Ground.data }, { on := 2, ground := Ground.guard }], guard := some (2, true) }
theorem hD12_7 : opsD12[7]? = some qD12_7 := by kernel_rfl
theorem lD12_7 : (LD12 7).setIfInBounds 7 true = LD12 8 := by kernel_rfl
theorem tD12_7 {Q : Exit → Act → World → Prop} {S : World → Prop} {a : Act} {w : World} (v : Value) (hQ : ∀ c a w, Q (.panic c) (a.put (some 55) v) w → Q (.panic c) a w) (hy : YieldsIf Tryz.prog opsD12 S qD12_7 v a) (hS : S w)
    (h : wpAnyH Tryz.prog .any opsD12 Q S 4 (LD12 8) (a.put (some 55) v) w) : wpAnyH Tryz.prog .any opsD12 Q S 5 (LD12 7) a w :=
  wpAnyH_take (i := 7) hD12_7 noselD12 (by kernel_rfl) (by kernel_rfl) hQ hy hS (lD12_7.symm ▸ h)
def qD12_8 : Oper := { dst := some 56, op := Op.load 30 (Operand.tmp 55), type := 30, pos := "l04_counts.go:35", after := #[{ on := 7, ground := Ground.data }, { on := 2, ground := Ground.guard }], guard := some (2, true) }
theorem hD12_8 : opsD12[8]? = some qD12_8 := by kernel_rfl
theorem lD12_8 : (LD12 8).setIfInBounds 8 true = LD12 9 := by kernel_rfl
theorem tD12_8 {Q : Exit → Act → World → Prop} {S : World → Prop} {a : Act} {w : World} (v : Value) (hQ : ∀ c a w, Q (.panic c) (a.put (some 56) v) w → Q (.panic c) a w) (hy : YieldsIf Tryz.prog opsD12 S qD12_8 v a) (hS : S w)
    (h : wpAnyH Tryz.prog .any opsD12 Q S 3 (LD12 9) (a.put (some 56) v) w) : wpAnyH Tryz.prog .any opsD12 Q S 4 (LD12 8) a w :=
  wpAnyH_take (i := 8) hD12_8 noselD12 (by kernel_rfl) (by kernel_rfl) hQ hy hS (lD12_8.symm ▸ h)
def qD12_9 : Oper := { dst := some 57, op := Op.call { callee := Callee.value (Operand.func 44), args := #[Operand.tmp 51, Operand.tmp 56], argTypes := #[30, 30] }, type := 3, pos := "l04_counts.go:35", after := #[{ on := 3, ground := Ground.data }, { on := 8, ground := Ground.data }, { on := 2, ground := Ground.chain }, { on := 2, ground := Ground.guard }], guard := some (2, true) }
theorem hD12_9 : opsD12[9]? = some qD12_9 := by kernel_rfl
theorem lD12_9 : (LD12 9).setIfInBounds 9 true = LD12 10 := by kernel_rfl
set_option maxRecDepth 100000 in
theorem cD12_9 {Q : Exit → Act → World → Prop} {S : World → Prop} {a : Act} {w : World}
    (h : ∀ K' : Act → World → Prop, Shut (∀ a w, S w → (S w → wpAnyH Tryz.prog .any opsD12 Q S 2 (LD12 10) a w) → K' a w) → if Region.wanted qD12_9 (yielded opsD12 a.tmps) = true then Oper.wp Tryz.prog qD12_9 a w K' Q else K' (a.put (some 57) undef) w) :
    wpAnyH Tryz.prog .any opsD12 Q S 3 (LD12 9) a w :=
  wpAnyH_ready (rs := [9]) (by kernel_rfl) (by simp) (AllReadyH.cons hD12_9 (fun K' hK => h K' (lD12_9 ▸ hK)) AllReadyH.nil)
theorem tD12_9 {Q : Exit → Act → World → Prop} {S : World → Prop} {a : Act} {w : World} (v : Value) (hQ : ∀ c a w, Q (.panic c) (a.put (some 57) v) w → Q (.panic c) a w) (hy : YieldsIf Tryz.prog opsD12 S qD12_9 v a) (hS : S w)
    (h : wpAnyH Tryz.prog .any opsD12 Q S 2 (LD12 10) (a.put (some 57) v) w) : wpAnyH Tryz.prog .any opsD12 Q S 3 (LD12 9) a w :=
  wpAnyH_take (i := 9) hD12_9 noselD12 (by kernel_rfl) (by kernel_rfl) hQ hy hS (lD12_9.symm ▸ h)
def qD12_10 : Oper := { dst := some 58, op := Op.binOp BinOp.leq 3 (Operand.tmp 57) (Operand.const (Value.int IntKind.i64 0)) 3, type := 4, pos := "l04_counts.go:35", after := #[{ on := 9, ground := Ground.data }, { on := 2, ground := Ground.guard }], guard := some (2, true) }
theorem hD12_10 : opsD12[10]? = some qD12_10 := by kernel_rfl
theorem lD12_10 : (LD12 10).setIfInBounds 10 true = LD12 11 := by kernel_rfl
theorem tD12_10 {Q : Exit → Act → World → Prop} {S : World → Prop} {a : Act} {w : World} (v : Value) (hQ : ∀ c a w, Q (.panic c) (a.put (some 58) v) w → Q (.panic c) a w) (hy : YieldsIf Tryz.prog opsD12 S qD12_10 v a) (hS : S w)
    (h : wpAnyH Tryz.prog .any opsD12 Q S 1 (LD12 11) (a.put (some 58) v) w) : wpAnyH Tryz.prog .any opsD12 Q S 2 (LD12 10) a w :=
  wpAnyH_take (i := 10) hD12_10 noselD12 (by kernel_rfl) (by kernel_rfl) hQ hy hS (lD12_10.symm ▸ h)
def qD12_11 : Oper := { dst := some 59, op := Op.pick (Operand.tmp 50) (Operand.tmp 58) (Operand.const (Value.bool false)), type := 4, pos := "l04_counts.go:35", after := #[{ on := 2, ground := Ground.data }, { on := 10, ground := Ground.data }], guard := none }
theorem hD12_11 : opsD12[11]? = some qD12_11 := by kernel_rfl
theorem lD12_11 : (LD12 11).setIfInBounds 11 true = LD12 12 := by kernel_rfl
theorem tD12_11 {Q : Exit → Act → World → Prop} {S : World → Prop} {a : Act} {w : World} (v : Value) (hQ : ∀ c a w, Q (.panic c) (a.put (some 59) v) w → Q (.panic c) a w) (hy : YieldsIf Tryz.prog opsD12 S qD12_11 v a) (hS : S w)
    (h : wpAnyH Tryz.prog .any opsD12 Q S 0 (LD12 12) (a.put (some 59) v) w) : wpAnyH Tryz.prog .any opsD12 Q S 1 (LD12 11) a w :=
  wpAnyH_take (i := 11) hD12_11 noselD12 (by kernel_rfl) (by kernel_rfl) hQ hy hS (lD12_11.symm ▸ h)
end Go.Proofs.YtdmbkjebagnloaaGreatDoor.hexes
