/-
  A statement of laws.FnRecords: its operations, and a theorem a step.
-/
import Derived.Test.YtdmbkjebagnloaaGreatDoorProg
import Derived.WalkKit
import Derived.Deep.RegionHeld3
namespace Go.Proofs.YtdmbkjebagnloaaGreatDoor.hexes
open Go.RowKit

def findF10 (n : Nat) : Code → Option Code
  | .region id ops d => if id = n then some (.region id ops d) else none
  | .seq a b => match findF10 n a with
    | some c => some c
    | none => findF10 n b
  | .block _ c => findF10 n c
  | .scope c => findF10 n c
  | .loop c => findF10 n c
  | .cond _ a b => match findF10 n a with
    | some c => some c
    | none => findF10 n b
  | _ => none
def opsOfF10 : Option Code → Array Oper
  | some (.region _ ops _) => ops
  | _ => #[]
noncomputable def opsF10 : Array Oper := opsOfF10 (Tryz.f3.body.bind (findF10 10))
def schF10 : List Nat := [0, 1, 2, 3, 4, 5, 6, 7, 8, 9, 10]
def LF10 (k : Nat) : Array Bool := ((List.range 11).map fun i => (schF10.take k).contains i).toArray
theorem noselF10 : Region.noSelect opsF10 = true := by kernel_rfl
def qF10_0 : Oper := { dst := some 36, op := Op.move (Operand.tmp 4), type := 24, pos := "laws.go:295", after := #[], guard := none }
theorem hF10_0 : opsF10[0]? = some qF10_0 := by kernel_rfl
theorem lF10_0 : (LF10 0).setIfInBounds 0 true = LF10 1 := by kernel_rfl
theorem tF10_0 {Q : Exit → Act → World → Prop} {S : World → Prop} {a : Act} {w : World} (v : Value) (hQ : ∀ c a w, Q (.panic c) (a.put (some 36) v) w → Q (.panic c) a w) (hy : YieldsIf Tryz.prog opsF10 S qF10_0 v a) (hS : S w)
    (h : wpAnyH Tryz.prog .any opsF10 Q S 10 (LF10 1) (a.put (some 36) v) w) : wpAnyH Tryz.prog .any opsF10 Q S 11 (LF10 0) a w :=
  wpAnyH_take (i := 0) hF10_0 noselF10 (by kernel_rfl) (by kernel_rfl) hQ hy hS (lF10_0.symm ▸ h)
def qF10_1 : Oper := { dst := some 37, op := Op.move (Operand.tmp 5), type := 3, pos := "laws.go:295", after := #[], guard := none }
theorem hF10_1 : opsF10[1]? = some qF10_1 := by kernel_rfl
theorem lF10_1 : (LF10 1).setIfInBounds 1 true = LF10 2 := by kernel_rfl
theorem tF10_1 {Q : Exit → Act → World → Prop} {S : World → Prop} {a : Act} {w : World} (v : Value) (hQ : ∀ c a w, Q (.panic c) (a.put (some 37) v) w → Q (.panic c) a w) (hy : YieldsIf Tryz.prog opsF10 S qF10_1 v a) (hS : S w)
    (h : wpAnyH Tryz.prog .any opsF10 Q S 9 (LF10 2) (a.put (some 37) v) w) : wpAnyH Tryz.prog .any opsF10 Q S 10 (LF10 1) a w :=
  wpAnyH_take (i := 1) hF10_1 noselF10 (by kernel_rfl) (by kernel_rfl) hQ hy hS (lF10_1.symm ▸ h)
def qF10_2 : Oper := { dst := some 38, op := Op.binOp BinOp.sub 3 (Operand.tmp 37) (Operand.const (Value.int IntKind.i64 1)) 3, type := 3, pos := "laws.go:295", after := #[{ on := 1, ground := Ground.data }], guard := none }
theorem hF10_2 : opsF10[2]? = some qF10_2 := by kernel_rfl
theorem lF10_2 : (LF10 2).setIfInBounds 2 true = LF10 3 := by kernel_rfl
theorem tF10_2 {Q : Exit → Act → World → Prop} {S : World → Prop} {a : Act} {w : World} (v : Value) (hQ : ∀ c a w, Q (.panic c) (a.put (some 38) v) w → Q (.panic c) a w) (hy : YieldsIf Tryz.prog opsF10 S qF10_2 v a) (hS : S w)
    (h : wpAnyH Tryz.prog .any opsF10 Q S 8 (LF10 3) (a.put (some 38) v) w) : wpAnyH Tryz.prog .any opsF10 Q S 9 (LF10 2) a w :=
  wpAnyH_take (i := 2) hF10_2 noselF10 (by kernel_rfl) (by kernel_rfl) hQ hy hS (lF10_2.symm ▸ h)
def qF10_3 : Oper := { dst := some 39, op := Op.indexAddr 24 (Operand.tmp 36) (Operand.tmp 38), type := 0, pos := "laws.go:295", after := #[{ on := 0, ground := Ground.data }, { on := 2, ground := Ground.data }], guard := none }
theorem hF10_3 : opsF10[3]? = some qF10_3 := by kernel_rfl
theorem lF10_3 : (LF10 3).setIfInBounds 3 true = LF10 4 := by kernel_rfl
theorem tF10_3 {Q : Exit → Act → World → Prop} {S : World → Prop} {a : Act} {w : World} (v : Value) (hQ : ∀ c a w, Q (.panic c) (a.put (some 39) v) w → Q (.panic c) a w) (hy : YieldsIf Tryz.prog opsF10 S qF10_3 v a) (hS : S w)
    (h : wpAnyH Tryz.prog .any opsF10 Q S 7 (LF10 4) (a.put (some 39) v) w) : wpAnyH Tryz.prog .any opsF10 Q S 8 (LF10 3) a w :=
  wpAnyH_take (i := 3) hF10_3 noselF10 (by kernel_rfl) (by kernel_rfl) hQ hy hS (lF10_3.symm ▸ h)
def qF10_4 : Oper := { dst := some 40, op := Op.load 32 (Operand.tmp 39), type := 32, pos := "laws.go:295", after := #[{ on := 3, ground := Ground.data }], guard := none }
theorem hF10_4 : opsF10[4]? = some qF10_4 := by kernel_rfl
theorem lF10_4 : (LF10 4).setIfInBounds 4 true = LF10 5 := by kernel_rfl
theorem tF10_4 {Q : Exit → Act → World → Prop} {S : World → Prop} {a : Act} {w : World} (v : Value) (hQ : ∀ c a w, Q (.panic c) (a.put (some 40) v) w → Q (.panic c) a w) (hy : YieldsIf Tryz.prog opsF10 S qF10_4 v a) (hS : S w)
    (h : wpAnyH Tryz.prog .any opsF10 Q S 6 (LF10 5) (a.put (some 40) v) w) : wpAnyH Tryz.prog .any opsF10 Q S 7 (LF10 4) a w :=
  wpAnyH_take (i := 4) hF10_4 noselF10 (by kernel_rfl) (by kernel_rfl) hQ hy hS (lF10_4.symm ▸ h)
def qF10_5 : Oper := { dst := some 41, op := Op.move (Operand.tmp 4), type := 24, pos := "laws.go:295", after := #[], guard := none }
theorem hF10_5 : opsF10[5]? = some qF10_5 := by kernel_rfl
theorem lF10_5 : (LF10 5).setIfInBounds 5 true = LF10 6 := by kernel_rfl
theorem tF10_5 {Q : Exit → Act → World → Prop} {S : World → Prop} {a : Act} {w : World} (v : Value) (hQ : ∀ c a w, Q (.panic c) (a.put (some 41) v) w → Q (.panic c) a w) (hy : YieldsIf Tryz.prog opsF10 S qF10_5 v a) (hS : S w)
    (h : wpAnyH Tryz.prog .any opsF10 Q S 5 (LF10 6) (a.put (some 41) v) w) : wpAnyH Tryz.prog .any opsF10 Q S 6 (LF10 5) a w :=
  wpAnyH_take (i := 5) hF10_5 noselF10 (by kernel_rfl) (by kernel_rfl) hQ hy hS (lF10_5.symm ▸ h)
def qF10_6 : Oper := { dst := some 42, op := Op.move (Operand.tmp 5), type := 3, pos := "laws.go:295", after := #[], guard := none }
theorem hF10_6 : opsF10[6]? = some qF10_6 := by kernel_rfl
theorem lF10_6 : (LF10 6).setIfInBounds 6 true = LF10 7 := by kernel_rfl
theorem tF10_6 {Q : Exit → Act → World → Prop} {S : World → Prop} {a : Act} {w : World} (v : Value) (hQ : ∀ c a w, Q (.panic c) (a.put (some 42) v) w → Q (.panic c) a w) (hy : YieldsIf Tryz.prog opsF10 S qF10_6 v a) (hS : S w)
    (h : wpAnyH Tryz.prog .any opsF10 Q S 4 (LF10 7) (a.put (some 42) v) w) : wpAnyH Tryz.prog .any opsF10 Q S 5 (LF10 6) a w :=
  wpAnyH_take (i := 6) hF10_6 noselF10 (by kernel_rfl) (by kernel_rfl) hQ hy hS (lF10_6.symm ▸ h)
def qF10_7 : Oper := { dst := some 43, op := Op.indexAddr 24 (Operand.tmp 41) (Operand.tmp 42), type := 0, pos := "laws.go:295", after := #[{ on := 5, ground := Ground.data }, { on := 6, ground := Ground.data }], guard := none }
theorem hF10_7 : opsF10[7]? = some qF10_7 := by kernel_rfl
theorem lF10_7 : (LF10 7).setIfInBounds 7 true = LF10 8 := by kernel_rfl
theorem tF10_7 {Q : Exit → Act → World → Prop} {S : World → Prop} {a : Act} {w : World} (v : Value) (hQ : ∀ c a w, Q (.panic c) (a.put (some 43) v) w → Q (.panic c) a w) (hy : YieldsIf Tryz.prog opsF10 S qF10_7 v a) (hS : S w)
    (h : wpAnyH Tryz.prog .any opsF10 Q S 3 (LF10 8) (a.put (some 43) v) w) : wpAnyH Tryz.prog .any opsF10 Q S 4 (LF10 7) a w :=
  wpAnyH_take (i := 7) hF10_7 noselF10 (by kernel_rfl) (by kernel_rfl) hQ hy hS (lF10_7.symm ▸ h)
def qF10_8 : Oper := { dst := some 44, op := Op.load 32 (Operand.tmp 43), type := 32, pos := "laws.go:295", after := #[{ on := 7, ground := Ground.data }], guard := none }
theorem hF10_8 : opsF10[8]? = some qF10_8 := by kernel_rfl
theorem lF10_8 : (LF10 8).setIfInBounds 8 true = LF10 9 := by kernel_rfl
theorem tF10_8 {Q : Exit → Act → World → Prop} {S : World → Prop} {a : Act} {w : World} (v : Value) (hQ : ∀ c a w, Q (.panic c) (a.put (some 44) v) w → Q (.panic c) a w) (hy : YieldsIf Tryz.prog opsF10 S qF10_8 v a) (hS : S w)
    (h : wpAnyH Tryz.prog .any opsF10 Q S 2 (LF10 9) (a.put (some 44) v) w) : wpAnyH Tryz.prog .any opsF10 Q S 3 (LF10 8) a w :=
  wpAnyH_take (i := 8) hF10_8 noselF10 (by kernel_rfl) (by kernel_rfl) hQ hy hS (lF10_8.symm ▸ h)
def qF10_9 : Oper := { dst := some 45, op := Op.call { callee := Callee.value (Operand.func 10), args := #[Operand.tmp 40, Operand.tmp 44], argTypes := #[32, 32] }, type := 3, pos := "laws.go:295", after := #[{ on := 4, ground := Ground.data }, { on := 8, ground := Ground.data }], guard := none }
theorem hF10_9 : opsF10[9]? = some qF10_9 := by kernel_rfl
theorem lF10_9 : (LF10 9).setIfInBounds 9 true = LF10 10 := by kernel_rfl
set_option maxRecDepth 100000 in
theorem cF10_9 {Q : Exit → Act → World → Prop} {S : World → Prop} {a : Act} {w : World}
    (h : ∀ K' : Act → World → Prop, Shut (∀ a w, S w → (S w → wpAnyH Tryz.prog .any opsF10 Q S 1 (LF10 10) a w) → K' a w) → if Region.wanted qF10_9 (yielded opsF10 a.tmps) = true then Oper.wp Tryz.prog qF10_9 a w K' Q else K' (a.put (some 45) undef) w) :
    wpAnyH Tryz.prog .any opsF10 Q S 2 (LF10 9) a w :=
  wpAnyH_ready (rs := [9]) (by kernel_rfl) (by simp) (AllReadyH.cons hF10_9 (fun K' hK => h K' (lF10_9 ▸ hK)) AllReadyH.nil)
theorem tF10_9 {Q : Exit → Act → World → Prop} {S : World → Prop} {a : Act} {w : World} (v : Value) (hQ : ∀ c a w, Q (.panic c) (a.put (some 45) v) w → Q (.panic c) a w) (hy : YieldsIf Tryz.prog opsF10 S qF10_9 v a) (hS : S w)
    (h : wpAnyH Tryz.prog .any opsF10 Q S 1 (LF10 10) (a.put (some 45) v) w) : wpAnyH Tryz.prog .any opsF10 Q S 2 (LF10 9) a w :=
  wpAnyH_take (i := 9) hF10_9 noselF10 (by kernel_rfl) (by kernel_rfl) hQ hy hS (lF10_9.symm ▸ h)
def qF10_10 : Oper := { dst := some 46, op := Op.binOp BinOp.gtr 3 (Operand.tmp 45) (Operand.const (Value.int IntKind.i64 0)) 3, type := 4, pos := "laws.go:295", after := #[{ on := 9, ground := Ground.data }], guard := none }
theorem hF10_10 : opsF10[10]? = some qF10_10 := by kernel_rfl
theorem lF10_10 : (LF10 10).setIfInBounds 10 true = LF10 11 := by kernel_rfl
theorem tF10_10 {Q : Exit → Act → World → Prop} {S : World → Prop} {a : Act} {w : World} (v : Value) (hQ : ∀ c a w, Q (.panic c) (a.put (some 46) v) w → Q (.panic c) a w) (hy : YieldsIf Tryz.prog opsF10 S qF10_10 v a) (hS : S w)
    (h : wpAnyH Tryz.prog .any opsF10 Q S 0 (LF10 11) (a.put (some 46) v) w) : wpAnyH Tryz.prog .any opsF10 Q S 1 (LF10 10) a w :=
  wpAnyH_take (i := 10) hF10_10 noselF10 (by kernel_rfl) (by kernel_rfl) hQ hy hS (lF10_10.symm ▸ h)
end Go.Proofs.YtdmbkjebagnloaaGreatDoor.hexes
