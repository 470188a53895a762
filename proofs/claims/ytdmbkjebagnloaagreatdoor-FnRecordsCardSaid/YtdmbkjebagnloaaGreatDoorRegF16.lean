/-
  A statement of laws.FnRecords: its operations, and a theorem a step.
-/
import Derived.Test.YtdmbkjebagnloaaGreatDoorProg
import Derived.WalkKit
import Derived.Deep.RegionHeld3
namespace Go.Proofs.YtdmbkjebagnloaaGreatDoor.hexes
open Go.RowKit

def findF16 (n : Nat) : Code → Option Code
  | .region id ops d => if id = n then some (.region id ops d) else none
  | .seq a b => match findF16 n a with
    | some c => some c
    | none => findF16 n b
  | .block _ c => findF16 n c
  | .scope c => findF16 n c
  | .loop c => findF16 n c
  | .cond _ a b => match findF16 n a with
    | some c => some c
    | none => findF16 n b
  | _ => none
def opsOfF16 : Option Code → Array Oper
  | some (.region _ ops _) => ops
  | _ => #[]
noncomputable def opsF16 : Array Oper := opsOfF16 (Tryz.f3.body.bind (findF16 16))
def schF16 : List Nat := [0, 1, 3, 4, 2, 5, 6, 7, 8, 10, 9, 11, 12, 13, 14, 15, 17, 16, 18, 19, 20, 21, 22, 23, 25, 26, 24, 27, 28, 29, 30, 31, 32, 34, 35, 33, 36, 37, 38, 39, 40, 41, 42, 44, 45, 43, 46, 47, 48, 49, 50, 52, 51, 53, 54, 55, 56, 57, 58, 59, 60, 61]
def LF16 (k : Nat) : Array Bool := ((List.range 62).map fun i => (schF16.take k).contains i).toArray
theorem noselF16 : Region.noSelect opsF16 = true := by kernel_rfl
def qF16_0 : Oper := { dst := some 64, op := Op.move (Operand.tmp 6), type := 24, pos := "laws.go:303", after := #[], guard := none }
theorem hF16_0 : opsF16[0]? = some qF16_0 := by kernel_rfl
theorem lF16_0 : (LF16 0).setIfInBounds 0 true = LF16 1 := by kernel_rfl
theorem tF16_0 {Q : Exit → Act → World → Prop} {S : World → Prop} {a : Act} {w : World} (v : Value) (hQ : ∀ c a w, Q (.panic c) (a.put (some 64) v) w → Q (.panic c) a w) (hy : YieldsIf Tryz.prog opsF16 S qF16_0 v a) (hS : S w)
    (h : wpAnyH Tryz.prog .any opsF16 Q S 61 (LF16 1) (a.put (some 64) v) w) : wpAnyH Tryz.prog .any opsF16 Q S 62 (LF16 0) a w :=
  wpAnyH_take (i := 0) hF16_0 noselF16 (by kernel_rfl) (by kernel_rfl) hQ hy hS (lF16_0.symm ▸ h)
def qF16_1 : Oper := { dst := some 65, op := Op.move (Operand.tmp 7), type := 24, pos := "laws.go:303", after := #[], guard := none }
theorem hF16_1 : opsF16[1]? = some qF16_1 := by kernel_rfl
theorem lF16_1 : (LF16 1).setIfInBounds 1 true = LF16 2 := by kernel_rfl
theorem tF16_1 {Q : Exit → Act → World → Prop} {S : World → Prop} {a : Act} {w : World} (v : Value) (hQ : ∀ c a w, Q (.panic c) (a.put (some 65) v) w → Q (.panic c) a w) (hy : YieldsIf Tryz.prog opsF16 S qF16_1 v a) (hS : S w)
    (h : wpAnyH Tryz.prog .any opsF16 Q S 60 (LF16 2) (a.put (some 65) v) w) : wpAnyH Tryz.prog .any opsF16 Q S 61 (LF16 1) a w :=
  wpAnyH_take (i := 1) hF16_1 noselF16 (by kernel_rfl) (by kernel_rfl) hQ hy hS (lF16_1.symm ▸ h)
def qF16_3 : Oper := { dst := some 67, op := Op.move (Operand.tmp 6), type := 24, pos := "laws.go:303", after := #[], guard := none }
theorem hF16_3 : opsF16[3]? = some qF16_3 := by kernel_rfl
theorem lF16_2 : (LF16 2).setIfInBounds 3 true = LF16 3 := by kernel_rfl
theorem tF16_2 {Q : Exit → Act → World → Prop} {S : World → Prop} {a : Act} {w : World} (v : Value) (hQ : ∀ c a w, Q (.panic c) (a.put (some 67) v) w → Q (.panic c) a w) (hy : YieldsIf Tryz.prog opsF16 S qF16_3 v a) (hS : S w)
    (h : wpAnyH Tryz.prog .any opsF16 Q S 59 (LF16 3) (a.put (some 67) v) w) : wpAnyH Tryz.prog .any opsF16 Q S 60 (LF16 2) a w :=
  wpAnyH_take (i := 3) hF16_3 noselF16 (by kernel_rfl) (by kernel_rfl) hQ hy hS (lF16_2.symm ▸ h)
def qF16_4 : Oper := { dst := some 68, op := Op.move (Operand.tmp 7), type := 24, pos := "laws.go:303", after := #[], guard := none }
theorem hF16_4 : opsF16[4]? = some qF16_4 := by kernel_rfl
theorem lF16_3 : (LF16 3).setIfInBounds 4 true = LF16 4 := by kernel_rfl
theorem tF16_3 {Q : Exit → Act → World → Prop} {S : World → Prop} {a : Act} {w : World} (v : Value) (hQ : ∀ c a w, Q (.panic c) (a.put (some 68) v) w → Q (.panic c) a w) (hy : YieldsIf Tryz.prog opsF16 S qF16_4 v a) (hS : S w)
    (h : wpAnyH Tryz.prog .any opsF16 Q S 58 (LF16 4) (a.put (some 68) v) w) : wpAnyH Tryz.prog .any opsF16 Q S 59 (LF16 3) a w :=
  wpAnyH_take (i := 4) hF16_4 noselF16 (by kernel_rfl) (by kernel_rfl) hQ hy hS (lF16_3.symm ▸ h)
def qF16_2 : Oper := { dst := some 66, op := Op.call { callee := Callee.value (Operand.func 9), args := #[Operand.tmp 64, Operand.tmp 65], argTypes := #[24, 24] }, type := 4, pos := "laws.go:303", after := #[{ on := 0, ground := Ground.data }, { on := 1, ground := Ground.data }], guard := none }
theorem hF16_2 : opsF16[2]? = some qF16_2 := by kernel_rfl
theorem lF16_4 : (LF16 4).setIfInBounds 2 true = LF16 5 := by kernel_rfl
set_option maxRecDepth 100000 in
theorem cF16_4 {Q : Exit → Act → World → Prop} {S : World → Prop} {a : Act} {w : World}
    (h : ∀ K' : Act → World → Prop, Shut (∀ a w, S w → (S w → wpAnyH Tryz.prog .any opsF16 Q S 57 (LF16 5) a w) → K' a w) → if Region.wanted qF16_2 (yielded opsF16 a.tmps) = true then Oper.wp Tryz.prog qF16_2 a w K' Q else K' (a.put (some 66) undef) w) :
    wpAnyH Tryz.prog .any opsF16 Q S 58 (LF16 4) a w :=
  wpAnyH_ready (rs := [2]) (by kernel_rfl) (by simp) (AllReadyH.cons hF16_2 (fun K' hK => h K' (lF16_4 ▸ hK)) AllReadyH.nil)
theorem tF16_4 {Q : Exit → Act → World → Prop} {S : World → Prop} {a : Act} {w : World} (v : Value) (hQ : ∀ c a w, Q (.panic c) (a.put (some 66) v) w → Q (.panic c) a w) (hy : YieldsIf Tryz.prog opsF16 S qF16_2 v a) (hS : S w)
    (h : wpAnyH Tryz.prog .any opsF16 Q S 57 (LF16 5) (a.put (some 66) v) w) : wpAnyH Tryz.prog .any opsF16 Q S 58 (LF16 4) a w :=
  wpAnyH_take (i := 2) hF16_2 noselF16 (by kernel_rfl) (by kernel_rfl) hQ hy hS (lF16_4.symm ▸ h)
def qF16_5 : Oper := { dst := some 69, op := Op.call { callee := Callee.value (Operand.func 15), args := #[Operand.tmp 67, Operand.tmp 68], argTypes := #[24, 24] }, type := 4, pos := "laws.go:303", after := #[{ on := 3, ground := Ground.data }, { on := 4, ground := Ground.data }, { on := 2, ground := Ground.chain }], guard := none }
theorem hF16_5 : opsF16[5]? = some qF16_5 := by kernel_rfl
theorem lF16_5 : (LF16 5).setIfInBounds 5 true = LF16 6 := by kernel_rfl
set_option maxRecDepth 100000 in
theorem cF16_5 {Q : Exit → Act → World → Prop} {S : World → Prop} {a : Act} {w : World}
    (h : ∀ K' : Act → World → Prop, Shut (∀ a w, S w → (S w → wpAnyH Tryz.prog .any opsF16 Q S 56 (LF16 6) a w) → K' a w) → if Region.wanted qF16_5 (yielded opsF16 a.tmps) = true then Oper.wp Tryz.prog qF16_5 a w K' Q else K' (a.put (some 69) undef) w) :
    wpAnyH Tryz.prog .any opsF16 Q S 57 (LF16 5) a w :=
  wpAnyH_ready (rs := [5]) (by kernel_rfl) (by simp) (AllReadyH.cons hF16_5 (fun K' hK => h K' (lF16_5 ▸ hK)) AllReadyH.nil)
theorem tF16_5 {Q : Exit → Act → World → Prop} {S : World → Prop} {a : Act} {w : World} (v : Value) (hQ : ∀ c a w, Q (.panic c) (a.put (some 69) v) w → Q (.panic c) a w) (hy : YieldsIf Tryz.prog opsF16 S qF16_5 v a) (hS : S w)
    (h : wpAnyH Tryz.prog .any opsF16 Q S 56 (LF16 6) (a.put (some 69) v) w) : wpAnyH Tryz.prog .any opsF16 Q S 57 (LF16 5) a w :=
  wpAnyH_take (i := 5) hF16_5 noselF16 (by kernel_rfl) (by kernel_rfl) hQ hy hS (lF16_5.symm ▸ h)
def qF16_6 : Oper := { dst := some 70, op := Op.binOp BinOp.eql 4 (Operand.tmp 66) (Operand.tmp 69) 4, type := 4, pos := "laws.go:303", after := #[{ on := 2, ground := Ground.data }, { on := 5, ground := Ground.data }], guard := none }
theorem hF16_6 : opsF16[6]? = some qF16_6 := by kernel_rfl
theorem lF16_6 : (LF16 6).setIfInBounds 6 true = LF16 7 := by kernel_rfl
theorem tF16_6 {Q : Exit → Act → World → Prop} {S : World → Prop} {a : Act} {w : World} (v : Value) (hQ : ∀ c a w, Q (.panic c) (a.put (some 70) v) w → Q (.panic c) a w) (hy : YieldsIf Tryz.prog opsF16 S qF16_6 v a) (hS : S w)
    (h : wpAnyH Tryz.prog .any opsF16 Q S 55 (LF16 7) (a.put (some 70) v) w) : wpAnyH Tryz.prog .any opsF16 Q S 56 (LF16 6) a w :=
  wpAnyH_take (i := 6) hF16_6 noselF16 (by kernel_rfl) (by kernel_rfl) hQ hy hS (lF16_6.symm ▸ h)
def qF16_7 : Oper := { dst := some 71, op := Op.move (Operand.tmp 70), type := 4, pos := "laws.go:303", after := #[{ on := 6, ground := Ground.data }, { on := 5, ground := Ground.chain }], guard := none }
theorem hF16_7 : opsF16[7]? = some qF16_7 := by kernel_rfl
theorem lF16_7 : (LF16 7).setIfInBounds 7 true = LF16 8 := by kernel_rfl
theorem tF16_7 {Q : Exit → Act → World → Prop} {S : World → Prop} {a : Act} {w : World} (v : Value) (hQ : ∀ c a w, Q (.panic c) (a.put (some 71) v) w → Q (.panic c) a w) (hy : YieldsIf Tryz.prog opsF16 S qF16_7 v a) (hS : S w)
    (h : wpAnyH Tryz.prog .any opsF16 Q S 54 (LF16 8) (a.put (some 71) v) w) : wpAnyH Tryz.prog .any opsF16 Q S 55 (LF16 7) a w :=
  wpAnyH_take (i := 7) hF16_7 noselF16 (by kernel_rfl) (by kernel_rfl) hQ hy hS (lF16_7.symm ▸ h)
def qF16_8 : Oper := { dst := some 72, op := Op.load 32 (Operand.tmp 8), type := 32, pos := "laws.go:303", after := #[{ on := 7, ground := Ground.guard }], guard := some (7, true) }
theorem hF16_8 : opsF16[8]? = some qF16_8 := by kernel_rfl
theorem lF16_8 : (LF16 8).setIfInBounds 8 true = LF16 9 := by kernel_rfl
theorem tF16_8 {Q : Exit → Act → World → Prop} {S : World → Prop} {a : Act} {w : World} (v : Value) (hQ : ∀ c a w, Q (.panic c) (a.put (some 72) v) w → Q (.panic c) a w) (hy : YieldsIf Tryz.prog opsF16 S qF16_8 v a) (hS : S w)
    (h : wpAnyH Tryz.prog .any opsF16 Q S 53 (LF16 9) (a.put (some 72) v) w) : wpAnyH Tryz.prog .any opsF16 Q S 54 (LF16 8) a w :=
  wpAnyH_take (i := 8) hF16_8 noselF16 (by kernel_rfl) (by kernel_rfl) hQ hy hS (lF16_8.symm ▸ h)
def qF16_10 : Oper := { dst := some 74, op := Op.load 32 (Operand.tmp 8), type := 32, pos := "laws.go:303", after := #[{ on := 7, ground := Ground.guard }], guard := some (7, true) }
theorem hF16_10 : opsF16[10]? = some qF16_10 := by kernel_rfl
theorem lF16_9 : (LF16 9).setIfInBounds 10 true = LF16 10 := by kernel_rfl
theorem tF16_9 {Q : Exit → Act → World → Prop} {S : World → Prop} {a : Act} {w : World} (v : Value) (hQ : ∀ c a w, Q (.panic c) (a.put (some 74) v) w → Q (.panic c) a w) (hy : YieldsIf Tryz.prog opsF16 S qF16_10 v a) (hS : S w)
    (h : wpAnyH Tryz.prog .any opsF16 Q S 52 (LF16 10) (a.put (some 74) v) w) : wpAnyH Tryz.prog .any opsF16 Q S 53 (LF16 9) a w :=
  wpAnyH_take (i := 10) hF16_10 noselF16 (by kernel_rfl) (by kernel_rfl) hQ hy hS (lF16_9.symm ▸ h)
def qF16_9 : Oper := { dst := some 73, op := Op.call { callee := Callee.value (Operand.func 16), args := #[Operand.tmp 72], argTypes := #[32] }, type := 4, pos := "laws.go:303", after := #[{ on := 8, ground := Ground.data }, { on := 7, ground := Ground.chain }, { on := 7, ground := Ground.guard }], guard := some (7, true) }
theorem hF16_9 : opsF16[9]? = some qF16_9 := by kernel_rfl
theorem lF16_10 : (LF16 10).setIfInBounds 9 true = LF16 11 := by kernel_rfl
set_option maxRecDepth 100000 in
theorem cF16_10 {Q : Exit → Act → World → Prop} {S : World → Prop} {a : Act} {w : World}
    (h : ∀ K' : Act → World → Prop, Shut (∀ a w, S w → (S w → wpAnyH Tryz.prog .any opsF16 Q S 51 (LF16 11) a w) → K' a w) → if Region.wanted qF16_9 (yielded opsF16 a.tmps) = true then Oper.wp Tryz.prog qF16_9 a w K' Q else K' (a.put (some 73) undef) w) :
    wpAnyH Tryz.prog .any opsF16 Q S 52 (LF16 10) a w :=
  wpAnyH_ready (rs := [9]) (by kernel_rfl) (by simp) (AllReadyH.cons hF16_9 (fun K' hK => h K' (lF16_10 ▸ hK)) AllReadyH.nil)
theorem tF16_10 {Q : Exit → Act → World → Prop} {S : World → Prop} {a : Act} {w : World} (v : Value) (hQ : ∀ c a w, Q (.panic c) (a.put (some 73) v) w → Q (.panic c) a w) (hy : YieldsIf Tryz.prog opsF16 S qF16_9 v a) (hS : S w)
    (h : wpAnyH Tryz.prog .any opsF16 Q S 51 (LF16 11) (a.put (some 73) v) w) : wpAnyH Tryz.prog .any opsF16 Q S 52 (LF16 10) a w :=
  wpAnyH_take (i := 9) hF16_9 noselF16 (by kernel_rfl) (by kernel_rfl) hQ hy hS (lF16_10.symm ▸ h)
def qF16_11 : Oper := { dst := some 75, op := Op.call { callee := Callee.value (Operand.func 17), args := #[Operand.tmp 74], argTypes := #[32] }, type := 4, pos := "laws.go:303", after := #[{ on := 10, ground := Ground.data }, { on := 9, ground := Ground.chain }, { on := 7, ground := Ground.guard }], guard := some (7, true) }
theorem hF16_11 : opsF16[11]? = some qF16_11 := by kernel_rfl
theorem lF16_11 : (LF16 11).setIfInBounds 11 true = LF16 12 := by kernel_rfl
set_option maxRecDepth 100000 in
theorem cF16_11 {Q : Exit → Act → World → Prop} {S : World → Prop} {a : Act} {w : World}
    (h : ∀ K' : Act → World → Prop, Shut (∀ a w, S w → (S w → wpAnyH Tryz.prog .any opsF16 Q S 50 (LF16 12) a w) → K' a w) → if Region.wanted qF16_11 (yielded opsF16 a.tmps) = true then Oper.wp Tryz.prog qF16_11 a w K' Q else K' (a.put (some 75) undef) w) :
    wpAnyH Tryz.prog .any opsF16 Q S 51 (LF16 11) a w :=
  wpAnyH_ready (rs := [11]) (by kernel_rfl) (by simp) (AllReadyH.cons hF16_11 (fun K' hK => h K' (lF16_11 ▸ hK)) AllReadyH.nil)
theorem tF16_11 {Q : Exit → Act → World → Prop} {S : World → Prop} {a : Act} {w : World} (v : Value) (hQ : ∀ c a w, Q (.panic c) (a.put (some 75) v) w → Q (.panic c) a w) (hy : YieldsIf Tryz.prog opsF16 S qF16_11 v a) (hS : S w)
    (h : wpAnyH Tryz.prog .any opsF16 Q S 50 (LF16 12) (a.put (some 75) v) w) : wpAnyH Tryz.prog .any opsF16 Q S 51 (LF16 11) a w :=
  wpAnyH_take (i := 11) hF16_11 noselF16 (by kernel_rfl) (by kernel_rfl) hQ hy hS (lF16_11.symm ▸ h)
def qF16_12 : Oper := { dst := some 76, op := Op.binOp BinOp.eql 4 (Operand.tmp 73) (Operand.tmp 75) 4, type := 4, pos := "laws.go:303", after := #[{ on := 9, ground := Ground.data }, { on := 11, ground := Ground.data }, { on := 7, ground := Ground.guard }], guard := some (7, true) }
theorem hF16_12 : opsF16[12]? = some qF16_12 := by kernel_rfl
theorem lF16_12 : (LF16 12).setIfInBounds 12 true = LF16 13 := by kernel_rfl
theorem tF16_12 {Q : Exit → Act → World → Prop} {S : World → Prop} {a : Act} {w : World} (v : Value) (hQ : ∀ c a w, Q (.panic c) (a.put (some 76) v) w → Q (.panic c) a w) (hy : YieldsIf Tryz.prog opsF16 S qF16_12 v a) (hS : S w)
    (h : wpAnyH Tryz.prog .any opsF16 Q S 49 (LF16 13) (a.put (some 76) v) w) : wpAnyH Tryz.prog .any opsF16 Q S 50 (LF16 12) a w :=
  wpAnyH_take (i := 12) hF16_12 noselF16 (by kernel_rfl) (by kernel_rfl) hQ hy hS (lF16_12.symm ▸ h)
def qF16_13 : Oper := { dst := some 77, op := Op.pick (Operand.tmp 71) (Operand.tmp 76) (Operand.const (Value.bool false)), type := 4, pos := "laws.go:303", after := #[{ on := 7, ground := Ground.data }, { on := 12, ground := Ground.data }], guard := none }
theorem hF16_13 : opsF16[13]? = some qF16_13 := by kernel_rfl
theorem lF16_13 : (LF16 13).setIfInBounds 13 true = LF16 14 := by kernel_rfl
theorem tF16_13 {Q : Exit → Act → World → Prop} {S : World → Prop} {a : Act} {w : World} (v : Value) (hQ : ∀ c a w, Q (.panic c) (a.put (some 77) v) w → Q (.panic c) a w) (hy : YieldsIf Tryz.prog opsF16 S qF16_13 v a) (hS : S w)
    (h : wpAnyH Tryz.prog .any opsF16 Q S 48 (LF16 14) (a.put (some 77) v) w) : wpAnyH Tryz.prog .any opsF16 Q S 49 (LF16 13) a w :=
  wpAnyH_take (i := 13) hF16_13 noselF16 (by kernel_rfl) (by kernel_rfl) hQ hy hS (lF16_13.symm ▸ h)
def qF16_14 : Oper := { dst := some 78, op := Op.move (Operand.tmp 77), type := 4, pos := "laws.go:303", after := #[{ on := 13, ground := Ground.data }, { on := 11, ground := Ground.chain }], guard := none }
theorem hF16_14 : opsF16[14]? = some qF16_14 := by kernel_rfl
theorem lF16_14 : (LF16 14).setIfInBounds 14 true = LF16 15 := by kernel_rfl
theorem tF16_14 {Q : Exit → Act → World → Prop} {S : World → Prop} {a : Act} {w : World} (v : Value) (hQ : ∀ c a w, Q (.panic c) (a.put (some 78) v) w → Q (.panic c) a w) (hy : YieldsIf Tryz.prog opsF16 S qF16_14 v a) (hS : S w)
    (h : wpAnyH Tryz.prog .any opsF16 Q S 47 (LF16 15) (a.put (some 78) v) w) : wpAnyH Tryz.prog .any opsF16 Q S 48 (LF16 14) a w :=
  wpAnyH_take (i := 14) hF16_14 noselF16 (by kernel_rfl) (by kernel_rfl) hQ hy hS (lF16_14.symm ▸ h)
def qF16_15 : Oper := { dst := some 79, op := Op.load 32 (Operand.tmp 8), type := 32, pos := "laws.go:303", after := #[{ on := 14, ground := Ground.guard }], guard := some (14, true) }
theorem hF16_15 : opsF16[15]? = some qF16_15 := by kernel_rfl
theorem lF16_15 : (LF16 15).setIfInBounds 15 true = LF16 16 := by kernel_rfl
theorem tF16_15 {Q : Exit → Act → World → Prop} {S : World → Prop} {a : Act} {w : World} (v : Value) (hQ : ∀ c a w, Q (.panic c) (a.put (some 79) v) w → Q (.panic c) a w) (hy : YieldsIf Tryz.prog opsF16 S qF16_15 v a) (hS : S w)
    (h : wpAnyH Tryz.prog .any opsF16 Q S 46 (LF16 16) (a.put (some 79) v) w) : wpAnyH Tryz.prog .any opsF16 Q S 47 (LF16 15) a w :=
  wpAnyH_take (i := 15) hF16_15 noselF16 (by kernel_rfl) (by kernel_rfl) hQ hy hS (lF16_15.symm ▸ h)
def qF16_17 : Oper := { dst := some 81, op := Op.load 32 (Operand.tmp 8), type := 32, pos := "laws.go:303", after := #[{ on := 14, ground := Ground.guard }], guard := some (14, true) }
theorem hF16_17 : opsF16[17]? = some qF16_17 := by kernel_rfl
theorem lF16_16 : (LF16 16).setIfInBounds 17 true = LF16 17 := by kernel_rfl
theorem tF16_16 {Q : Exit → Act → World → Prop} {S : World → Prop} {a : Act} {w : World} (v : Value) (hQ : ∀ c a w, Q (.panic c) (a.put (some 81) v) w → Q (.panic c) a w) (hy : YieldsIf Tryz.prog opsF16 S qF16_17 v a) (hS : S w)
    (h : wpAnyH Tryz.prog .any opsF16 Q S 45 (LF16 17) (a.put (some 81) v) w) : wpAnyH Tryz.prog .any opsF16 Q S 46 (LF16 16) a w :=
  wpAnyH_take (i := 17) hF16_17 noselF16 (by kernel_rfl) (by kernel_rfl) hQ hy hS (lF16_16.symm ▸ h)
def qF16_16 : Oper := { dst := some 80, op := Op.call { callee := Callee.value (Operand.func 18), args := #[Operand.tmp 79], argTypes := #[32] }, type := 9, pos := "laws.go:303", after := #[{ on := 15, ground := Ground.data }, { on := 14, ground := Ground.chain }, { on := 14, ground := Ground.guard }], guard := some (14, true) }
theorem hF16_16 : opsF16[16]? = some qF16_16 := by kernel_rfl
theorem lF16_17 : (LF16 17).setIfInBounds 16 true = LF16 18 := by kernel_rfl
set_option maxRecDepth 100000 in
theorem cF16_17 {Q : Exit → Act → World → Prop} {S : World → Prop} {a : Act} {w : World}
    (h : ∀ K' : Act → World → Prop, Shut (∀ a w, S w → (S w → wpAnyH Tryz.prog .any opsF16 Q S 44 (LF16 18) a w) → K' a w) → if Region.wanted qF16_16 (yielded opsF16 a.tmps) = true then Oper.wp Tryz.prog qF16_16 a w K' Q else K' (a.put (some 80) undef) w) :
    wpAnyH Tryz.prog .any opsF16 Q S 45 (LF16 17) a w :=
  wpAnyH_ready (rs := [16]) (by kernel_rfl) (by simp) (AllReadyH.cons hF16_16 (fun K' hK => h K' (lF16_17 ▸ hK)) AllReadyH.nil)
theorem tF16_17 {Q : Exit → Act → World → Prop} {S : World → Prop} {a : Act} {w : World} (v : Value) (hQ : ∀ c a w, Q (.panic c) (a.put (some 80) v) w → Q (.panic c) a w) (hy : YieldsIf Tryz.prog opsF16 S qF16_16 v a) (hS : S w)
    (h : wpAnyH Tryz.prog .any opsF16 Q S 44 (LF16 18) (a.put (some 80) v) w) : wpAnyH Tryz.prog .any opsF16 Q S 45 (LF16 17) a w :=
  wpAnyH_take (i := 16) hF16_16 noselF16 (by kernel_rfl) (by kernel_rfl) hQ hy hS (lF16_17.symm ▸ h)
def qF16_18 : Oper := { dst := some 82, op := Op.call { callee := Callee.value (Operand.func 19), args := #[Operand.tmp 81], argTypes := #[32] }, type := 9, pos := "laws.go:303", after := #[{ on := 17, ground := Ground.data }, { on := 16, ground := Ground.chain }, { on := 14, ground := Ground.guard }], guard := some (14, true) }
theorem hF16_18 : opsF16[18]? = some qF16_18 := by kernel_rfl
theorem lF16_18 : (LF16 18).setIfInBounds 18 true = LF16 19 := by kernel_rfl
set_option maxRecDepth 100000 in
theorem cF16_18 {Q : Exit → Act → World → Prop} {S : World → Prop} {a : Act} {w : World}
    (h : ∀ K' : Act → World → Prop, Shut (∀ a w, S w → (S w → wpAnyH Tryz.prog .any opsF16 Q S 43 (LF16 19) a w) → K' a w) → if Region.wanted qF16_18 (yielded opsF16 a.tmps) = true then Oper.wp Tryz.prog qF16_18 a w K' Q else K' (a.put (some 82) undef) w) :
    wpAnyH Tryz.prog .any opsF16 Q S 44 (LF16 18) a w :=
  wpAnyH_ready (rs := [18]) (by kernel_rfl) (by simp) (AllReadyH.cons hF16_18 (fun K' hK => h K' (lF16_18 ▸ hK)) AllReadyH.nil)
theorem tF16_18 {Q : Exit → Act → World → Prop} {S : World → Prop} {a : Act} {w : World} (v : Value) (hQ : ∀ c a w, Q (.panic c) (a.put (some 82) v) w → Q (.panic c) a w) (hy : YieldsIf Tryz.prog opsF16 S qF16_18 v a) (hS : S w)
    (h : wpAnyH Tryz.prog .any opsF16 Q S 43 (LF16 19) (a.put (some 82) v) w) : wpAnyH Tryz.prog .any opsF16 Q S 44 (LF16 18) a w :=
  wpAnyH_take (i := 18) hF16_18 noselF16 (by kernel_rfl) (by kernel_rfl) hQ hy hS (lF16_18.symm ▸ h)
def qF16_19 : Oper := { dst := some 83, op := Op.binOp BinOp.eql 9 (Operand.tmp 80) (Operand.tmp 82) 9, type := 4, pos := "laws.go:303", after := #[{ on := 16, ground := Ground.data }, { on := 18, ground := Ground.data }, { on := 14, ground := Ground.guard }], guard := some (14, true) }
theorem hF16_19 : opsF16[19]? = some qF16_19 := by kernel_rfl
theorem lF16_19 : (LF16 19).setIfInBounds 19 true = LF16 20 := by kernel_rfl
theorem tF16_19 {Q : Exit → Act → World → Prop} {S : World → Prop} {a : Act} {w : World} (v : Value) (hQ : ∀ c a w, Q (.panic c) (a.put (some 83) v) w → Q (.panic c) a w) (hy : YieldsIf Tryz.prog opsF16 S qF16_19 v a) (hS : S w)
    (h : wpAnyH Tryz.prog .any opsF16 Q S 42 (LF16 20) (a.put (some 83) v) w) : wpAnyH Tryz.prog .any opsF16 Q S 43 (LF16 19) a w :=
  wpAnyH_take (i := 19) hF16_19 noselF16 (by kernel_rfl) (by kernel_rfl) hQ hy hS (lF16_19.symm ▸ h)
def qF16_20 : Oper := { dst := some 84, op := Op.pick (Operand.tmp 78) (Operand.tmp 83) (Operand.const (Value.bool false)), type := 4, pos := "laws.go:303", after := #[{ on := 14, ground := Ground.data }, { on := 19, ground := Ground.data }], guard := none }
theorem hF16_20 : opsF16[20]? = some qF16_20 := by kernel_rfl
theorem lF16_20 : (LF16 20).setIfInBounds 20 true = LF16 21 := by kernel_rfl
theorem tF16_20 {Q : Exit → Act → World → Prop} {S : World → Prop} {a : Act} {w : World} (v : Value) (hQ : ∀ c a w, Q (.panic c) (a.put (some 84) v) w → Q (.panic c) a w) (hy : YieldsIf Tryz.prog opsF16 S qF16_20 v a) (hS : S w)
    (h : wpAnyH Tryz.prog .any opsF16 Q S 41 (LF16 21) (a.put (some 84) v) w) : wpAnyH Tryz.prog .any opsF16 Q S 42 (LF16 20) a w :=
  wpAnyH_take (i := 20) hF16_20 noselF16 (by kernel_rfl) (by kernel_rfl) hQ hy hS (lF16_20.symm ▸ h)
def qF16_21 : Oper := { dst := some 85, op := Op.move (Operand.tmp 84), type := 4, pos := "laws.go:303", after := #[{ on := 20, ground := Ground.data }, { on := 18, ground := Ground.chain }], guard := none }
theorem hF16_21 : opsF16[21]? = some qF16_21 := by kernel_rfl
theorem lF16_21 : (LF16 21).setIfInBounds 21 true = LF16 22 := by kernel_rfl
theorem tF16_21 {Q : Exit → Act → World → Prop} {S : World → Prop} {a : Act} {w : World} (v : Value) (hQ : ∀ c a w, Q (.panic c) (a.put (some 85) v) w → Q (.panic c) a w) (hy : YieldsIf Tryz.prog opsF16 S qF16_21 v a) (hS : S w)
    (h : wpAnyH Tryz.prog .any opsF16 Q S 40 (LF16 22) (a.put (some 85) v) w) : wpAnyH Tryz.prog .any opsF16 Q S 41 (LF16 21) a w :=
  wpAnyH_take (i := 21) hF16_21 noselF16 (by kernel_rfl) (by kernel_rfl) hQ hy hS (lF16_21.symm ▸ h)
def qF16_22 : Oper := { dst := some 86, op := Op.load 32 (Operand.tmp 9), type := 32, pos := "laws.go:303", after := #[{ on := 21, ground := Ground.guard }], guard := some (21, true) }
theorem hF16_22 : opsF16[22]? = some qF16_22 := by kernel_rfl
theorem lF16_22 : (LF16 22).setIfInBounds 22 true = LF16 23 := by kernel_rfl
theorem tF16_22 {Q : Exit → Act → World → Prop} {S : World → Prop} {a : Act} {w : World} (v : Value) (hQ : ∀ c a w, Q (.panic c) (a.put (some 86) v) w → Q (.panic c) a w) (hy : YieldsIf Tryz.prog opsF16 S qF16_22 v a) (hS : S w)
    (h : wpAnyH Tryz.prog .any opsF16 Q S 39 (LF16 23) (a.put (some 86) v) w) : wpAnyH Tryz.prog .any opsF16 Q S 40 (LF16 22) a w :=
  wpAnyH_take (i := 22) hF16_22 noselF16 (by kernel_rfl) (by kernel_rfl) hQ hy hS (lF16_22.symm ▸ h)
def qF16_23 : Oper := { dst := some 87, op := Op.load 32 (Operand.tmp 10), type := 32, pos := "laws.go:303", after := #[{ on := 21, ground := Ground.guard }], guard := some (21, true) }
theorem hF16_23 : opsF16[23]? = some qF16_23 := by kernel_rfl
theorem lF16_23 : (LF16 23).setIfInBounds 23 true = LF16 24 := by kernel_rfl
theorem tF16_23 {Q : Exit → Act → World → Prop} {S : World → Prop} {a : Act} {w : World} (v : Value) (hQ : ∀ c a w, Q (.panic c) (a.put (some 87) v) w → Q (.panic c) a w) (hy : YieldsIf Tryz.prog opsF16 S qF16_23 v a) (hS : S w)
    (h : wpAnyH Tryz.prog .any opsF16 Q S 38 (LF16 24) (a.put (some 87) v) w) : wpAnyH Tryz.prog .any opsF16 Q S 39 (LF16 23) a w :=
  wpAnyH_take (i := 23) hF16_23 noselF16 (by kernel_rfl) (by kernel_rfl) hQ hy hS (lF16_23.symm ▸ h)
def qF16_25 : Oper := { dst := some 89, op := Op.load 32 (Operand.tmp 9), type := 32, pos := "laws.go:303", after := #[{ on := 21, ground := Ground.guard }], guard := some (21, true) }
theorem hF16_25 : opsF16[25]? = some qF16_25 := by kernel_rfl
theorem lF16_24 : (LF16 24).setIfInBounds 25 true = LF16 25 := by kernel_rfl
theorem tF16_24 {Q : Exit → Act → World → Prop} {S : World → Prop} {a : Act} {w : World} (v : Value) (hQ : ∀ c a w, Q (.panic c) (a.put (some 89) v) w → Q (.panic c) a w) (hy : YieldsIf Tryz.prog opsF16 S qF16_25 v a) (hS : S w)
    (h : wpAnyH Tryz.prog .any opsF16 Q S 37 (LF16 25) (a.put (some 89) v) w) : wpAnyH Tryz.prog .any opsF16 Q S 38 (LF16 24) a w :=
  wpAnyH_take (i := 25) hF16_25 noselF16 (by kernel_rfl) (by kernel_rfl) hQ hy hS (lF16_24.symm ▸ h)
def qF16_26 : Oper := { dst := some 90, op := Op.load 32 (Operand.tmp 10), type := 32, pos := "laws.go:303", after := #[{ on := 21, ground := Ground.guard }], guard := some (21, true) }
theorem hF16_26 : opsF16[26]? = some qF16_26 := by kernel_rfl
theorem lF16_25 : (LF16 25).setIfInBounds 26 true = LF16 26 := by kernel_rfl
theorem tF16_25 {Q : Exit → Act → World → Prop} {S : World → Prop} {a : Act} {w : World} (v : Value) (hQ : ∀ c a w, Q (.panic c) (a.put (some 90) v) w → Q (.panic c) a w) (hy : YieldsIf Tryz.prog opsF16 S qF16_26 v a) (hS : S w)
    (h : wpAnyH Tryz.prog .any opsF16 Q S 36 (LF16 26) (a.put (some 90) v) w) : wpAnyH Tryz.prog .any opsF16 Q S 37 (LF16 25) a w :=
  wpAnyH_take (i := 26) hF16_26 noselF16 (by kernel_rfl) (by kernel_rfl) hQ hy hS (lF16_25.symm ▸ h)
def qF16_24 : Oper := { dst := some 88, op := Op.call { callee := Callee.value (Operand.func 10), args := #[Operand.tmp 86, Operand.tmp 87], argTypes := #[32, 32] }, type := 3, pos := "laws.go:303", after := #[{ on := 22, ground := Ground.data }, { on := 23, ground := Ground.data }, { on := 21, ground := Ground.chain }, { on := 21, ground := Ground.guard }], guard := some (21, true) }
theorem hF16_24 : opsF16[24]? = some qF16_24 := by kernel_rfl
theorem lF16_26 : (LF16 26).setIfInBounds 24 true = LF16 27 := by kernel_rfl
set_option maxRecDepth 100000 in
theorem cF16_26 {Q : Exit → Act → World → Prop} {S : World → Prop} {a : Act} {w : World}
    (h : ∀ K' : Act → World → Prop, Shut (∀ a w, S w → (S w → wpAnyH Tryz.prog .any opsF16 Q S 35 (LF16 27) a w) → K' a w) → if Region.wanted qF16_24 (yielded opsF16 a.tmps) = true then Oper.wp Tryz.prog qF16_24 a w K' Q else K' (a.put (some 88) undef) w) :
    wpAnyH Tryz.prog .any opsF16 Q S 36 (LF16 26) a w :=
  wpAnyH_ready (rs := [24]) (by kernel_rfl) (by simp) (AllReadyH.cons hF16_24 (fun K' hK => h K' (lF16_26 ▸ hK)) AllReadyH.nil)
theorem tF16_26 {Q : Exit → Act → World → Prop} {S : World → Prop} {a : Act} {w : World} (v : Value) (hQ : ∀ c a w, Q (.panic c) (a.put (some 88) v) w → Q (.panic c) a w) (hy : YieldsIf Tryz.prog opsF16 S qF16_24 v a) (hS : S w)
    (h : wpAnyH Tryz.prog .any opsF16 Q S 35 (LF16 27) (a.put (some 88) v) w) : wpAnyH Tryz.prog .any opsF16 Q S 36 (LF16 26) a w :=
  wpAnyH_take (i := 24) hF16_24 noselF16 (by kernel_rfl) (by kernel_rfl) hQ hy hS (lF16_26.symm ▸ h)
def qF16_27 : Oper := { dst := some 91, op := Op.call { callee := Callee.value (Operand.func 20), args := #[Operand.tmp 89, Operand.tmp 90], argTypes := #[32, 32] }, type := 3, pos := "laws.go:303", after := #[{ on := 25, ground := Ground.data }, { on := 26, ground := Ground.data }, { on := 24, ground := Ground.chain }, { on := 21, ground := Ground.guard }], guard := some (21, true) }
theorem hF16_27 : opsF16[27]? = some qF16_27 := by kernel_rfl
theorem lF16_27 : (LF16 27).setIfInBounds 27 true = LF16 28 := by kernel_rfl
set_option maxRecDepth 100000 in
theorem cF16_27 {Q : Exit → Act → World → Prop} {S : World → Prop} {a : Act} {w : World}
    (h : ∀ K' : Act → World → Prop, Shut (∀ a w, S w → (S w → wpAnyH Tryz.prog .any opsF16 Q S 34 (LF16 28) a w) → K' a w) → if Region.wanted qF16_27 (yielded opsF16 a.tmps) = true then Oper.wp Tryz.prog qF16_27 a w K' Q else K' (a.put (some 91) undef) w) :
    wpAnyH Tryz.prog .any opsF16 Q S 35 (LF16 27) a w :=
  wpAnyH_ready (rs := [27]) (by kernel_rfl) (by simp) (AllReadyH.cons hF16_27 (fun K' hK => h K' (lF16_27 ▸ hK)) AllReadyH.nil)
theorem tF16_27 {Q : Exit → Act → World → Prop} {S : World → Prop} {a : Act} {w : World} (v : Value) (hQ : ∀ c a w, Q (.panic c) (a.put (some 91) v) w → Q (.panic c) a w) (hy : YieldsIf Tryz.prog opsF16 S qF16_27 v a) (hS : S w)
    (h : wpAnyH Tryz.prog .any opsF16 Q S 34 (LF16 28) (a.put (some 91) v) w) : wpAnyH Tryz.prog .any opsF16 Q S 35 (LF16 27) a w :=
  wpAnyH_take (i := 27) hF16_27 noselF16 (by kernel_rfl) (by kernel_rfl) hQ hy hS (lF16_27.symm ▸ h)
def qF16_28 : Oper := { dst := some 92, op := Op.binOp BinOp.eql 3 (Operand.tmp 88) (Operand.tmp 91) 3, type := 4, pos := "laws.go:303", after := #[{ on := 24, ground := Ground.data }, { on := 27, ground := Ground.data }, { on := 21, ground := Ground.guard }], guard := some (21, true) }
theorem hF16_28 : opsF16[28]? = some qF16_28 := by kernel_rfl
theorem lF16_28 : (LF16 28).setIfInBounds 28 true = LF16 29 := by kernel_rfl
theorem tF16_28 {Q : Exit → Act → World → Prop} {S : World → Prop} {a : Act} {w : World} (v : Value) (hQ : ∀ c a w, Q (.panic c) (a.put (some 92) v) w → Q (.panic c) a w) (hy : YieldsIf Tryz.prog opsF16 S qF16_28 v a) (hS : S w)
    (h : wpAnyH Tryz.prog .any opsF16 Q S 33 (LF16 29) (a.put (some 92) v) w) : wpAnyH Tryz.prog .any opsF16 Q S 34 (LF16 28) a w :=
  wpAnyH_take (i := 28) hF16_28 noselF16 (by kernel_rfl) (by kernel_rfl) hQ hy hS (lF16_28.symm ▸ h)
def qF16_29 : Oper := { dst := some 93, op := Op.pick (Operand.tmp 85) (Operand.tmp 92) (Operand.const (Value.bool false)), type := 4, pos := "laws.go:303", after := #[{ on := 21, ground := Ground.data }, { on := 28, ground := Ground.data }], guard := none }
theorem hF16_29 : opsF16[29]? = some qF16_29 := by kernel_rfl
theorem lF16_29 : (LF16 29).setIfInBounds 29 true = LF16 30 := by kernel_rfl
theorem tF16_29 {Q : Exit → Act → World → Prop} {S : World → Prop} {a : Act} {w : World} (v : Value) (hQ : ∀ c a w, Q (.panic c) (a.put (some 93) v) w → Q (.panic c) a w) (hy : YieldsIf Tryz.prog opsF16 S qF16_29 v a) (hS : S w)
    (h : wpAnyH Tryz.prog .any opsF16 Q S 32 (LF16 30) (a.put (some 93) v) w) : wpAnyH Tryz.prog .any opsF16 Q S 33 (LF16 29) a w :=
  wpAnyH_take (i := 29) hF16_29 noselF16 (by kernel_rfl) (by kernel_rfl) hQ hy hS (lF16_29.symm ▸ h)
def qF16_30 : Oper := { dst := some 94, op := Op.move (Operand.tmp 93), type := 4, pos := "laws.go:303", after := #[{ on := 29, ground := Ground.data }, { on := 27, ground := Ground.chain }], guard := none }
theorem hF16_30 : opsF16[30]? = some qF16_30 := by kernel_rfl
theorem lF16_30 : (LF16 30).setIfInBounds 30 true = LF16 31 := by kernel_rfl
theorem tF16_30 {Q : Exit → Act → World → Prop} {S : World → Prop} {a : Act} {w : World} (v : Value) (hQ : ∀ c a w, Q (.panic c) (a.put (some 94) v) w → Q (.panic c) a w) (hy : YieldsIf Tryz.prog opsF16 S qF16_30 v a) (hS : S w)
    (h : wpAnyH Tryz.prog .any opsF16 Q S 31 (LF16 31) (a.put (some 94) v) w) : wpAnyH Tryz.prog .any opsF16 Q S 32 (LF16 30) a w :=
  wpAnyH_take (i := 30) hF16_30 noselF16 (by kernel_rfl) (by kernel_rfl) hQ hy hS (lF16_30.symm ▸ h)
def qF16_31 : Oper := { dst := some 95, op := Op.load 32 (Operand.tmp 9), type := 32, pos := "laws.go:303", after := #[{ on := 30, ground := Ground.guard }], guard := some (30, true) }
theorem hF16_31 : opsF16[31]? = some qF16_31 := by kernel_rfl
theorem lF16_31 : (LF16 31).setIfInBounds 31 true = LF16 32 := by kernel_rfl
theorem tF16_31 {Q : Exit → Act → World → Prop} {S : World → Prop} {a : Act} {w : World} (v : Value) (hQ : ∀ c a w, Q (.panic c) (a.put (some 95) v) w → Q (.panic c) a w) (hy : YieldsIf Tryz.prog opsF16 S qF16_31 v a) (hS : S w)
    (h : wpAnyH Tryz.prog .any opsF16 Q S 30 (LF16 32) (a.put (some 95) v) w) : wpAnyH Tryz.prog .any opsF16 Q S 31 (LF16 31) a w :=
  wpAnyH_take (i := 31) hF16_31 noselF16 (by kernel_rfl) (by kernel_rfl) hQ hy hS (lF16_31.symm ▸ h)
def qF16_32 : Oper := { dst := some 96, op := Op.load 32 (Operand.tmp 10), type := 32, pos := "laws.go:303", after := #[{ on := 30, ground := Ground.guard }], guard := some (30, true) }
theorem hF16_32 : opsF16[32]? = some qF16_32 := by kernel_rfl
theorem lF16_32 : (LF16 32).setIfInBounds 32 true = LF16 33 := by kernel_rfl
theorem tF16_32 {Q : Exit → Act → World → Prop} {S : World → Prop} {a : Act} {w : World} (v : Value) (hQ : ∀ c a w, Q (.panic c) (a.put (some 96) v) w → Q (.panic c) a w) (hy : YieldsIf Tryz.prog opsF16 S qF16_32 v a) (hS : S w)
    (h : wpAnyH Tryz.prog .any opsF16 Q S 29 (LF16 33) (a.put (some 96) v) w) : wpAnyH Tryz.prog .any opsF16 Q S 30 (LF16 32) a w :=
  wpAnyH_take (i := 32) hF16_32 noselF16 (by kernel_rfl) (by kernel_rfl) hQ hy hS (lF16_32.symm ▸ h)
def qF16_34 : Oper := { dst := some 98, op := Op.load 32 (Operand.tmp 10), type := 32, pos := "laws.go:303", after := #[{ on := 30, ground := Ground.guard }], guard := some (30, true) }
theorem hF16_34 : opsF16[34]? = some qF16_34 := by kernel_rfl
theorem lF16_33 : (LF16 33).setIfInBounds 34 true = LF16 34 := by kernel_rfl
theorem tF16_33 {Q : Exit → Act → World → Prop} {S : World → Prop} {a : Act} {w : World} (v : Value) (hQ : ∀ c a w, Q (.panic c) (a.put (some 98) v) w → Q (.panic c) a w) (hy : YieldsIf Tryz.prog opsF16 S qF16_34 v a) (hS : S w)
    (h : wpAnyH Tryz.prog .any opsF16 Q S 28 (LF16 34) (a.put (some 98) v) w) : wpAnyH Tryz.prog .any opsF16 Q S 29 (LF16 33) a w :=
  wpAnyH_take (i := 34) hF16_34 noselF16 (by kernel_rfl) (by kernel_rfl) hQ hy hS (lF16_33.symm ▸ h)
def qF16_35 : Oper := { dst := some 99, op := Op.load 32 (Operand.tmp 9), type := 32, pos := "laws.go:303", after := #[{ on := 30, ground := Ground.guard }], guard := some (30, true) }
theorem hF16_35 : opsF16[35]? = some qF16_35 := by kernel_rfl
theorem lF16_34 : (LF16 34).setIfInBounds 35 true = LF16 35 := by kernel_rfl
theorem tF16_34 {Q : Exit → Act → World → Prop} {S : World → Prop} {a : Act} {w : World} (v : Value) (hQ : ∀ c a w, Q (.panic c) (a.put (some 99) v) w → Q (.panic c) a w) (hy : YieldsIf Tryz.prog opsF16 S qF16_35 v a) (hS : S w)
    (h : wpAnyH Tryz.prog .any opsF16 Q S 27 (LF16 35) (a.put (some 99) v) w) : wpAnyH Tryz.prog .any opsF16 Q S 28 (LF16 34) a w :=
  wpAnyH_take (i := 35) hF16_35 noselF16 (by kernel_rfl) (by kernel_rfl) hQ hy hS (lF16_34.symm ▸ h)
def qF16_33 : Oper := { dst := some 97, op := Op.call { callee := Callee.value (Operand.func 10), args := #[Operand.tmp 95, Operand.tmp 96], argTypes := #[32, 32] }, type := 3, pos := "laws.go:303", after := #[{ on := 31, ground := Ground.data }, { on := 32, ground := Ground.data }, { on := 30, ground := Ground.chain }, { on := 30, ground := Ground.guard }], guard := some (30, true) }
theorem hF16_33 : opsF16[33]? = some qF16_33 := by kernel_rfl
theorem lF16_35 : (LF16 35).setIfInBounds 33 true = LF16 36 := by kernel_rfl
set_option maxRecDepth 100000 in
theorem cF16_35 {Q : Exit → Act → World → Prop} {S : World → Prop} {a : Act} {w : World}
    (h : ∀ K' : Act → World → Prop, Shut (∀ a w, S w → (S w → wpAnyH Tryz.prog .any opsF16 Q S 26 (LF16 36) a w) → K' a w) → if Region.wanted qF16_33 (yielded opsF16 a.tmps) = true then Oper.wp Tryz.prog qF16_33 a w K' Q else K' (a.put (some 97) undef) w) :
    wpAnyH Tryz.prog .any opsF16 Q S 27 (LF16 35) a w :=
  wpAnyH_ready (rs := [33]) (by kernel_rfl) (by simp) (AllReadyH.cons hF16_33 (fun K' hK => h K' (lF16_35 ▸ hK)) AllReadyH.nil)
theorem tF16_35 {Q : Exit → Act → World → Prop} {S : World → Prop} {a : Act} {w : World} (v : Value) (hQ : ∀ c a w, Q (.panic c) (a.put (some 97) v) w → Q (.panic c) a w) (hy : YieldsIf Tryz.prog opsF16 S qF16_33 v a) (hS : S w)
    (h : wpAnyH Tryz.prog .any opsF16 Q S 26 (LF16 36) (a.put (some 97) v) w) : wpAnyH Tryz.prog .any opsF16 Q S 27 (LF16 35) a w :=
  wpAnyH_take (i := 33) hF16_33 noselF16 (by kernel_rfl) (by kernel_rfl) hQ hy hS (lF16_35.symm ▸ h)
def qF16_36 : Oper := { dst := some 100, op := Op.call { callee := Callee.value (Operand.func 10), args := #[Operand.tmp 98, Operand.tmp 99], argTypes := #[32, 32] }, type := 3, pos := "laws.go:303", after := #[{ on := 34, ground := Ground.data }, { on := 35, ground := Ground.data }, { on := 33, ground := Ground.chain }, { on := 30, ground := Ground.guard }], guard := some (30, true) }
theorem hF16_36 : opsF16[36]? = some qF16_36 := by kernel_rfl
theorem lF16_36 : (LF16 36).setIfInBounds 36 true = LF16 37 := by kernel_rfl
set_option maxRecDepth 100000 in
theorem cF16_36 {Q : Exit → Act → World → Prop} {S : World → Prop} {a : Act} {w : World}
    (h : ∀ K' : Act → World → Prop, Shut (∀ a w, S w → (S w → wpAnyH Tryz.prog .any opsF16 Q S 25 (LF16 37) a w) → K' a w) → if Region.wanted qF16_36 (yielded opsF16 a.tmps) = true then Oper.wp Tryz.prog qF16_36 a w K' Q else K' (a.put (some 100) undef) w) :
    wpAnyH Tryz.prog .any opsF16 Q S 26 (LF16 36) a w :=
  wpAnyH_ready (rs := [36]) (by kernel_rfl) (by simp) (AllReadyH.cons hF16_36 (fun K' hK => h K' (lF16_36 ▸ hK)) AllReadyH.nil)
theorem tF16_36 {Q : Exit → Act → World → Prop} {S : World → Prop} {a : Act} {w : World} (v : Value) (hQ : ∀ c a w, Q (.panic c) (a.put (some 100) v) w → Q (.panic c) a w) (hy : YieldsIf Tryz.prog opsF16 S qF16_36 v a) (hS : S w)
    (h : wpAnyH Tryz.prog .any opsF16 Q S 25 (LF16 37) (a.put (some 100) v) w) : wpAnyH Tryz.prog .any opsF16 Q S 26 (LF16 36) a w :=
  wpAnyH_take (i := 36) hF16_36 noselF16 (by kernel_rfl) (by kernel_rfl) hQ hy hS (lF16_36.symm ▸ h)
def qF16_37 : Oper := { dst := some 101, op := Op.unOp UnOp.neg 3 (Operand.tmp 100), type := 3, pos := "laws.go:303", after := #[{ on := 36, ground := Ground.data }, { on := 30, ground := Ground.guard }], guard := some (30, true) }
theorem hF16_37 : opsF16[37]? = some qF16_37 := by kernel_rfl
theorem lF16_37 : (LF16 37).setIfInBounds 37 true = LF16 38 := by kernel_rfl
theorem tF16_37 {Q : Exit → Act → World → Prop} {S : World → Prop} {a : Act} {w : World} (v : Value) (hQ : ∀ c a w, Q (.panic c) (a.put (some 101) v) w → Q (.panic c) a w) (hy : YieldsIf Tryz.prog opsF16 S qF16_37 v a) (hS : S w)
    (h : wpAnyH Tryz.prog .any opsF16 Q S 24 (LF16 38) (a.put (some 101) v) w) : wpAnyH Tryz.prog .any opsF16 Q S 25 (LF16 37) a w :=
  wpAnyH_take (i := 37) hF16_37 noselF16 (by kernel_rfl) (by kernel_rfl) hQ hy hS (lF16_37.symm ▸ h)
def qF16_38 : Oper := { dst := some 102, op := Op.binOp BinOp.eql 3 (Operand.tmp 97) (Operand.tmp 101) 3, type := 4, pos := "laws.go:303", after := #[{ on := 33, ground := Ground.data }, { on := 37, ground := Ground.data }, { on := 30, ground := Ground.guard }], guard := some (30, true) }
theorem hF16_38 : opsF16[38]? = some qF16_38 := by kernel_rfl
theorem lF16_38 : (LF16 38).setIfInBounds 38 true = LF16 39 := by kernel_rfl
theorem tF16_38 {Q : Exit → Act → World → Prop} {S : World → Prop} {a : Act} {w : World} (v : Value) (hQ : ∀ c a w, Q (.panic c) (a.put (some 102) v) w → Q (.panic c) a w) (hy : YieldsIf Tryz.prog opsF16 S qF16_38 v a) (hS : S w)
    (h : wpAnyH Tryz.prog .any opsF16 Q S 23 (LF16 39) (a.put (some 102) v) w) : wpAnyH Tryz.prog .any opsF16 Q S 24 (LF16 38) a w :=
  wpAnyH_take (i := 38) hF16_38 noselF16 (by kernel_rfl) (by kernel_rfl) hQ hy hS (lF16_38.symm ▸ h)
def qF16_39 : Oper := { dst := some 103, op := Op.pick (Operand.tmp 94) (Operand.tmp 102) (Operand.const (Value.bool false)), type := 4, pos := "laws.go:303", after := #[{ on := 30, ground := Ground.data }, { on := 38, ground := Ground.data }], guard := none }
theorem hF16_39 : opsF16[39]? = some qF16_39 := by kernel_rfl
theorem lF16_39 : (LF16 39).setIfInBounds 39 true = LF16 40 := by kernel_rfl
theorem tF16_39 {Q : Exit → Act → World → Prop} {S : World → Prop} {a : Act} {w : World} (v : Value) (hQ : ∀ c a w, Q (.panic c) (a.put (some 103) v) w → Q (.panic c) a w) (hy : YieldsIf Tryz.prog opsF16 S qF16_39 v a) (hS : S w)
    (h : wpAnyH Tryz.prog .any opsF16 Q S 22 (LF16 40) (a.put (some 103) v) w) : wpAnyH Tryz.prog .any opsF16 Q S 23 (LF16 39) a w :=
  wpAnyH_take (i := 39) hF16_39 noselF16 (by kernel_rfl) (by kernel_rfl) hQ hy hS (lF16_39.symm ▸ h)
def qF16_40 : Oper := { dst := some 104, op := Op.move (Operand.tmp 103), type := 4, pos := "laws.go:303", after := #[{ on := 39, ground := Ground.data }, { on := 36, ground := Ground.chain }], guard := none }
theorem hF16_40 : opsF16[40]? = some qF16_40 := by kernel_rfl
theorem lF16_40 : (LF16 40).setIfInBounds 40 true = LF16 41 := by kernel_rfl
theorem tF16_40 {Q : Exit → Act → World → Prop} {S : World → Prop} {a : Act} {w : World} (v : Value) (hQ : ∀ c a w, Q (.panic c) (a.put (some 104) v) w → Q (.panic c) a w) (hy : YieldsIf Tryz.prog opsF16 S qF16_40 v a) (hS : S w)
    (h : wpAnyH Tryz.prog .any opsF16 Q S 21 (LF16 41) (a.put (some 104) v) w) : wpAnyH Tryz.prog .any opsF16 Q S 22 (LF16 40) a w :=
  wpAnyH_take (i := 40) hF16_40 noselF16 (by kernel_rfl) (by kernel_rfl) hQ hy hS (lF16_40.symm ▸ h)
def qF16_41 : Oper := { dst := some 105, op := Op.move (Operand.tmp 11), type := 24, pos := "laws.go:303", after := #[{ on := 40, ground := Ground.guard }], guard := some (40, true) }
theorem hF16_41 : opsF16[41]? = some qF16_41 := by kernel_rfl
theorem lF16_41 : (LF16 41).setIfInBounds 41 true = LF16 42 := by kernel_rfl
theorem tF16_41 {Q : Exit → Act → World → Prop} {S : World → Prop} {a : Act} {w : World} (v : Value) (hQ : ∀ c a w, Q (.panic c) (a.put (some 105) v) w → Q (.panic c) a w) (hy : YieldsIf Tryz.prog opsF16 S qF16_41 v a) (hS : S w)
    (h : wpAnyH Tryz.prog .any opsF16 Q S 20 (LF16 42) (a.put (some 105) v) w) : wpAnyH Tryz.prog .any opsF16 Q S 21 (LF16 41) a w :=
  wpAnyH_take (i := 41) hF16_41 noselF16 (by kernel_rfl) (by kernel_rfl) hQ hy hS (lF16_41.symm ▸ h)
def qF16_42 : Oper := { dst := some 106, op := Op.move (Operand.tmp 12), type := 3, pos := "laws.go:303", after := #[{ on := 40, ground := Ground.guard }], guard := some (40, true) }
theorem hF16_42 : opsF16[42]? = some qF16_42 := by kernel_rfl
theorem lF16_42 : (LF16 42).setIfInBounds 42 true = LF16 43 := by kernel_rfl
theorem tF16_42 {Q : Exit → Act → World → Prop} {S : World → Prop} {a : Act} {w : World} (v : Value) (hQ : ∀ c a w, Q (.panic c) (a.put (some 106) v) w → Q (.panic c) a w) (hy : YieldsIf Tryz.prog opsF16 S qF16_42 v a) (hS : S w)
    (h : wpAnyH Tryz.prog .any opsF16 Q S 19 (LF16 43) (a.put (some 106) v) w) : wpAnyH Tryz.prog .any opsF16 Q S 20 (LF16 42) a w :=
  wpAnyH_take (i := 42) hF16_42 noselF16 (by kernel_rfl) (by kernel_rfl) hQ hy hS (lF16_42.symm ▸ h)
def qF16_44 : Oper := { dst := some 108, op := Op.move (Operand.tmp 11), type := 24, pos := "laws.go:303", after := #[{ on := 40, ground := Ground.guard }], guard := some (40, true) }
theorem hF16_44 : opsF16[44]? = some qF16_44 := by kernel_rfl
theorem lF16_43 : (LF16 43).setIfInBounds 44 true = LF16 44 := by kernel_rfl
theorem tF16_43 {Q : Exit → Act → World → Prop} {S : World → Prop} {a : Act} {w : World} (v : Value) (hQ : ∀ c a w, Q (.panic c) (a.put (some 108) v) w → Q (.panic c) a w) (hy : YieldsIf Tryz.prog opsF16 S qF16_44 v a) (hS : S w)
    (h : wpAnyH Tryz.prog .any opsF16 Q S 18 (LF16 44) (a.put (some 108) v) w) : wpAnyH Tryz.prog .any opsF16 Q S 19 (LF16 43) a w :=
  wpAnyH_take (i := 44) hF16_44 noselF16 (by kernel_rfl) (by kernel_rfl) hQ hy hS (lF16_43.symm ▸ h)
def qF16_45 : Oper := { dst := some 109, op := Op.move (Operand.tmp 12), type := 3, pos := "laws.go:303", after := #[{ on := 40, ground := Ground.guard }], guard := some (40, true) }
theorem hF16_45 : opsF16[45]? = some qF16_45 := by kernel_rfl
theorem lF16_44 : (LF16 44).setIfInBounds 45 true = LF16 45 := by kernel_rfl
theorem tF16_44 {Q : Exit → Act → World → Prop} {S : World → Prop} {a : Act} {w : World} (v : Value) (hQ : ∀ c a w, Q (.panic c) (a.put (some 109) v) w → Q (.panic c) a w) (hy : YieldsIf Tryz.prog opsF16 S qF16_45 v a) (hS : S w)
    (h : wpAnyH Tryz.prog .any opsF16 Q S 17 (LF16 45) (a.put (some 109) v) w) : wpAnyH Tryz.prog .any opsF16 Q S 18 (LF16 44) a w :=
  wpAnyH_take (i := 45) hF16_45 noselF16 (by kernel_rfl) (by kernel_rfl) hQ hy hS (lF16_44.symm ▸ h)
def qF16_43 : Oper := { dst := some 107, op := Op.call { callee := Callee.value (Operand.func 21), args := #[Operand.tmp 105, Operand.tmp 106], argTypes := #[24, 3] }, type := 24, pos := "laws.go:303", after := #[{ on := 41, ground := Ground.data }, { on := 42, ground := Ground.data }, { on := 40, ground := Ground.chain }, { on := 40, ground := Ground.guard }], guard := some (40, true) }
theorem hF16_43 : opsF16[43]? = some qF16_43 := by kernel_rfl
theorem lF16_45 : (LF16 45).setIfInBounds 43 true = LF16 46 := by kernel_rfl
set_option maxRecDepth 100000 in
theorem cF16_45 {Q : Exit → Act → World → Prop} {S : World → Prop} {a : Act} {w : World}
    (h : ∀ K' : Act → World → Prop, Shut (∀ a w, S w → (S w → wpAnyH Tryz.prog .any opsF16 Q S 16 (LF16 46) a w) → K' a w) → if Region.wanted qF16_43 (yielded opsF16 a.tmps) = true then Oper.wp Tryz.prog qF16_43 a w K' Q else K' (a.put (some 107) undef) w) :
    wpAnyH Tryz.prog .any opsF16 Q S 17 (LF16 45) a w :=
  wpAnyH_ready (rs := [43]) (by kernel_rfl) (by simp) (AllReadyH.cons hF16_43 (fun K' hK => h K' (lF16_45 ▸ hK)) AllReadyH.nil)
theorem tF16_45 {Q : Exit → Act → World → Prop} {S : World → Prop} {a : Act} {w : World} (v : Value) (hQ : ∀ c a w, Q (.panic c) (a.put (some 107) v) w → Q (.panic c) a w) (hy : YieldsIf Tryz.prog opsF16 S qF16_43 v a) (hS : S w)
    (h : wpAnyH Tryz.prog .any opsF16 Q S 16 (LF16 46) (a.put (some 107) v) w) : wpAnyH Tryz.prog .any opsF16 Q S 17 (LF16 45) a w :=
  wpAnyH_take (i := 43) hF16_43 noselF16 (by kernel_rfl) (by kernel_rfl) hQ hy hS (lF16_45.symm ▸ h)
def qF16_46 : Oper := { dst := some 110, op := Op.call { callee := Callee.value (Operand.func 22), args := #[Operand.tmp 108, Operand.tmp 109], argTypes := #[24, 3] }, type := 24, pos := "laws.go:303", after := #[{ on := 44, ground := Ground.data }, { on := 45, ground := Ground.data }, { on := 43, ground := Ground.chain }, { on := 40, ground := Ground.guard }], guard := some (40, true) }
theorem hF16_46 : opsF16[46]? = some qF16_46 := by kernel_rfl
theorem lF16_46 : (LF16 46).setIfInBounds 46 true = LF16 47 := by kernel_rfl
set_option maxRecDepth 100000 in
theorem cF16_46 {Q : Exit → Act → World → Prop} {S : World → Prop} {a : Act} {w : World}
    (h : ∀ K' : Act → World → Prop, Shut (∀ a w, S w → (S w → wpAnyH Tryz.prog .any opsF16 Q S 15 (LF16 47) a w) → K' a w) → if Region.wanted qF16_46 (yielded opsF16 a.tmps) = true then Oper.wp Tryz.prog qF16_46 a w K' Q else K' (a.put (some 110) undef) w) :
    wpAnyH Tryz.prog .any opsF16 Q S 16 (LF16 46) a w :=
  wpAnyH_ready (rs := [46]) (by kernel_rfl) (by simp) (AllReadyH.cons hF16_46 (fun K' hK => h K' (lF16_46 ▸ hK)) AllReadyH.nil)
theorem tF16_46 {Q : Exit → Act → World → Prop} {S : World → Prop} {a : Act} {w : World} (v : Value) (hQ : ∀ c a w, Q (.panic c) (a.put (some 110) v) w → Q (.panic c) a w) (hy : YieldsIf Tryz.prog opsF16 S qF16_46 v a) (hS : S w)
    (h : wpAnyH Tryz.prog .any opsF16 Q S 15 (LF16 47) (a.put (some 110) v) w) : wpAnyH Tryz.prog .any opsF16 Q S 16 (LF16 46) a w :=
  wpAnyH_take (i := 46) hF16_46 noselF16 (by kernel_rfl) (by kernel_rfl) hQ hy hS (lF16_46.symm ▸ h)
def qF16_47 : Oper := { dst := some 111, op := Op.call { callee := Callee.value (Operand.func 7), args := #[Operand.tmp 107, Operand.tmp 110], argTypes := #[24, 24] }, type := 4, pos := "laws.go:303", after := #[{ on := 43, ground := Ground.data }, { on := 46, ground := Ground.data }, { on := 46, ground := Ground.chain }, { on := 40, ground := Ground.guard }], guard := some (40, true) }
theorem hF16_47 : opsF16[47]? = some qF16_47 := by kernel_rfl
theorem lF16_47 : (LF16 47).setIfInBounds 47 true = LF16 48 := by kernel_rfl
set_option maxRecDepth 100000 in
theorem cF16_47 {Q : Exit → Act → World → Prop} {S : World → Prop} {a : Act} {w : World}
    (h : ∀ K' : Act → World → Prop, Shut (∀ a w, S w → (S w → wpAnyH Tryz.prog .any opsF16 Q S 14 (LF16 48) a w) → K' a w) → if Region.wanted qF16_47 (yielded opsF16 a.tmps) = true then Oper.wp Tryz.prog qF16_47 a w K' Q else K' (a.put (some 111) undef) w) :
    wpAnyH Tryz.prog .any opsF16 Q S 15 (LF16 47) a w :=
  wpAnyH_ready (rs := [47]) (by kernel_rfl) (by simp) (AllReadyH.cons hF16_47 (fun K' hK => h K' (lF16_47 ▸ hK)) AllReadyH.nil)
theorem tF16_47 {Q : Exit → Act → World → Prop} {S : World → Prop} {a : Act} {w : World} (v : Value) (hQ : ∀ c a w, Q (.panic c) (a.put (some 111) v) w → Q (.panic c) a w) (hy : YieldsIf Tryz.prog opsF16 S qF16_47 v a) (hS : S w)
    (h : wpAnyH Tryz.prog .any opsF16 Q S 14 (LF16 48) (a.put (some 111) v) w) : wpAnyH Tryz.prog .any opsF16 Q S 15 (LF16 47) a w :=
  wpAnyH_take (i := 47) hF16_47 noselF16 (by kernel_rfl) (by kernel_rfl) hQ hy hS (lF16_47.symm ▸ h)
def qF16_48 : Oper := { dst := some 112, op := Op.pick (Operand.tmp 104) (Operand.tmp 111) (Operand.const (Value.bool false)), type := 4, pos := "laws.go:303", after := #[{ on := 40, ground := Ground.data }, { on := 47, ground := Ground.data }], guard := none }
theorem hF16_48 : opsF16[48]? = some qF16_48 := by kernel_rfl
theorem lF16_48 : (LF16 48).setIfInBounds 48 true = LF16 49 := by kernel_rfl
theorem tF16_48 {Q : Exit → Act → World → Prop} {S : World → Prop} {a : Act} {w : World} (v : Value) (hQ : ∀ c a w, Q (.panic c) (a.put (some 112) v) w → Q (.panic c) a w) (hy : YieldsIf Tryz.prog opsF16 S qF16_48 v a) (hS : S w)
    (h : wpAnyH Tryz.prog .any opsF16 Q S 13 (LF16 49) (a.put (some 112) v) w) : wpAnyH Tryz.prog .any opsF16 Q S 14 (LF16 48) a w :=
  wpAnyH_take (i := 48) hF16_48 noselF16 (by kernel_rfl) (by kernel_rfl) hQ hy hS (lF16_48.symm ▸ h)
def qF16_49 : Oper := { dst := some 113, op := Op.move (Operand.tmp 112), type := 4, pos := "laws.go:303", after := #[{ on := 48, ground := Ground.data }, { on := 47, ground := Ground.chain }], guard := none }
theorem hF16_49 : opsF16[49]? = some qF16_49 := by kernel_rfl
theorem lF16_49 : (LF16 49).setIfInBounds 49 true = LF16 50 := by kernel_rfl
theorem tF16_49 {Q : Exit → Act → World → Prop} {S : World → Prop} {a : Act} {w : World} (v : Value) (hQ : ∀ c a w, Q (.panic c) (a.put (some 113) v) w → Q (.panic c) a w) (hy : YieldsIf Tryz.prog opsF16 S qF16_49 v a) (hS : S w)
    (h : wpAnyH Tryz.prog .any opsF16 Q S 12 (LF16 50) (a.put (some 113) v) w) : wpAnyH Tryz.prog .any opsF16 Q S 13 (LF16 49) a w :=
  wpAnyH_take (i := 49) hF16_49 noselF16 (by kernel_rfl) (by kernel_rfl) hQ hy hS (lF16_49.symm ▸ h)
def qF16_50 : Oper := { dst := some 114, op := Op.move (Operand.tmp 3), type := 24, pos := "laws.go:303", after := #[{ on := 49, ground := Ground.guard }], guard := some (49, true) }
theorem hF16_50 : opsF16[50]? = some qF16_50 := by kernel_rfl
theorem lF16_50 : (LF16 50).setIfInBounds 50 true = LF16 51 := by kernel_rfl
theorem tF16_50 {Q : Exit → Act → World → Prop} {S : World → Prop} {a : Act} {w : World} (v : Value) (hQ : ∀ c a w, Q (.panic c) (a.put (some 114) v) w → Q (.panic c) a w) (hy : YieldsIf Tryz.prog opsF16 S qF16_50 v a) (hS : S w)
    (h : wpAnyH Tryz.prog .any opsF16 Q S 11 (LF16 51) (a.put (some 114) v) w) : wpAnyH Tryz.prog .any opsF16 Q S 12 (LF16 50) a w :=
  wpAnyH_take (i := 50) hF16_50 noselF16 (by kernel_rfl) (by kernel_rfl) hQ hy hS (lF16_50.symm ▸ h)
def qF16_52 : Oper := { dst := some 116, op := Op.move (Operand.tmp 3), type := 24, pos := "laws.go:303", after := #[{ on := 49, ground := Ground.guard }], guard := some (49, true) }
theorem hF16_52 : opsF16[52]? = some qF16_52 := by kernel_rfl
theorem lF16_51 : (LF16 51).setIfInBounds 52 true = LF16 52 := by kernel_rfl
theorem tF16_51 {Q : Exit → Act → World → Prop} {S : World → Prop} {a : Act} {w : World} (v : Value) (hQ : ∀ c a w, Q (.panic c) (a.put (some 116) v) w → Q (.panic c) a w) (hy : YieldsIf Tryz.prog opsF16 S qF16_52 v a) (hS : S w)
    (h : wpAnyH Tryz.prog .any opsF16 Q S 10 (LF16 52) (a.put (some 116) v) w) : wpAnyH Tryz.prog .any opsF16 Q S 11 (LF16 51) a w :=
  wpAnyH_take (i := 52) hF16_52 noselF16 (by kernel_rfl) (by kernel_rfl) hQ hy hS (lF16_51.symm ▸ h)
def qF16_51 : Oper := { dst := some 115, op := Op.call { callee := Callee.value (Operand.func 24), args := #[Operand.tmp 114], argTypes := #[24] }, type := 44, pos := "laws.go:303", after := #[{ on := 50, ground := Ground.data }, { on := 49, ground := Ground.chain }, { on := 49, ground := Ground.guard }], guard := some (49, true) }
theorem hF16_51 : opsF16[51]? = some qF16_51 := by kernel_rfl
theorem lF16_52 : (LF16 52).setIfInBounds 51 true = LF16 53 := by kernel_rfl
set_option maxRecDepth 100000 in
theorem cF16_52 {Q : Exit → Act → World → Prop} {S : World → Prop} {a : Act} {w : World}
    (h : ∀ K' : Act → World → Prop, Shut (∀ a w, S w → (S w → wpAnyH Tryz.prog .any opsF16 Q S 9 (LF16 53) a w) → K' a w) → if Region.wanted qF16_51 (yielded opsF16 a.tmps) = true then Oper.wp Tryz.prog qF16_51 a w K' Q else K' (a.put (some 115) undef) w) :
    wpAnyH Tryz.prog .any opsF16 Q S 10 (LF16 52) a w :=
  wpAnyH_ready (rs := [51]) (by kernel_rfl) (by simp) (AllReadyH.cons hF16_51 (fun K' hK => h K' (lF16_52 ▸ hK)) AllReadyH.nil)
theorem tF16_52 {Q : Exit → Act → World → Prop} {S : World → Prop} {a : Act} {w : World} (v : Value) (hQ : ∀ c a w, Q (.panic c) (a.put (some 115) v) w → Q (.panic c) a w) (hy : YieldsIf Tryz.prog opsF16 S qF16_51 v a) (hS : S w)
    (h : wpAnyH Tryz.prog .any opsF16 Q S 9 (LF16 53) (a.put (some 115) v) w) : wpAnyH Tryz.prog .any opsF16 Q S 10 (LF16 52) a w :=
  wpAnyH_take (i := 51) hF16_51 noselF16 (by kernel_rfl) (by kernel_rfl) hQ hy hS (lF16_52.symm ▸ h)
def qF16_53 : Oper := { dst := some 117, op := Op.call { callee := Callee.value (Operand.func 25), args := #[Operand.tmp 116], argTypes := #[24] }, type := 44, pos := "laws.go:303", after := #[{ on := 52, ground := Ground.data }, { on := 51, ground := Ground.chain }, { on := 49, ground := Ground.guard }], guard := some (49, true) }
theorem hF16_53 : opsF16[53]? = some qF16_53 := by kernel_rfl
theorem lF16_53 : (LF16 53).setIfInBounds 53 true = LF16 54 := by kernel_rfl
set_option maxRecDepth 100000 in
theorem cF16_53 {Q : Exit → Act → World → Prop} {S : World → Prop} {a : Act} {w : World}
    (h : ∀ K' : Act → World → Prop, Shut (∀ a w, S w → (S w → wpAnyH Tryz.prog .any opsF16 Q S 8 (LF16 54) a w) → K' a w) → if Region.wanted qF16_53 (yielded opsF16 a.tmps) = true then Oper.wp Tryz.prog qF16_53 a w K' Q else K' (a.put (some 117) undef) w) :
    wpAnyH Tryz.prog .any opsF16 Q S 9 (LF16 53) a w :=
  wpAnyH_ready (rs := [53]) (by kernel_rfl) (by simp) (AllReadyH.cons hF16_53 (fun K' hK => h K' (lF16_53 ▸ hK)) AllReadyH.nil)
theorem tF16_53 {Q : Exit → Act → World → Prop} {S : World → Prop} {a : Act} {w : World} (v : Value) (hQ : ∀ c a w, Q (.panic c) (a.put (some 117) v) w → Q (.panic c) a w) (hy : YieldsIf Tryz.prog opsF16 S qF16_53 v a) (hS : S w)
    (h : wpAnyH Tryz.prog .any opsF16 Q S 8 (LF16 54) (a.put (some 117) v) w) : wpAnyH Tryz.prog .any opsF16 Q S 9 (LF16 53) a w :=
  wpAnyH_take (i := 53) hF16_53 noselF16 (by kernel_rfl) (by kernel_rfl) hQ hy hS (lF16_53.symm ▸ h)
def qF16_54 : Oper := { dst := some 118, op := Op.call { callee := Callee.value (Operand.func 23), args := #[Operand.tmp 115, Operand.tmp 117], argTypes := #[44, 44] }, type := 4, pos := "laws.go:303", after := #[{ on := 51, ground := Ground.data }, { on := 53, ground := Ground.data }, { on := 53, ground := Ground.chain }, { on := 49, ground := Ground.guard }], guard := some (49, true) }
theorem hF16_54 : opsF16[54]? = some qF16_54 := by kernel_rfl
theorem lF16_54 : (LF16 54).setIfInBounds 54 true = LF16 55 := by kernel_rfl
set_option maxRecDepth 100000 in
theorem cF16_54 {Q : Exit → Act → World → Prop} {S : World → Prop} {a : Act} {w : World}
    (h : ∀ K' : Act → World → Prop, Shut (∀ a w, S w → (S w → wpAnyH Tryz.prog .any opsF16 Q S 7 (LF16 55) a w) → K' a w) → if Region.wanted qF16_54 (yielded opsF16 a.tmps) = true then Oper.wp Tryz.prog qF16_54 a w K' Q else K' (a.put (some 118) undef) w) :
    wpAnyH Tryz.prog .any opsF16 Q S 8 (LF16 54) a w :=
  wpAnyH_ready (rs := [54]) (by kernel_rfl) (by simp) (AllReadyH.cons hF16_54 (fun K' hK => h K' (lF16_54 ▸ hK)) AllReadyH.nil)
theorem tF16_54 {Q : Exit → Act → World → Prop} {S : World → Prop} {a : Act} {w : World} (v : Value) (hQ : ∀ c a w, Q (.panic c) (a.put (some 118) v) w → Q (.panic c) a w) (hy : YieldsIf Tryz.prog opsF16 S qF16_54 v a) (hS : S w)
    (h : wpAnyH Tryz.prog .any opsF16 Q S 7 (LF16 55) (a.put (some 118) v) w) : wpAnyH Tryz.prog .any opsF16 Q S 8 (LF16 54) a w :=
  wpAnyH_take (i := 54) hF16_54 noselF16 (by kernel_rfl) (by kernel_rfl) hQ hy hS (lF16_54.symm ▸ h)
def qF16_55 : Oper := { dst := some 119, op := Op.pick (Operand.tmp 113) (Operand.tmp 118) (Operand.const (Value.bool false)), type := 4, pos := "laws.go:303", after := #[{ on := 49, ground := Ground.data }, { on := 54, ground := Ground.data }], guard := none }
theorem hF16_55 : opsF16[55]? = some qF16_55 := by kernel_rfl
theorem lF16_55 : (LF16 55).setIfInBounds 55 true = LF16 56 := by kernel_rfl
theorem tF16_55 {Q : Exit → Act → World → Prop} {S : World → Prop} {a : Act} {w : World} (v : Value) (hQ : ∀ c a w, Q (.panic c) (a.put (some 119) v) w → Q (.panic c) a w) (hy : YieldsIf Tryz.prog opsF16 S qF16_55 v a) (hS : S w)
    (h : wpAnyH Tryz.prog .any opsF16 Q S 6 (LF16 56) (a.put (some 119) v) w) : wpAnyH Tryz.prog .any opsF16 Q S 7 (LF16 55) a w :=
  wpAnyH_take (i := 55) hF16_55 noselF16 (by kernel_rfl) (by kernel_rfl) hQ hy hS (lF16_55.symm ▸ h)
def qF16_56 : Oper := { dst := some 120, op := Op.move (Operand.tmp 119), type := 4, pos := "laws.go:303", after := #[{ on := 55, ground := Ground.data }, { on := 54, ground := Ground.chain }], guard := none }
theorem hF16_56 : opsF16[56]? = some qF16_56 := by kernel_rfl
theorem lF16_56 : (LF16 56).setIfInBounds 56 true = LF16 57 := by kernel_rfl
theorem tF16_56 {Q : Exit → Act → World → Prop} {S : World → Prop} {a : Act} {w : World} (v : Value) (hQ : ∀ c a w, Q (.panic c) (a.put (some 120) v) w → Q (.panic c) a w) (hy : YieldsIf Tryz.prog opsF16 S qF16_56 v a) (hS : S w)
    (h : wpAnyH Tryz.prog .any opsF16 Q S 5 (LF16 57) (a.put (some 120) v) w) : wpAnyH Tryz.prog .any opsF16 Q S 6 (LF16 56) a w :=
  wpAnyH_take (i := 56) hF16_56 noselF16 (by kernel_rfl) (by kernel_rfl) hQ hy hS (lF16_56.symm ▸ h)
def qF16_57 : Oper := { dst := some 121, op := Op.build 32 #[(2, Operand.const (Value.int IntKind.i64 7))], type := 32, pos := "laws.go:303", after := #[{ on := 56, ground := Ground.guard }], guard := some (56, true) }
theorem hF16_57 : opsF16[57]? = some qF16_57 := by kernel_rfl
theorem lF16_57 : (LF16 57).setIfInBounds 57 true = LF16 58 := by kernel_rfl
theorem tF16_57 {Q : Exit → Act → World → Prop} {S : World → Prop} {a : Act} {w : World} (v : Value) (hQ : ∀ c a w, Q (.panic c) (a.put (some 121) v) w → Q (.panic c) a w) (hy : YieldsIf Tryz.prog opsF16 S qF16_57 v a) (hS : S w)
    (h : wpAnyH Tryz.prog .any opsF16 Q S 4 (LF16 58) (a.put (some 121) v) w) : wpAnyH Tryz.prog .any opsF16 Q S 5 (LF16 57) a w :=
  wpAnyH_take (i := 57) hF16_57 noselF16 (by kernel_rfl) (by kernel_rfl) hQ hy hS (lF16_57.symm ▸ h)
def qF16_58 : Oper := { dst := some 122, op := Op.call { callee := Callee.value (Operand.func 18), args := #[Operand.tmp 121], argTypes := #[32] }, type := 9, pos := "laws.go:303", after := #[{ on := 57, ground := Ground.data }, { on := 56, ground := Ground.chain }, { on := 56, ground := Ground.guard }], guard := some (56, true) }
theorem hF16_58 : opsF16[58]? = some qF16_58 := by kernel_rfl
theorem lF16_58 : (LF16 58).setIfInBounds 58 true = LF16 59 := by kernel_rfl
set_option maxRecDepth 100000 in
theorem cF16_58 {Q : Exit → Act → World → Prop} {S : World → Prop} {a : Act} {w : World}
    (h : ∀ K' : Act → World → Prop, Shut (∀ a w, S w → (S w → wpAnyH Tryz.prog .any opsF16 Q S 3 (LF16 59) a w) → K' a w) → if Region.wanted qF16_58 (yielded opsF16 a.tmps) = true then Oper.wp Tryz.prog qF16_58 a w K' Q else K' (a.put (some 122) undef) w) :
    wpAnyH Tryz.prog .any opsF16 Q S 4 (LF16 58) a w :=
  wpAnyH_ready (rs := [58]) (by kernel_rfl) (by simp) (AllReadyH.cons hF16_58 (fun K' hK => h K' (lF16_58 ▸ hK)) AllReadyH.nil)
theorem tF16_58 {Q : Exit → Act → World → Prop} {S : World → Prop} {a : Act} {w : World} (v : Value) (hQ : ∀ c a w, Q (.panic c) (a.put (some 122) v) w → Q (.panic c) a w) (hy : YieldsIf Tryz.prog opsF16 S qF16_58 v a) (hS : S w)
    (h : wpAnyH Tryz.prog .any opsF16 Q S 3 (LF16 59) (a.put (some 122) v) w) : wpAnyH Tryz.prog .any opsF16 Q S 4 (LF16 58) a w :=
  wpAnyH_take (i := 58) hF16_58 noselF16 (by kernel_rfl) (by kernel_rfl) hQ hy hS (lF16_58.symm ▸ h)
def qF16_59 : Oper := { dst := some 123, op := Op.binOp BinOp.eql 9 (Operand.tmp 122) (Operand.const (Value.string { data := #[48, 58, 48, 46, 48, 58, 55, 58, 48] })) 9, type := 4, pos := "laws.go:303", after := #[{ on := 58, ground := Ground.data }, { on := 56, ground := Ground.guard }], guard := some (56, true) }
theorem hF16_59 : opsF16[59]? = some qF16_59 := by kernel_rfl
theorem lF16_59 : (LF16 59).setIfInBounds 59 true = LF16 60 := by kernel_rfl
theorem tF16_59 {Q : Exit → Act → World → Prop} {S : World → Prop} {a : Act} {w : World} (v : Value) (hQ : ∀ c a w, Q (.panic c) (a.put (some 123) v) w → Q (.panic c) a w) (hy : YieldsIf Tryz.prog opsF16 S qF16_59 v a) (hS : S w)
    (h : wpAnyH Tryz.prog .any opsF16 Q S 2 (LF16 60) (a.put (some 123) v) w) : wpAnyH Tryz.prog .any opsF16 Q S 3 (LF16 59) a w :=
  wpAnyH_take (i := 59) hF16_59 noselF16 (by kernel_rfl) (by kernel_rfl) hQ hy hS (lF16_59.symm ▸ h)
def qF16_60 : Oper := { dst := some 124, op := Op.pick (Operand.tmp 120) (Operand.tmp 123) (Operand.const (Value.bool false)), type := 4, pos := "laws.go:303", after := #[{ on := 56, ground := Ground.data }, { on := 59, ground := Ground.data }], guard := none }
theorem hF16_60 : opsF16[60]? = some qF16_60 := by kernel_rfl
theorem lF16_60 : (LF16 60).setIfInBounds 60 true = LF16 61 := by kernel_rfl
theorem tF16_60 {Q : Exit → Act → World → Prop} {S : World → Prop} {a : Act} {w : World} (v : Value) (hQ : ∀ c a w, Q (.panic c) (a.put (some 124) v) w → Q (.panic c) a w) (hy : YieldsIf Tryz.prog opsF16 S qF16_60 v a) (hS : S w)
    (h : wpAnyH Tryz.prog .any opsF16 Q S 1 (LF16 61) (a.put (some 124) v) w) : wpAnyH Tryz.prog .any opsF16 Q S 2 (LF16 60) a w :=
  wpAnyH_take (i := 60) hF16_60 noselF16 (by kernel_rfl) (by kernel_rfl) hQ hy hS (lF16_60.symm ▸ h)
def qF16_61 : Oper := { dst := some 2, op := Op.assign (Operand.tmp 124), type := 4, pos := "laws.go:303", after := #[{ on := 60, ground := Ground.data }, { on := 58, ground := Ground.chain }, { on := 0, ground := Ground.phase }, { on := 1, ground := Ground.phase }, { on := 2, ground := Ground.phase }, { on := 3, ground := Ground.phase }, { on := 4, ground := Ground.phase }, { on := 5, ground := Ground.phase }, { on := 6, ground := Ground.phase }, { on := 7, ground := Ground.phase }, { on := 8, ground := Ground.phase }, { on := 9, ground := Ground.phase }, { on := 10, ground := Ground.phase }, { on := 11, ground := Ground.phase }, { on := 12, ground := Ground.phase }, { on := 13, ground := Ground.phase }, { on := 14, ground := Ground.phase }, { on := 15, ground := Ground.phase }, { on := 16, ground := Ground.phase }, { on := 17, ground := Ground.phase }, { on := 18, ground := Ground.phase }, { on := 19, ground := Ground.phase }, { on := 20, ground := Ground.phase }, { on := 21, ground := Ground.phase }, { on := 22, ground := Ground.phase }, { on := 23, ground := Ground.phase }, { on := 24, ground := Ground.phase }, { on := 25, ground := Ground.phase }, { on := 26, ground := Ground.phase }, { on := 27, ground := Ground.phase }, { on := 28, ground := Ground.phase }, { on := 29, ground := Ground.phase }, { on := 30, ground := Ground.phase }, { on := 31, ground := Ground.phase }, { on := 32, ground := Ground.phase }, { on := 33, ground := Ground.phase }, { on := 34, ground := Ground.phase }, { on := 35, ground := Ground.phase }, { on := 36, ground := Ground.phase }, { on := 37, ground := Ground.phase }, { on := 38, ground := Ground.phase }, { on := 39, ground := Ground.phase }, { on := 40, ground := Ground.phase }, { on := 41, ground := Ground.phase }, { on := 42, ground := Ground.phase }, { on := 43, ground := Ground.phase }, { on := 44, ground := Ground.phase }, { on := 45, ground := Ground.phase }, { on := 46, ground := Ground.phase }, { on := 47, ground := Ground.phase }, { on := 48, ground := Ground.phase }, { on := 49, ground := Ground.phase }, { on := 50, ground := Ground.phase }, { on := 51, ground := Ground.phase }, { on := 52, ground := Ground.phase }, { on := 53, ground := Ground.phase }, { on := 54, ground := Ground.phase }, { on := 55, ground := Ground.phase }, { on := 56, ground := Ground.phase }, { on := 57, ground := Ground.phase }, { on := 58, ground := Ground.phase }, { on := 59, ground := Ground.phase }, { on := 60, ground := Ground.phase }], guard := none }
theorem hF16_61 : opsF16[61]? = some qF16_61 := by kernel_rfl
theorem lF16_61 : (LF16 61).setIfInBounds 61 true = LF16 62 := by kernel_rfl
theorem tF16_61 {Q : Exit → Act → World → Prop} {S : World → Prop} {a : Act} {w : World} (v : Value) (hQ : ∀ c a w, Q (.panic c) (a.put (some 2) v) w → Q (.panic c) a w) (hy : YieldsIf Tryz.prog opsF16 S qF16_61 v a) (hS : S w)
    (h : wpAnyH Tryz.prog .any opsF16 Q S 0 (LF16 62) (a.put (some 2) v) w) : wpAnyH Tryz.prog .any opsF16 Q S 1 (LF16 61) a w :=
  wpAnyH_take (i := 61) hF16_61 noselF16 (by kernel_rfl) (by kernel_rfl) hQ hy hS (lF16_61.symm ▸ h)
end Go.Proofs.YtdmbkjebagnloaaGreatDoor.hexes
