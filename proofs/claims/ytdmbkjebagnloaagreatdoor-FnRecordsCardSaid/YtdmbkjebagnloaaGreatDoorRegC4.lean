/-
  A statement of spec.CountsOk: its operations, and a theorem a step.
-/
import Derived.Test.YtdmbkjebagnloaaGreatDoorProg
import Derived.WalkKit
import Derived.Deep.RegionHeld3
namespace Go.Proofs.YtdmbkjebagnloaaGreatDoor.hexes
open Go.RowKit

def findC4 (n : Nat) : Code → Option Code
  | .region id ops d => if id = n then some (.region id ops d) else none
  | .seq a b => match findC4 n a with
    | some c => some c
    | none => findC4 n b
  | .block _ c => findC4 n c
  | .scope c => findC4 n c
  | .loop c => findC4 n c
  | .cond _ a b => match findC4 n a with
    | some c => some c
    | none => findC4 n b
  | _ => none
def opsOfC4 : Option Code → Array Oper
  | some (.region _ ops _) => ops
  | _ => #[]
noncomputable def opsC4 : Array Oper := opsOfC4 (Tryz.f65.body.bind (findC4 4))
def schC4 : List Nat := [0, 1, 2, 3, 4, 5, 6, 7, 8, 9, 10, 11, 12, 13, 14, 15, 16, 17, 18, 19, 20, 21, 22, 23, 24, 25, 26, 27, 28, 29, 30, 31, 32, 33, 34, 35, 36, 37, 38, 39, 40, 41, 42]
def LC4 (k : Nat) : Array Bool := ((List.range 43).map fun i => (schC4.take k).contains i).toArray
theorem noselC4 : Region.noSelect opsC4 = true := by kernel_rfl
def qC4_0 : Oper := { dst := some 10, op := Op.move (Operand.tmp 0), type := 44, pos := "l04_counts.go:7", after := #[], guard := none }
theorem hC4_0 : opsC4[0]? = some qC4_0 := by kernel_rfl
theorem lC4_0 : (LC4 0).setIfInBounds 0 true = LC4 1 := by kernel_rfl
theorem tC4_0 {Q : Exit → Act → World → Prop} {S : World → Prop} {a : Act} {w : World} (v : Value) (hQ : ∀ c a w, Q (.panic c) (a.put (some 10) v) w → Q (.panic c) a w) (hy : YieldsIf Tryz.prog opsC4 S qC4_0 v a) (hS : S w)
    (h : wpAnyH Tryz.prog .any opsC4 Q S 42 (LC4 1) (a.put (some 10) v) w) : wpAnyH Tryz.prog .any opsC4 Q S 43 (LC4 0) a w :=
  wpAnyH_take (i := 0) hC4_0 noselC4 (by kernel_rfl) (by kernel_rfl) hQ hy hS (lC4_0.symm ▸ h)
def qC4_1 : Oper := { dst := some 11, op := Op.move (Operand.tmp 3), type := 3, pos := "l04_counts.go:7", after := #[], guard := none }
theorem hC4_1 : opsC4[1]? = some qC4_1 := by kernel_rfl
theorem lC4_1 : (LC4 1).setIfInBounds 1 true = LC4 2 := by kernel_rfl
theorem tC4_1 {Q : Exit → Act → World → Prop} {S : World → Prop} {a : Act} {w : World} (v : Value) (hQ : ∀ c a w, Q (.panic c) (a.put (some 11) v) w → Q (.panic c) a w) (hy : YieldsIf Tryz.prog opsC4 S qC4_1 v a) (hS : S w)
    (h : wpAnyH Tryz.prog .any opsC4 Q S 41 (LC4 2) (a.put (some 11) v) w) : wpAnyH Tryz.prog .any opsC4 Q S 42 (LC4 1) a w :=
  wpAnyH_take (i := 1) hC4_1 noselC4 (by kernel_rfl) (by kernel_rfl) hQ hy hS (lC4_1.symm ▸ h)
def qC4_2 : Oper := { dst := some 12, op := Op.indexAddr 44 (Operand.tmp 10) (Operand.tmp 11), type := 0, pos := "l04_counts.go:7", after := #[{ on := 0, ground := Ground.data }, { on := 1, ground := Ground.data }], guard := none }
theorem hC4_2 : opsC4[2]? = some qC4_2 := by kernel_rfl
theorem lC4_2 : (LC4 2).setIfInBounds 2 true = LC4 3 := by kernel_rfl
theorem tC4_2 {Q : Exit → Act → World → Prop} {S : World → Prop} {a : Act} {w : World} (v : Value) (hQ : ∀ c a w, Q (.panic c) (a.put (some 12) v) w → Q (.panic c) a w) (hy : YieldsIf Tryz.prog opsC4 S qC4_2 v a) (hS : S w)
    (h : wpAnyH Tryz.prog .any opsC4 Q S 40 (LC4 3) (a.put (some 12) v) w) : wpAnyH Tryz.prog .any opsC4 Q S 41 (LC4 2) a w :=
  wpAnyH_take (i := 2) hC4_2 noselC4 (by kernel_rfl) (by kernel_rfl) hQ hy hS (lC4_2.symm ▸ h)
def qC4_3 : Oper := { dst := some 13, op := Op.fieldAddr 64 (Operand.tmp 12) 0, type := 0, pos := "l04_counts.go:7", after := #[{ on := 2, ground := Ground.data }], guard := none }
theorem hC4_3 : opsC4[3]? = some qC4_3 := by kernel_rfl
theorem lC4_3 : (LC4 3).setIfInBounds 3 true = LC4 4 := by kernel_rfl
theorem tC4_3 {Q : Exit → Act → World → Prop} {S : World → Prop} {a : Act} {w : World} (v : Value) (hQ : ∀ c a w, Q (.panic c) (a.put (some 13) v) w → Q (.panic c) a w) (hy : YieldsIf Tryz.prog opsC4 S qC4_3 v a) (hS : S w)
    (h : wpAnyH Tryz.prog .any opsC4 Q S 39 (LC4 4) (a.put (some 13) v) w) : wpAnyH Tryz.prog .any opsC4 Q S 40 (LC4 3) a w :=
  wpAnyH_take (i := 3) hC4_3 noselC4 (by kernel_rfl) (by kernel_rfl) hQ hy hS (lC4_3.symm ▸ h)
def qC4_4 : Oper := { dst := some 14, op := Op.load 30 (Operand.tmp 13), type := 30, pos := "l04_counts.go:7", after := #[{ on := 3, ground := Ground.data }], guard := none }
theorem hC4_4 : opsC4[4]? = some qC4_4 := by kernel_rfl
theorem lC4_4 : (LC4 4).setIfInBounds 4 true = LC4 5 := by kernel_rfl
theorem tC4_4 {Q : Exit → Act → World → Prop} {S : World → Prop} {a : Act} {w : World} (v : Value) (hQ : ∀ c a w, Q (.panic c) (a.put (some 14) v) w → Q (.panic c) a w) (hy : YieldsIf Tryz.prog opsC4 S qC4_4 v a) (hS : S w)
    (h : wpAnyH Tryz.prog .any opsC4 Q S 38 (LC4 5) (a.put (some 14) v) w) : wpAnyH Tryz.prog .any opsC4 Q S 39 (LC4 4) a w :=
  wpAnyH_take (i := 4) hC4_4 noselC4 (by kernel_rfl) (by kernel_rfl) hQ hy hS (lC4_4.symm ▸ h)
def qC4_5 : Oper := { dst := some 15, op := Op.call { callee := Callee.value (Operand.func 38), args := #[Operand.tmp 14], argTypes := #[30] }, type := 4, pos := "l04_counts.go:7", after := #[{ on := 4, ground := Ground.data }], guard := none }
theorem hC4_5 : opsC4[5]? = some qC4_5 := by kernel_rfl
theorem lC4_5 : (LC4 5).setIfInBounds 5 true = LC4 6 := by kernel_rfl
set_option maxRecDepth 100000 in
theorem cC4_5 {Q : Exit → Act → World → Prop} {S : World → Prop} {a : Act} {w : World}
    (h : ∀ K' : Act → World → Prop, Shut (∀ a w, S w → (S w → wpAnyH Tryz.prog .any opsC4 Q S 37 (LC4 6) a w) → K' a w) → if Region.wanted qC4_5 (yielded opsC4 a.tmps) = true then Oper.wp Tryz.prog qC4_5 a w K' Q else K' (a.put (some 15) undef) w) :
    wpAnyH Tryz.prog .any opsC4 Q S 38 (LC4 5) a w :=
  wpAnyH_ready (rs := [5]) (by kernel_rfl) (by simp) (AllReadyH.cons hC4_5 (fun K' hK => h K' (lC4_5 ▸ hK)) AllReadyH.nil)
theorem tC4_5 {Q : Exit → Act → World → Prop} {S : World → Prop} {a : Act} {w : World} (v : Value) (hQ : ∀ c a w, Q (.panic c) (a.put (some 15) v) w → Q (.panic c) a w) (hy : YieldsIf Tryz.prog opsC4 S qC4_5 v a) (hS : S w)
    (h : wpAnyH Tryz.prog .any opsC4 Q S 37 (LC4 6) (a.put (some 15) v) w) : wpAnyH Tryz.prog .any opsC4 Q S 38 (LC4 5) a w :=
  wpAnyH_take (i := 5) hC4_5 noselC4 (by kernel_rfl) (by kernel_rfl) hQ hy hS (lC4_5.symm ▸ h)
def qC4_6 : Oper := { dst := some 16, op := Op.unOp UnOp.not 4 (Operand.tmp 15), type := 4, pos := "l04_counts.go:7", after := #[{ on := 5, ground := Ground.data }], guard := none }
theorem hC4_6 : opsC4[6]? = some qC4_6 := by kernel_rfl
theorem lC4_6 : (LC4 6).setIfInBounds 6 true = LC4 7 := by kernel_rfl
theorem tC4_6 {Q : Exit → Act → World → Prop} {S : World → Prop} {a : Act} {w : World} (v : Value) (hQ : ∀ c a w, Q (.panic c) (a.put (some 16) v) w → Q (.panic c) a w) (hy : YieldsIf Tryz.prog opsC4 S qC4_6 v a) (hS : S w)
    (h : wpAnyH Tryz.prog .any opsC4 Q S 36 (LC4 7) (a.put (some 16) v) w) : wpAnyH Tryz.prog .any opsC4 Q S 37 (LC4 6) a w :=
  wpAnyH_take (i := 6) hC4_6 noselC4 (by kernel_rfl) (by kernel_rfl) hQ hy hS (lC4_6.symm ▸ h)
def qC4_7 : Oper := { dst := some 17, op := Op.move (Operand.tmp 16), type := 4, pos := "l04_counts.go:7", after := #[{ on := 6, ground := Ground.data }, { on := 5, ground := Ground.chain }], guard := none }
theorem hC4_7 : opsC4[7]? = some qC4_7 := by kernel_rfl
theorem lC4_7 : (LC4 7).setIfInBounds 7 true = LC4 8 := by kernel_rfl
theorem tC4_7 {Q : Exit → Act → World → Prop} {S : World → Prop} {a : Act} {w : World} (v : Value) (hQ : ∀ c a w, Q (.panic c) (a.put (some 17) v) w → Q (.panic c) a w) (hy : YieldsIf Tryz.prog opsC4 S qC4_7 v a) (hS : S w)
    (h : wpAnyH Tryz.prog .any opsC4 Q S 35 (LC4 8) (a.put (some 17) v) w) : wpAnyH Tryz.prog .any opsC4 Q S 36 (LC4 7) a w :=
  wpAnyH_take (i := 7) hC4_7 noselC4 (by kernel_rfl) (by kernel_rfl) hQ hy hS (lC4_7.symm ▸ h)
def qC4_8 : Oper := { dst := some 18, op := Op.move (Operand.tmp 0), type := 44, pos := "l04_counts.go:7", after := #[{ on := 7, ground := Ground.guard }], guard := some (7, false) }
theorem hC4_8 : opsC4[8]? = some qC4_8 := by kernel_rfl
theorem lC4_8 : (LC4 8).setIfInBounds 8 true = LC4 9 := by kernel_rfl
theorem tC4_8 {Q : Exit → Act → World → Prop} {S : World → Prop} {a : Act} {w : World} (v : Value) (hQ : ∀ c a w, Q (.panic c) (a.put (some 18) v) w → Q (.panic c) a w) (hy : YieldsIf Tryz.prog opsC4 S qC4_8 v a) (hS : S w)
    (h : wpAnyH Tryz.prog .any opsC4 Q S 34 (LC4 9) (a.put (some 18) v) w) : wpAnyH Tryz.prog .any opsC4 Q S 35 (LC4 8) a w :=
  wpAnyH_take (i := 8) hC4_8 noselC4 (by kernel_rfl) (by kernel_rfl) hQ hy hS (lC4_8.symm ▸ h)
def qC4_9 : Oper := { dst := some 19, op := Op.move (Operand.tmp 3), type := 3, pos := "l04_counts.go:7", after := #[{ on := 7, ground := Ground.guard }], guard := some (7, false) }
theorem hC4_9 : opsC4[9]? = some qC4_9 := by kernel_rfl
theorem lC4_9 : (LC4 9).setIfInBounds 9 true = LC4 10 := by kernel_rfl
theorem tC4_9 {Q : Exit → Act → World → Prop} {S : World → Prop} {a : Act} {w : World} (v : Value) (hQ : ∀ c a w, Q (.panic c) (a.put (some 19) v) w → Q (.panic c) a w) (hy : YieldsIf Tryz.prog opsC4 S qC4_9 v a) (hS : S w)
    (h : wpAnyH Tryz.prog .any opsC4 Q S 33 (LC4 10) (a.put (some 19) v) w) : wpAnyH Tryz.prog .any opsC4 Q S 34 (LC4 9) a w :=
  wpAnyH_take (i := 9) hC4_9 noselC4 (by kernel_rfl) (by kernel_rfl) hQ hy hS (lC4_9.symm ▸ h)
def qC4_10 : Oper := { dst := some 20, op := Op.indexAddr 44 (Operand.tmp 18) (Operand.tmp 19), type := 0, pos := "l04_counts.go:7", after := #[{ on := 8, ground := Ground.data }, { on := 9, ground := Ground.data }, { on := 7, ground := Ground.guard }], guard := some (7, false) }
theorem hC4_10 : opsC4[10]? = some qC4_10 := by kernel_rfl
theorem lC4_10 : (LC4 10).setIfInBounds 10 true = LC4 11 := by kernel_rfl
theorem tC4_10 {Q : Exit → Act → World → Prop} {S : World → Prop} {a : Act} {w : World} (v : Value) (hQ : ∀ c a w, Q (.panic c) (a.put (some 20) v) w → Q (.panic c) a w) (hy : YieldsIf Tryz.prog opsC4 S qC4_10 v a) (hS : S w)
    (h : wpAnyH Tryz.prog .any opsC4 Q S 32 (LC4 11) (a.put (some 20) v) w) : wpAnyH Tryz.prog .any opsC4 Q S 33 (LC4 10) a w :=
  wpAnyH_take (i := 10) hC4_10 noselC4 (by kernel_rfl) (by kernel_rfl) hQ hy hS (lC4_10.symm ▸ h)
def qC4_11 : Oper := { dst := some 21, op := Op.fieldAddr 64 (Operand.tmp 20) 1, type := 0, pos := "l04_counts.go:7", after := #[{ on := 10, ground := Ground.data }, { on := 7, ground := Ground.guard }], guard := some (7, false) }
theorem hC4_11 : opsC4[11]? = some qC4_11 := by kernel_rfl
theorem lC4_11 : (LC4 11).setIfInBounds 11 true = LC4 12 := by kernel_rfl
theorem tC4_11 {Q : Exit → Act → World → Prop} {S : World → Prop} {a : Act} {w : World} (v : Value) (hQ : ∀ c a w, Q (.panic c) (a.put (some 21) v) w → Q (.panic c) a w) (hy : YieldsIf Tryz.prog opsC4 S qC4_11 v a) (hS : S w)
    (h : wpAnyH Tryz.prog .any opsC4 Q S 31 (LC4 12) (a.put (some 21) v) w) : wpAnyH Tryz.prog .any opsC4 Q S 32 (LC4 11) a w :=
  wpAnyH_take (i := 11) hC4_11 noselC4 (by kernel_rfl) (by kernel_rfl) hQ hy hS (lC4_11.symm ▸ h)
def qC4_12 : Oper := { dst := some 22, op := Op.load 3 (Operand.tmp 21), type := 3, pos := "l04_counts.go:7", after := #[{ on := 11, ground := Ground.data }, { on := 7, ground := Ground.guard }], guard := some (7, false) }
theorem hC4_12 : opsC4[12]? = some qC4_12 := by kernel_rfl
theorem lC4_12 : (LC4 12).setIfInBounds 12 true = LC4 13 := by kernel_rfl
theorem tC4_12 {Q : Exit → Act → World → Prop} {S : World → Prop} {a : Act} {w : World} (v : Value) (hQ : ∀ c a w, Q (.panic c) (a.put (some 22) v) w → Q (.panic c) a w) (hy : YieldsIf Tryz.prog opsC4 S qC4_12 v a) (hS : S w)
    (h : wpAnyH Tryz.prog .any opsC4 Q S 30 (LC4 13) (a.put (some 22) v) w) : wpAnyH Tryz.prog .any opsC4 Q S 31 (LC4 12) a w :=
  wpAnyH_take (i := 12) hC4_12 noselC4 (by kernel_rfl) (by kernel_rfl) hQ hy hS (lC4_12.symm ▸ h)
def qC4_13 : Oper := { dst := some 23, op := Op.call { callee := Callee.value (Operand.func 37), args := #[Operand.tmp 22, Operand.const (Value.int IntKind.i64 (-1000000)), Operand.const (Value.int IntKind.i64 1000000)], argTypes := #[3, 3, 3] }, type := 4, pos := "l04_counts.go:7", after := #[{ on := 12, ground := Ground.data }, { on := 7, ground := Ground.chain }, { on := 7, ground := Ground.guard }], guard := some (7, false) }
theorem hC4_13 : opsC4[13]? = some qC4_13 := by kernel_rfl
theorem lC4_13 : (LC4 13).setIfInBounds 13 true = LC4 14 := by kernel_rfl
set_option maxRecDepth 100000 in
theorem cC4_13 {Q : Exit → Act → World → Prop} {S : World → Prop} {a : Act} {w : World}
    (h : ∀ K' : Act → World → Prop, Shut (∀ a w, S w → (S w → wpAnyH Tryz.prog .any opsC4 Q S 29 (LC4 14) a w) → K' a w) → if Region.wanted qC4_13 (yielded opsC4 a.tmps) = true then Oper.wp Tryz.prog qC4_13 a w K' Q else K' (a.put (some 23) undef) w) :
    wpAnyH Tryz.prog .any opsC4 Q S 30 (LC4 13) a w :=
  wpAnyH_ready (rs := [13]) (by kernel_rfl) (by simp) (AllReadyH.cons hC4_13 (fun K' hK => h K' (lC4_13 ▸ hK)) AllReadyH.nil)
theorem tC4_13 {Q : Exit → Act → World → Prop} {S : World → Prop} {a : Act} {w : World} (v : Value) (hQ : ∀ c a w, Q (.panic c) (a.put (some 23) v) w → Q (.panic c) a w) (hy : YieldsIf Tryz.prog opsC4 S qC4_13 v a) (hS : S w)
    (h : wpAnyH Tryz.prog .any opsC4 Q S 29 (LC4 14) (a.put (some 23) v) w) : wpAnyH Tryz.prog .any opsC4 Q S 30 (LC4 13) a w :=
  wpAnyH_take (i := 13) hC4_13 noselC4 (by kernel_rfl) (by kernel_rfl) hQ hy hS (lC4_13.symm ▸ h)
def qC4_14 : Oper := { dst := some 24, op := Op.unOp UnOp.not 4 (Operand.tmp 23), type := 4, pos := "l04_counts.go:7", after := #[{ on := 13, ground := Ground.data }, { on := 7, ground := Ground.guard }], guard := some (7, false) }
theorem hC4_14 : opsC4[14]? = some qC4_14 := by kernel_rfl
theorem lC4_14 : (LC4 14).setIfInBounds 14 true = LC4 15 := by kernel_rfl
theorem tC4_14 {Q : Exit → Act → World → Prop} {S : World → Prop} {a : Act} {w : World} (v : Value) (hQ : ∀ c a w, Q (.panic c) (a.put (some 24) v) w → Q (.panic c) a w) (hy : YieldsIf Tryz.prog opsC4 S qC4_14 v a) (hS : S w)
    (h : wpAnyH Tryz.prog .any opsC4 Q S 28 (LC4 15) (a.put (some 24) v) w) : wpAnyH Tryz.prog .any opsC4 Q S 29 (LC4 14) a w :=
  wpAnyH_take (i := 14) hC4_14 noselC4 (by kernel_rfl) (by kernel_rfl) hQ hy hS (lC4_14.symm ▸ h)
def qC4_15 : Oper := { dst := some 25, op := Op.pick (Operand.tmp 17) (Operand.const (Value.bool true)) (Operand.tmp 24), type := 4, pos := "l04_counts.go:7", after := #[{ on := 7, ground := Ground.data }, { on := 14, ground := Ground.data }], guard := none }
theorem hC4_15 : opsC4[15]? = some qC4_15 := by kernel_rfl
theorem lC4_15 : (LC4 15).setIfInBounds 15 true = LC4 16 := by kernel_rfl
theorem tC4_15 {Q : Exit → Act → World → Prop} {S : World → Prop} {a : Act} {w : World} (v : Value) (hQ : ∀ c a w, Q (.panic c) (a.put (some 25) v) w → Q (.panic c) a w) (hy : YieldsIf Tryz.prog opsC4 S qC4_15 v a) (hS : S w)
    (h : wpAnyH Tryz.prog .any opsC4 Q S 27 (LC4 16) (a.put (some 25) v) w) : wpAnyH Tryz.prog .any opsC4 Q S 28 (LC4 15) a w :=
  wpAnyH_take (i := 15) hC4_15 noselC4 (by kernel_rfl) (by kernel_rfl) hQ hy hS (lC4_15.symm ▸ h)
def qC4_16 : Oper := { dst := some 26, op := Op.move (Operand.tmp 25), type := 4, pos := "l04_counts.go:7", after := #[{ on := 15, ground := Ground.data }, { on := 13, ground := Ground.chain }], guard := none }
theorem hC4_16 : opsC4[16]? = some qC4_16 := by kernel_rfl
theorem lC4_16 : (LC4 16).setIfInBounds 16 true = LC4 17 := by kernel_rfl
theorem tC4_16 {Q : Exit → Act → World → Prop} {S : World → Prop} {a : Act} {w : World} (v : Value) (hQ : ∀ c a w, Q (.panic c) (a.put (some 26) v) w → Q (.panic c) a w) (hy : YieldsIf Tryz.prog opsC4 S qC4_16 v a) (hS : S w)
    (h : wpAnyH Tryz.prog .any opsC4 Q S 26 (LC4 17) (a.put (some 26) v) w) : wpAnyH Tryz.prog .any opsC4 Q S 27 (LC4 16) a w :=
  wpAnyH_take (i := 16) hC4_16 noselC4 (by kernel_rfl) (by kernel_rfl) hQ hy hS (lC4_16.symm ▸ h)
def qC4_17 : Oper := { dst := some 27, op := Op.move (Operand.tmp 0), type := 44, pos := "l04_counts.go:7", after := #[{ on := 16, ground := Ground.guard }], guard := some (16, false) }
theorem hC4_17 : opsC4[17]? = some qC4_17 := by kernel_rfl
theorem lC4_17 : (LC4 17).setIfInBounds 17 true = LC4 18 := by kernel_rfl
theorem tC4_17 {Q : Exit → Act → World → Prop} {S : World → Prop} {a : Act} {w : World} (v : Value) (hQ : ∀ c a w, Q (.panic c) (a.put (some 27) v) w → Q (.panic c) a w) (hy : YieldsIf Tryz.prog opsC4 S qC4_17 v a) (hS : S w)
    (h : wpAnyH Tryz.prog .any opsC4 Q S 25 (LC4 18) (a.put (some 27) v) w) : wpAnyH Tryz.prog .any opsC4 Q S 26 (LC4 17) a w :=
  wpAnyH_take (i := 17) hC4_17 noselC4 (by kernel_rfl) (by kernel_rfl) hQ hy hS (lC4_17.symm ▸ h)
def qC4_18 : Oper := { dst := some 28, op := Op.move (Operand.tmp 3), type := 3, pos := "l04_counts.go:7", after := #[{ on := 16, ground := Ground.guard }], guard := some (16, false) }
theorem hC4_18 : opsC4[18]? = some qC4_18 := by kernel_rfl
theorem lC4_18 : (LC4 18).setIfInBounds 18 true = LC4 19 := by kernel_rfl
theorem tC4_18 {Q : Exit → Act → World → Prop} {S : World → Prop} {a : Act} {w : World} (v : Value) (hQ : ∀ c a w, Q (.panic c) (a.put (some 28) v) w → Q (.panic c) a w) (hy : YieldsIf Tryz.prog opsC4 S qC4_18 v a) (hS : S w)
    (h : wpAnyH Tryz.prog .any opsC4 Q S 24 (LC4 19) (a.put (some 28) v) w) : wpAnyH Tryz.prog .any opsC4 Q S 25 (LC4 18) a w :=
  wpAnyH_take (i := 18) hC4_18 noselC4 (by kernel_rfl) (by kernel_rfl) hQ hy hS (lC4_18.symm ▸ h)
def qC4_19 : Oper := { dst := some 29, op := Op.indexAddr 44 (Operand.tmp 27) (Operand.tmp 28), type := 0, pos := "l04_counts.go:7", after := #[{ on := 17, ground := Ground.data }, { on := 18, ground := Ground.data }, { on := 16, ground := Ground.guard }], guard := some (16, false) }
theorem hC4_19 : opsC4[19]? = some qC4_19 := by kernel_rfl
theorem lC4_19 : (LC4 19).setIfInBounds 19 true = LC4 20 := by kernel_rfl
theorem tC4_19 {Q : Exit → Act → World → Prop} {S : World → Prop} {a : Act} {w : World} (v : Value) (hQ : ∀ c a w, Q (.panic c) (a.put (some 29) v) w → Q (.panic c) a w) (hy : YieldsIf Tryz.prog opsC4 S qC4_19 v a) (hS : S w)
    (h : wpAnyH Tryz.prog .any opsC4 Q S 23 (LC4 20) (a.put (some 29) v) w) : wpAnyH Tryz.prog .any opsC4 Q S 24 (LC4 19) a w :=
  wpAnyH_take (i := 19) hC4_19 noselC4 (by kernel_rfl) (by kernel_rfl) hQ hy hS (lC4_19.symm ▸ h)
def qC4_20 : Oper := { dst := some 30, op := Op.fieldAddr 64 (Operand.tmp 29) 1, type := 0, pos := "l04_counts.go:7", after := #[{ on := 19, ground := Ground.data }, { on := 16, ground := Ground.guard }], guard := some (16, false) }
theorem hC4_20 : opsC4[20]? = some qC4_20 := by kernel_rfl
theorem lC4_20 : (LC4 20).setIfInBounds 20 true = LC4 21 := by kernel_rfl
theorem tC4_20 {Q : Exit → Act → World → Prop} {S : World → Prop} {a : Act} {w : World} (v : Value) (hQ : ∀ c a w, Q (.panic c) (a.put (some 30) v) w → Q (.panic c) a w) (hy : YieldsIf Tryz.prog opsC4 S qC4_20 v a) (hS : S w)
    (h : wpAnyH Tryz.prog .any opsC4 Q S 22 (LC4 21) (a.put (some 30) v) w) : wpAnyH Tryz.prog .any opsC4 Q S 23 (LC4 20) a w :=
  wpAnyH_take (i := 20) hC4_20 noselC4 (by kernel_rfl) (by kernel_rfl) hQ hy hS (lC4_20.symm ▸ h)
def qC4_21 : Oper := { dst := some 31, op := Op.load 3 (Operand.tmp 30), type := 3, pos := "l04_counts.go:7", after := #[{ on := 20, ground := Ground.data }, { on := 16, ground := Ground.guard }], guard := some (16, false) }
theorem hC4_21 : opsC4[21]? = some qC4_21 := by kernel_rfl
theorem lC4_21 : (LC4 21).setIfInBounds 21 true = LC4 22 := by kernel_rfl
theorem tC4_21 {Q : Exit → Act → World → Prop} {S : World → Prop} {a : Act} {w : World} (v : Value) (hQ : ∀ c a w, Q (.panic c) (a.put (some 31) v) w → Q (.panic c) a w) (hy : YieldsIf Tryz.prog opsC4 S qC4_21 v a) (hS : S w)
    (h : wpAnyH Tryz.prog .any opsC4 Q S 21 (LC4 22) (a.put (some 31) v) w) : wpAnyH Tryz.prog .any opsC4 Q S 22 (LC4 21) a w :=
  wpAnyH_take (i := 21) hC4_21 noselC4 (by kernel_rfl) (by kernel_rfl) hQ hy hS (lC4_21.symm ▸ h)
def qC4_22 : Oper := { dst := some 32, op := Op.binOp BinOp.eql 3 (Operand.tmp 31) (Operand.const (Value.int IntKind.i64 0)) 3, type := 4, pos := "l04_counts.go:7", after := #[{ on := 21, ground := Ground.data }, { on := 16, ground := Ground.guard }], guard := some (16, false) }
theorem hC4_22 : opsC4[22]? = some qC4_22 := by kernel_rfl
theorem lC4_22 : (LC4 22).setIfInBounds 22 true = LC4 23 := by kernel_rfl
theorem tC4_22 {Q : Exit → Act → World → Prop} {S : World → Prop} {a : Act} {w : World} (v : Value) (hQ : ∀ c a w, Q (.panic c) (a.put (some 32) v) w → Q (.panic c) a w) (hy : YieldsIf Tryz.prog opsC4 S qC4_22 v a) (hS : S w)
    (h : wpAnyH Tryz.prog .any opsC4 Q S 20 (LC4 23) (a.put (some 32) v) w) : wpAnyH Tryz.prog .any opsC4 Q S 21 (LC4 22) a w :=
  wpAnyH_take (i := 22) hC4_22 noselC4 (by kernel_rfl) (by kernel_rfl) hQ hy hS (lC4_22.symm ▸ h)
def qC4_23 : Oper := { dst := some 33, op := Op.pick (Operand.tmp 26) (Operand.const (Value.bool true)) (Operand.tmp 32), type := 4, pos := "l04_counts.go:7", after := #[{ on := 16, ground := Ground.data }, { on := 22, ground := Ground.data }], guard := none }
theorem hC4_23 : opsC4[23]? = some qC4_23 := by kernel_rfl
theorem lC4_23 : (LC4 23).setIfInBounds 23 true = LC4 24 := by kernel_rfl
theorem tC4_23 {Q : Exit → Act → World → Prop} {S : World → Prop} {a : Act} {w : World} (v : Value) (hQ : ∀ c a w, Q (.panic c) (a.put (some 33) v) w → Q (.panic c) a w) (hy : YieldsIf Tryz.prog opsC4 S qC4_23 v a) (hS : S w)
    (h : wpAnyH Tryz.prog .any opsC4 Q S 19 (LC4 24) (a.put (some 33) v) w) : wpAnyH Tryz.prog .any opsC4 Q S 20 (LC4 23) a w :=
  wpAnyH_take (i := 23) hC4_23 noselC4 (by kernel_rfl) (by kernel_rfl) hQ hy hS (lC4_23.symm ▸ h)
def qC4_24 : Oper := { dst := some 34, op := Op.move (Operand.tmp 33), type := 4, pos := "l04_counts.go:7", after := #[{ on := 23, ground := Ground.data }, { on := 16, ground := Ground.chain }], guard := none }
theorem hC4_24 : opsC4[24]? = some qC4_24 := by kernel_rfl
theorem lC4_24 : (LC4 24).setIfInBounds 24 true = LC4 25 := by kernel_rfl
theorem tC4_24 {Q : Exit → Act → World → Prop} {S : World → Prop} {a : Act} {w : World} (v : Value) (hQ : ∀ c a w, Q (.panic c) (a.put (some 34) v) w → Q (.panic c) a w) (hy : YieldsIf Tryz.prog opsC4 S qC4_24 v a) (hS : S w)
    (h : wpAnyH Tryz.prog .any opsC4 Q S 18 (LC4 25) (a.put (some 34) v) w) : wpAnyH Tryz.prog .any opsC4 Q S 19 (LC4 24) a w :=
  wpAnyH_take (i := 24) hC4_24 noselC4 (by kernel_rfl) (by kernel_rfl) hQ hy hS (lC4_24.symm ▸ h)
def qC4_25 : Oper := { dst := some 35, op := Op.move (Operand.tmp 3), type := 3, pos := "l04_counts.go:7", after := #[{ on := 24, ground := Ground.guard }], guard := some (24, false) }
theorem hC4_25 : opsC4[25]? = some qC4_25 := by kernel_rfl
theorem lC4_25 : (LC4 25).setIfInBounds 25 true = LC4 26 := by kernel_rfl
theorem tC4_25 {Q : Exit → Act → World → Prop} {S : World → Prop} {a : Act} {w : World} (v : Value) (hQ : ∀ c a w, Q (.panic c) (a.put (some 35) v) w → Q (.panic c) a w) (hy : YieldsIf Tryz.prog opsC4 S qC4_25 v a) (hS : S w)
    (h : wpAnyH Tryz.prog .any opsC4 Q S 17 (LC4 26) (a.put (some 35) v) w) : wpAnyH Tryz.prog .any opsC4 Q S 18 (LC4 25) a w :=
  wpAnyH_take (i := 25) hC4_25 noselC4 (by kernel_rfl) (by kernel_rfl) hQ hy hS (lC4_25.symm ▸ h)
def qC4_26 : Oper := { dst := some 36, op := Op.binOp BinOp.gtr 3 (Operand.tmp 35) (Operand.const (Value.int IntKind.i64 0)) 3, type := 4, pos := "l04_counts.go:7", after := #[{ on := 25, ground := Ground.data }, { on := 24, ground := Ground.guard }], guard := some (24, false) }
theorem hC4_26 : opsC4[26]? = some qC4_26 := by kernel_rfl
theorem lC4_26 : (LC4 26).setIfInBounds 26 true = LC4 27 := by kernel_rfl
theorem tC4_26 {Q : Exit → Act → World → Prop} {S : World → Prop} {a : Act} {w : World} (v : Value) (hQ : ∀ c a w, Q (.panic c) (a.put (some 36) v) w → Q (.panic c) a w) (hy : YieldsIf Tryz.prog opsC4 S qC4_26 v a) (hS : S w)
    (h : wpAnyH Tryz.prog .any opsC4 Q S 16 (LC4 27) (a.put (some 36) v) w) : wpAnyH Tryz.prog .any opsC4 Q S 17 (LC4 26) a w :=
  wpAnyH_take (i := 26) hC4_26 noselC4 (by kernel_rfl) (by kernel_rfl) hQ hy hS (lC4_26.symm ▸ h)
def qC4_27 : Oper := { dst := some 37, op := Op.move (Operand.tmp 36), type := 4, pos := "l04_counts.go:7", after := #[{ on := 26, ground := Ground.data }, { on := 24, ground := Ground.chain }, { on := 24, ground := Ground.guard }], guard := some (24, false) }
theorem hC4_27 : opsC4[27]? = some qC4_27 := by kernel_rfl
theorem lC4_27 : (LC4 27).setIfInBounds 27 true = LC4 28 := by kernel_rfl
theorem tC4_27 {Q : Exit → Act → World → Prop} {S : World → Prop} {a : Act} {w : World} (v : Value) (hQ : ∀ c a w, Q (.panic c) (a.put (some 37) v) w → Q (.panic c) a w) (hy : YieldsIf Tryz.prog opsC4 S qC4_27 v a) (hS : S w)
    (h : wpAnyH Tryz.prog .any opsC4 Q S 15 (LC4 28) (a.put (some 37) v) w) : wpAnyH Tryz.prog .any opsC4 Q S 16 (LC4 27) a w :=
  wpAnyH_take (i := 27) hC4_27 noselC4 (by kernel_rfl) (by kernel_rfl) hQ hy hS (lC4_27.symm ▸ h)
def qC4_28 : Oper := { dst := some 38, op := Op.move (Operand.tmp 0), type := 44, pos := "l04_counts.go:7", after := #[{ on := 27, ground := Ground.guard }], guard := some (27, true) }
theorem hC4_28 : opsC4[28]? = some qC4_28 := by kernel_rfl
theorem lC4_28 : (LC4 28).setIfInBounds 28 true = LC4 29 := by kernel_rfl
theorem tC4_28 {Q : Exit → Act → World → Prop} {S : World → Prop} {a : Act} {w : World} (v : Value) (hQ : ∀ c a w, Q (.panic c) (a.put (some 38) v) w → Q (.panic c) a w) (hy : YieldsIf Tryz.prog opsC4 S qC4_28 v a) (hS : S w)
    (h : wpAnyH Tryz.prog .any opsC4 Q S 14 (LC4 29) (a.put (some 38) v) w) : wpAnyH Tryz.prog .any opsC4 Q S 15 (LC4 28) a w :=
  wpAnyH_take (i := 28) hC4_28 noselC4 (by kernel_rfl) (by kernel_rfl) hQ hy hS (lC4_28.symm ▸ h)
def qC4_29 : Oper := { dst := some 39, op := Op.move (Operand.tmp 3), type := 3, pos := "l04_counts.go:7", after := #[{ on := 27, ground := Ground.guard }], guard := some (27, true) }
theorem hC4_29 : opsC4[29]? = some qC4_29 := by kernel_rfl
theorem lC4_29 : (LC4 29).setIfInBounds 29 true = LC4 30 := by kernel_rfl
theorem tC4_29 {Q : Exit → Act → World → Prop} {S : World → Prop} {a : Act} {w : World} (v : Value) (hQ : ∀ c a w, Q (.panic c) (a.put (some 39) v) w → Q (.panic c) a w) (hy : YieldsIf Tryz.prog opsC4 S qC4_29 v a) (hS : S w)
    (h : wpAnyH Tryz.prog .any opsC4 Q S 13 (LC4 30) (a.put (some 39) v) w) : wpAnyH Tryz.prog .any opsC4 Q S 14 (LC4 29) a w :=
  wpAnyH_take (i := 29) hC4_29 noselC4 (by kernel_rfl) (by kernel_rfl) hQ hy hS (lC4_29.symm ▸ h)
def qC4_30 : Oper := { dst := some 40, op := Op.binOp BinOp.sub 3 (Operand.tmp 39) (Operand.const (Value.int IntKind.i64 1)) 3, type := 3, pos := "l04_counts.go:7", after := #[{ on := 29, ground := Ground.data }, { on := 27, ground := Ground.guard }], guard := some (27, true) }
theorem hC4_30 : opsC4[30]? = some qC4_30 := by kernel_rfl
theorem lC4_30 : (LC4 30).setIfInBounds 30 true = LC4 31 := by kernel_rfl
theorem tC4_30 {Q : Exit → Act → World → Prop} {S : World → Prop} {a : Act} {w : World} (v : Value) (hQ : ∀ c a w, Q (.panic c) (a.put (some 40) v) w → Q (.panic c) a w) (hy : YieldsIf Tryz.prog opsC4 S qC4_30 v a) (hS : S w)
    (h : wpAnyH Tryz.prog .any opsC4 Q S 12 (LC4 31) (a.put (some 40) v) w) : wpAnyH Tryz.prog .any opsC4 Q S 13 (LC4 30) a w :=
  wpAnyH_take (i := 30) hC4_30 noselC4 (by kernel_rfl) (by kernel_rfl) hQ hy hS (lC4_30.symm ▸ h)
def qC4_31 : Oper := { dst := some 41, op := Op.indexAddr 44 (Operand.tmp 38) (Operand.tmp 40), type := 0, pos := "l04_counts.go:7", after := #[{ on := 28, ground := Ground.data }, { on := 30, ground := Ground.data }, { on := 27, ground := Ground.guard }], guard := some (27, true) }
theorem hC4_31 : opsC4[31]? = some qC4_31 := by kernel_rfl
theorem lC4_31 : (LC4 31).setIfInBounds 31 true = LC4 32 := by kernel_rfl
theorem tC4_31 {Q : Exit → Act → World → Prop} {S : World → Prop} {a : Act} {w : World} (v : Value) (hQ : ∀ c a w, Q (.panic c) (a.put (some 41) v) w → Q (.panic c) a w) (hy : YieldsIf Tryz.prog opsC4 S qC4_31 v a) (hS : S w)
    (h : wpAnyH Tryz.prog .any opsC4 Q S 11 (LC4 32) (a.put (some 41) v) w) : wpAnyH Tryz.prog .any opsC4 Q S 12 (LC4 31) a w :=
  wpAnyH_take (i := 31) hC4_31 noselC4 (by kernel_rfl) (by kernel_rfl) hQ hy hS (lC4_31.symm ▸ h)
def qC4_32 : Oper := { dst := some 42, op := Op.fieldAddr 64 (Operand.tmp 41) 0, type := 0, pos := "l04_counts.go:7", after := #[{ on := 31, ground := Ground.data }, { on := 27, ground := Ground.guard }], guard := some (27, true) }
theorem hC4_32 : opsC4[32]? = some qC4_32 := by kernel_rfl
theorem lC4_32 : (LC4 32).setIfInBounds 32 true = LC4 33 := by kernel_rfl
theorem tC4_32 {Q : Exit → Act → World → Prop} {S : World → Prop} {a : Act} {w : World} (v : Value) (hQ : ∀ c a w, Q (.panic c) (a.put (some 42) v) w → Q (.panic c) a w) (hy : YieldsIf Tryz.prog opsC4 S qC4_32 v a) (hS : S w)
    (h : wpAnyH Tryz.prog .any opsC4 Q S 10 (LC4 33) (a.put (some 42) v) w) : wpAnyH Tryz.prog .any opsC4 Q S 11 (LC4 32) a w :=
  wpAnyH_take (i := 32) hC4_32 noselC4 (by kernel_rfl) (by kernel_rfl) hQ hy hS (lC4_32.symm ▸ h)
def qC4_33 : Oper := { dst := some 43, op := Op.load 30 (Operand.tmp 42), type := 30, pos := "l04_counts.go:7", after := #[{ on := 32, ground := Ground.data }, { on := 27, ground := Ground.guard }], guard := some (27, true) }
theorem hC4_33 : opsC4[33]? = some qC4_33 := by kernel_rfl
theorem lC4_33 : (LC4 33).setIfInBounds 33 true = LC4 34 := by kernel_rfl
theorem tC4_33 {Q : Exit → Act → World → Prop} {S : World → Prop} {a : Act} {w : World} (v : Value) (hQ : ∀ c a w, Q (.panic c) (a.put (some 43) v) w → Q (.panic c) a w) (hy : YieldsIf Tryz.prog opsC4 S qC4_33 v a) (hS : S w)
    (h : wpAnyH Tryz.prog .any opsC4 Q S 9 (LC4 34) (a.put (some 43) v) w) : wpAnyH Tryz.prog .any opsC4 Q S 10 (LC4 33) a w :=
  wpAnyH_take (i := 33) hC4_33 noselC4 (by kernel_rfl) (by kernel_rfl) hQ hy hS (lC4_33.symm ▸ h)
def qC4_34 : Oper := { dst := some 44, op := Op.move (Operand.tmp 0), type := 44, pos := "l04_counts.go:7", after := #[{ on := 27, ground := Ground.guard }], guard := some (27, true) }
theorem hC4_34 : opsC4[34]? = some qC4_34 := by kernel_rfl
theorem lC4_34 : (LC4 34).setIfInBounds 34 true = LC4 35 := by kernel_rfl
theorem tC4_34 {Q : Exit → Act → World → Prop} {S : World → Prop} {a : Act} {w : World} (v : Value) (hQ : ∀ c a w, Q (.panic c) (a.put (some 44) v) w → Q (.panic c) a w) (hy : YieldsIf Tryz.prog opsC4 S qC4_34 v a) (hS : S w)
    (h : wpAnyH Tryz.prog .any opsC4 Q S 8 (LC4 35) (a.put (some 44) v) w) : wpAnyH Tryz.prog .any opsC4 Q S 9 (LC4 34) a w :=
  wpAnyH_take (i := 34) hC4_34 noselC4 (by kernel_rfl) (by kernel_rfl) hQ hy hS (lC4_34.symm ▸ h)
def qC4_35 : Oper := { dst := some 45, op := Op.move (Operand.tmp 3), type := 3, pos := "l04_counts.go:7", after := #[{ on := 27, ground := Ground.guard }], guard := some (27, true) }
theorem hC4_35 : opsC4[35]? = some qC4_35 := by kernel_rfl
theorem lC4_35 : (LC4 35).setIfInBounds 35 true = LC4 36 := by kernel_rfl
theorem tC4_35 {Q : Exit → Act → World → Prop} {S : World → Prop} {a : Act} {w : World} (v : Value) (hQ : ∀ c a w, Q (.panic c) (a.put (some 45) v) w → Q (.panic c) a w) (hy : YieldsIf Tryz.prog opsC4 S qC4_35 v a) (hS : S w)
    (h : wpAnyH Tryz.prog .any opsC4 Q S 7 (LC4 36) (a.put (some 45) v) w) : wpAnyH Tryz.prog .any opsC4 Q S 8 (LC4 35) a w :=
  wpAnyH_take (i := 35) hC4_35 noselC4 (by kernel_rfl) (by kernel_rfl) hQ hy hS (lC4_35.symm ▸ h)
def qC4_36 : Oper := { dst := some 46, op := Op.indexAddr 44 (Operand.tmp 44) (Operand.tmp 45), type := 0, pos := "l04_counts.go:7", after := #[{ on := 34, ground := Ground.data }, { on := 35, ground := Ground.data }, { on := 27, ground := Ground.guard }], guard := some (27, true) }
theorem hC4_36 : opsC4[36]? = some qC4_36 := by kernel_rfl
theorem lC4_36 : (LC4 36).setIfInBounds 36 true = LC4 37 := by kernel_rfl
theorem tC4_36 {Q : Exit → Act → World → Prop} {S : World → Prop} {a : Act} {w : World} (v : Value) (hQ : ∀ c a w, Q (.panic c) (a.put (some 46) v) w → Q (.panic c) a w) (hy : YieldsIf Tryz.prog opsC4 S qC4_36 v a) (hS : S w)
    (h : wpAnyH Tryz.prog .any opsC4 Q S 6 (LC4 37) (a.put (some 46) v) w) : wpAnyH Tryz.prog .any opsC4 Q S 7 (LC4 36) a w :=
  wpAnyH_take (i := 36) hC4_36 noselC4 (by kernel_rfl) (by kernel_rfl) hQ hy hS (lC4_36.symm ▸ h)
def qC4_37 : Oper := { dst := some 47, op := Op.fieldAddr 64 (Operand.tmp 46) 0, type := 0, pos := "l04_counts.go:7", after := #[{ on := 36, ground := Ground.data }, { on := 27, ground := Ground.guard }], guard := some (27, true) }
theorem hC4_37 : opsC4[37]? = some qC4_37 := by kernel_rfl
theorem lC4_37 : (LC4 37).setIfInBounds 37 true = LC4 38 := by kernel_rfl
theorem tC4_37 {Q : Exit → Act → World → Prop} {S : World → Prop} {a : Act} {w : World} (v : Value) (hQ : ∀ c a w, Q (.panic c) (a.put (some 47) v) w → Q (.panic c) a w) (hy : YieldsIf Tryz.prog opsC4 S qC4_37 v a) (hS : S w)
    (h : wpAnyH Tryz.prog .any opsC4 Q S 5 (LC4 38) (a.put (some 47) v) w) : wpAnyH Tryz.prog .any opsC4 Q S 6 (LC4 37) a w :=
  wpAnyH_take (i := 37) hC4_37 noselC4 (by kernel_rfl) (by kernel_rfl) hQ hy hS (lC4_37.symm ▸ h)
def qC4_38 : Oper := { dst := some 48, op := Op.load 30 (Operand.tmp 47), type := 30, pos := "l04_counts.go:7", after := #[{ on := 37, ground := Ground.data }, { on := 27, ground := Ground.guard }], guard := some (27, true) }
theorem hC4_38 : opsC4[38]? = some qC4_38 := by kernel_rfl
theorem lC4_38 : (LC4 38).setIfInBounds 38 true = LC4 39 := by kernel_rfl
theorem tC4_38 {Q : Exit → Act → World → Prop} {S : World → Prop} {a : Act} {w : World} (v : Value) (hQ : ∀ c a w, Q (.panic c) (a.put (some 48) v) w → Q (.panic c) a w) (hy : YieldsIf Tryz.prog opsC4 S qC4_38 v a) (hS : S w)
    (h : wpAnyH Tryz.prog .any opsC4 Q S 4 (LC4 39) (a.put (some 48) v) w) : wpAnyH Tryz.prog .any opsC4 Q S 5 (LC4 38) a w :=
  wpAnyH_take (i := 38) hC4_38 noselC4 (by kernel_rfl) (by kernel_rfl) hQ hy hS (lC4_38.symm ▸ h)
def qC4_39 : Oper := { dst := some 49, op := Op.call { callee := Callee.value (Operand.func 44), args := #[Operand.tmp 43, Operand.tmp 48], argTypes := #[30, 30] }, type := 3, pos := "l04_counts.go:7", after := #[{ on := 33, ground := Ground.data }, { on := 38, ground := Ground.data }, { on := 27, ground := Ground.chain }, { on := 27, ground := Ground.guard }], guard := some (27, true) }
theorem hC4_39 : opsC4[39]? = some qC4_39 := by kernel_rfl
theorem lC4_39 : (LC4 39).setIfInBounds 39 true = LC4 40 := by kernel_rfl
set_option maxRecDepth 100000 in
theorem cC4_39 {Q : Exit → Act → World → Prop} {S : World → Prop} {a : Act} {w : World}
    (h : ∀ K' : Act → World → Prop, Shut (∀ a w, S w → (S w → wpAnyH Tryz.prog .any opsC4 Q S 3 (LC4 40) a w) → K' a w) → if Region.wanted qC4_39 (yielded opsC4 a.tmps) = true then Oper.wp Tryz.prog qC4_39 a w K' Q else K' (a.put (some 49) undef) w) :
    wpAnyH Tryz.prog .any opsC4 Q S 4 (LC4 39) a w :=
  wpAnyH_ready (rs := [39]) (by kernel_rfl) (by simp) (AllReadyH.cons hC4_39 (fun K' hK => h K' (lC4_39 ▸ hK)) AllReadyH.nil)
theorem tC4_39 {Q : Exit → Act → World → Prop} {S : World → Prop} {a : Act} {w : World} (v : Value) (hQ : ∀ c a w, Q (.panic c) (a.put (some 49) v) w → Q (.panic c) a w) (hy : YieldsIf Tryz.prog opsC4 S qC4_39 v a) (hS : S w)
    (h : wpAnyH Tryz.prog .any opsC4 Q S 3 (LC4 40) (a.put (some 49) v) w) : wpAnyH Tryz.prog .any opsC4 Q S 4 (LC4 39) a w :=
  wpAnyH_take (i := 39) hC4_39 noselC4 (by kernel_rfl) (by kernel_rfl) hQ hy hS (lC4_39.symm ▸ h)
def qC4_40 : Oper := { dst := some 50, op := Op.binOp BinOp.geq 3 (Operand.tmp 49) (Operand.const (Value.int IntKind.i64 0)) 3, type := 4, pos := "l04_counts.go:7", after := #[{ on := 39, ground := Ground.data }, { on := 27, ground := Ground.guard }], guard := some (27, true) }
theorem hC4_40 : opsC4[40]? = some qC4_40 := by kernel_rfl
theorem lC4_40 : (LC4 40).setIfInBounds 40 true = LC4 41 := by kernel_rfl
theorem tC4_40 {Q : Exit → Act → World → Prop} {S : World → Prop} {a : Act} {w : World} (v : Value) (hQ : ∀ c a w, Q (.panic c) (a.put (some 50) v) w → Q (.panic c) a w) (hy : YieldsIf Tryz.prog opsC4 S qC4_40 v a) (hS : S w)
    (h : wpAnyH Tryz.prog .any opsC4 Q S 2 (LC4 41) (a.put (some 50) v) w) : wpAnyH Tryz.prog .any opsC4 Q S 3 (LC4 40) a w :=
  wpAnyH_take (i := 40) hC4_40 noselC4 (by kernel_rfl) (by kernel_rfl) hQ hy hS (lC4_40.symm ▸ h)
def qC4_41 : Oper := { dst := some 51, op := Op.pick (Operand.tmp 37) (Operand.tmp 50) (Operand.const (Value.bool false)), type := 4, pos := "l04_counts.go:7", after := #[{ on := 27, ground := Ground.data }, { on := 40, ground := Ground.data }, { on := 24, ground := Ground.guard }], guard := some (24, false) }
theorem hC4_41 : opsC4[41]? = some qC4_41 := by kernel_rfl
theorem lC4_41 : (LC4 41).setIfInBounds 41 true = LC4 42 := by kernel_rfl
theorem tC4_41 {Q : Exit → Act → World → Prop} {S : World → Prop} {a : Act} {w : World} (v : Value) (hQ : ∀ c a w, Q (.panic c) (a.put (some 51) v) w → Q (.panic c) a w) (hy : YieldsIf Tryz.prog opsC4 S qC4_41 v a) (hS : S w)
    (h : wpAnyH Tryz.prog .any opsC4 Q S 1 (LC4 42) (a.put (some 51) v) w) : wpAnyH Tryz.prog .any opsC4 Q S 2 (LC4 41) a w :=
  wpAnyH_take (i := 41) hC4_41 noselC4 (by kernel_rfl) (by kernel_rfl) hQ hy hS (lC4_41.symm ▸ h)
def qC4_42 : Oper := { dst := some 52, op := Op.pick (Operand.tmp 34) (Operand.const (Value.bool true)) (Operand.tmp 51), type := 4, pos := "l04_counts.go:7", after := #[{ on := 24, ground := Ground.data }, { on := 41, ground := Ground.data }], guard := none }
theorem hC4_42 : opsC4[42]? = some qC4_42 := by kernel_rfl
theorem lC4_42 : (LC4 42).setIfInBounds 42 true = LC4 43 := by kernel_rfl
theorem tC4_42 {Q : Exit → Act → World → Prop} {S : World → Prop} {a : Act} {w : World} (v : Value) (hQ : ∀ c a w, Q (.panic c) (a.put (some 52) v) w → Q (.panic c) a w) (hy : YieldsIf Tryz.prog opsC4 S qC4_42 v a) (hS : S w)
    (h : wpAnyH Tryz.prog .any opsC4 Q S 0 (LC4 43) (a.put (some 52) v) w) : wpAnyH Tryz.prog .any opsC4 Q S 1 (LC4 42) a w :=
  wpAnyH_take (i := 42) hC4_42 noselC4 (by kernel_rfl) (by kernel_rfl) hQ hy hS (lC4_42.symm ▸ h)
end Go.Proofs.YtdmbkjebagnloaaGreatDoor.hexes
