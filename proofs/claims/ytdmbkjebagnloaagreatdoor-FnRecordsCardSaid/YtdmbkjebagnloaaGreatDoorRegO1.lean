/-
  A statement of spec.RecordOrder: its operations, and a theorem a step.
-/
import Derived.Test.YtdmbkjebagnloaaGreatDoorProg
import Derived.WalkKit
import Derived.Deep.RegionHeld3
namespace Go.Proofs.YtdmbkjebagnloaaGreatDoor.hexes
open Go.RowKit

def findO1 (n : Nat) : Code → Option Code
  | .region id ops d => if id = n then some (.region id ops d) else none
  | .seq a b => match findO1 n a with
    | some c => some c
    | none => findO1 n b
  | .block _ c => findO1 n c
  | .scope c => findO1 n c
  | .loop c => findO1 n c
  | .cond _ a b => match findO1 n a with
    | some c => some c
    | none => findO1 n b
  | _ => none
def opsOfO1 : Option Code → Array Oper
  | some (.region _ ops _) => ops
  | _ => #[]
noncomputable def opsO1 : Array Oper := opsOfO1 (Tryz.f20.body.bind (findO1 1))
def schO1 : List Nat := [0, 1, 2, 3, 5, 6, 7, 8, 10, 11, 12, 13, 15, 16, 17, 18, 4, 9, 14, 19, 20, 21]
def LO1 (k : Nat) : Array Bool := ((List.range 22).map fun i => (schO1.take k).contains i).toArray
theorem noselO1 : Region.noSelect opsO1 = true := by kernel_rfl
def qO1_0 : Oper := { dst := some 7, op := Op.fieldAddr 32 (Operand.tmp 2) 1, type := 0, pos := "l05_records.go:10", after := #[], guard := none }
theorem hO1_0 : opsO1[0]? = some qO1_0 := by kernel_rfl
theorem lO1_0 : (LO1 0).setIfInBounds 0 true = LO1 1 := by kernel_rfl
theorem tO1_0 {Q : Exit → Act → World → Prop} {S : World → Prop} {a : Act} {w : World} (v : Value) (hQ : ∀ c a w, Q (.panic c) (a.put (some 7) v) w → Q (.panic c) a w) (hy : YieldsIf Tryz.prog opsO1 S qO1_0 v a) (hS : S w)
    (h : wpAnyH Tryz.prog .any opsO1 Q S 21 (LO1 1) (a.put (some 7) v) w) : wpAnyH Tryz.prog .any opsO1 Q S 22 (LO1 0) a w :=
  wpAnyH_take (i := 0) hO1_0 noselO1 (by kernel_rfl) (by kernel_rfl) hQ hy hS (lO1_0.symm ▸ h)
def qO1_1 : Oper := { dst := some 8, op := Op.load 30 (Operand.tmp 7), type := 30, pos := "l05_records.go:10", after := #[{ on := 0, ground := Ground.data }], guard := none }
theorem hO1_1 : opsO1[1]? = some qO1_1 := by kernel_rfl
theorem lO1_1 : (LO1 1).setIfInBounds 1 true = LO1 2 := by kernel_rfl
theorem tO1_1 {Q : Exit → Act → World → Prop} {S : World → Prop} {a : Act} {w : World} (v : Value) (hQ : ∀ c a w, Q (.panic c) (a.put (some 8) v) w → Q (.panic c) a w) (hy : YieldsIf Tryz.prog opsO1 S qO1_1 v a) (hS : S w)
    (h : wpAnyH Tryz.prog .any opsO1 Q S 20 (LO1 2) (a.put (some 8) v) w) : wpAnyH Tryz.prog .any opsO1 Q S 21 (LO1 1) a w :=
  wpAnyH_take (i := 1) hO1_1 noselO1 (by kernel_rfl) (by kernel_rfl) hQ hy hS (lO1_1.symm ▸ h)
def qO1_2 : Oper := { dst := some 9, op := Op.fieldAddr 32 (Operand.tmp 3) 1, type := 0, pos := "l05_records.go:10", after := #[], guard := none }
theorem hO1_2 : opsO1[2]? = some qO1_2 := by kernel_rfl
theorem lO1_2 : (LO1 2).setIfInBounds 2 true = LO1 3 := by kernel_rfl
theorem tO1_2 {Q : Exit → Act → World → Prop} {S : World → Prop} {a : Act} {w : World} (v : Value) (hQ : ∀ c a w, Q (.panic c) (a.put (some 9) v) w → Q (.panic c) a w) (hy : YieldsIf Tryz.prog opsO1 S qO1_2 v a) (hS : S w)
    (h : wpAnyH Tryz.prog .any opsO1 Q S 19 (LO1 3) (a.put (some 9) v) w) : wpAnyH Tryz.prog .any opsO1 Q S 20 (LO1 2) a w :=
  wpAnyH_take (i := 2) hO1_2 noselO1 (by kernel_rfl) (by kernel_rfl) hQ hy hS (lO1_2.symm ▸ h)
def qO1_3 : Oper := { dst := some 10, op := Op.load 30 (Operand.tmp 9), type := 30, pos := "l05_records.go:10", after := #[{ on := 2, ground := Ground.data }], guard := none }
theorem hO1_3 : opsO1[3]? = some qO1_3 := by kernel_rfl
theorem lO1_3 : (LO1 3).setIfInBounds 3 true = LO1 4 := by kernel_rfl
theorem tO1_3 {Q : Exit → Act → World → Prop} {S : World → Prop} {a : Act} {w : World} (v : Value) (hQ : ∀ c a w, Q (.panic c) (a.put (some 10) v) w → Q (.panic c) a w) (hy : YieldsIf Tryz.prog opsO1 S qO1_3 v a) (hS : S w)
    (h : wpAnyH Tryz.prog .any opsO1 Q S 18 (LO1 4) (a.put (some 10) v) w) : wpAnyH Tryz.prog .any opsO1 Q S 19 (LO1 3) a w :=
  wpAnyH_take (i := 3) hO1_3 noselO1 (by kernel_rfl) (by kernel_rfl) hQ hy hS (lO1_3.symm ▸ h)
def qO1_5 : Oper := { dst := some 12, op := Op.fieldAddr 32 (Operand.tmp 2) 0, type := 0, pos := "l05_records.go:10", after := #[], guard := none }
theorem hO1_5 : opsO1[5]? = some qO1_5 := by kernel_rfl
theorem lO1_4 : (LO1 4).setIfInBounds 5 true = LO1 5 := by kernel_rfl
theorem tO1_4 {Q : Exit → Act → World → Prop} {S : World → Prop} {a : Act} {w : World} (v : Value) (hQ : ∀ c a w, Q (.panic c) (a.put (some 12) v) w → Q (.panic c) a w) (hy : YieldsIf Tryz.prog opsO1 S qO1_5 v a) (hS : S w)
    (h : wpAnyH Tryz.prog .any opsO1 Q S 17 (LO1 5) (a.put (some 12) v) w) : wpAnyH Tryz.prog .any opsO1 Q S 18 (LO1 4) a w :=
  wpAnyH_take (i := 5) hO1_5 noselO1 (by kernel_rfl) (by kernel_rfl) hQ hy hS (lO1_4.symm ▸ h)
def qO1_6 : Oper := { dst := some 13, op := Op.load 3 (Operand.tmp 12), type := 3, pos := "l05_records.go:10", after := #[{ on := 5, ground := Ground.data }], guard := none }
theorem hO1_6 : opsO1[6]? = some qO1_6 := by kernel_rfl
theorem lO1_5 : (LO1 5).setIfInBounds 6 true = LO1 6 := by kernel_rfl
theorem tO1_5 {Q : Exit → Act → World → Prop} {S : World → Prop} {a : Act} {w : World} (v : Value) (hQ : ∀ c a w, Q (.panic c) (a.put (some 13) v) w → Q (.panic c) a w) (hy : YieldsIf Tryz.prog opsO1 S qO1_6 v a) (hS : S w)
    (h : wpAnyH Tryz.prog .any opsO1 Q S 16 (LO1 6) (a.put (some 13) v) w) : wpAnyH Tryz.prog .any opsO1 Q S 17 (LO1 5) a w :=
  wpAnyH_take (i := 6) hO1_6 noselO1 (by kernel_rfl) (by kernel_rfl) hQ hy hS (lO1_5.symm ▸ h)
def qO1_7 : Oper := { dst := some 14, op := Op.fieldAddr 32 (Operand.tmp 3) 0, type := 0, pos := "l05_records.go:10", after := #[], guard := none }
theorem hO1_7 : opsO1[7]? = some qO1_7 := by kernel_rfl
theorem lO1_6 : (LO1 6).setIfInBounds 7 true = LO1 7 := by kernel_rfl
theorem tO1_6 {Q : Exit → Act → World → Prop} {S : World → Prop} {a : Act} {w : World} (v : Value) (hQ : ∀ c a w, Q (.panic c) (a.put (some 14) v) w → Q (.panic c) a w) (hy : YieldsIf Tryz.prog opsO1 S qO1_7 v a) (hS : S w)
    (h : wpAnyH Tryz.prog .any opsO1 Q S 15 (LO1 7) (a.put (some 14) v) w) : wpAnyH Tryz.prog .any opsO1 Q S 16 (LO1 6) a w :=
  wpAnyH_take (i := 7) hO1_7 noselO1 (by kernel_rfl) (by kernel_rfl) hQ hy hS (lO1_6.symm ▸ h)
def qO1_8 : Oper := { dst := some 15, op := Op.load 3 (Operand.tmp 14), type := 3, pos := "l05_records.go:10", after := #[{ on := 7, ground := Ground.data }], guard := none }
theorem hO1_8 : opsO1[8]? = some qO1_8 := by kernel_rfl
theorem lO1_7 : (LO1 7).setIfInBounds 8 true = LO1 8 := by kernel_rfl
theorem tO1_7 {Q : Exit → Act → World → Prop} {S : World → Prop} {a : Act} {w : World} (v : Value) (hQ : ∀ c a w, Q (.panic c) (a.put (some 15) v) w → Q (.panic c) a w) (hy : YieldsIf Tryz.prog opsO1 S qO1_8 v a) (hS : S w)
    (h : wpAnyH Tryz.prog .any opsO1 Q S 14 (LO1 8) (a.put (some 15) v) w) : wpAnyH Tryz.prog .any opsO1 Q S 15 (LO1 7) a w :=
  wpAnyH_take (i := 8) hO1_8 noselO1 (by kernel_rfl) (by kernel_rfl) hQ hy hS (lO1_7.symm ▸ h)
def qO1_10 : Oper := { dst := some 17, op := Op.fieldAddr 32 (Operand.tmp 2) 2, type := 0, pos := "l05_records.go:10", after := #[], guard := none }
theorem hO1_10 : opsO1[10]? = some qO1_10 := by kernel_rfl
theorem lO1_8 : (LO1 8).setIfInBounds 10 true = LO1 9 := by kernel_rfl
theorem tO1_8 {Q : Exit → Act → World → Prop} {S : World → Prop} {a : Act} {w : World} (v : Value) (hQ : ∀ c a w, Q (.panic c) (a.put (some 17) v) w → Q (.panic c) a w) (hy : YieldsIf Tryz.prog opsO1 S qO1_10 v a) (hS : S w)
    (h : wpAnyH Tryz.prog .any opsO1 Q S 13 (LO1 9) (a.put (some 17) v) w) : wpAnyH Tryz.prog .any opsO1 Q S 14 (LO1 8) a w :=
  wpAnyH_take (i := 10) hO1_10 noselO1 (by kernel_rfl) (by kernel_rfl) hQ hy hS (lO1_8.symm ▸ h)
def qO1_11 : Oper := { dst := some 18, op := Op.load 3 (Operand.tmp 17), type := 3, pos := "l05_records.go:10", after := #[{ on := 10, ground := Ground.data }], guard := none }
theorem hO1_11 : opsO1[11]? = some qO1_11 := by kernel_rfl
theorem lO1_9 : (LO1 9).setIfInBounds 11 true = LO1 10 := by kernel_rfl
theorem tO1_9 {Q : Exit → Act → World → Prop} {S : World → Prop} {a : Act} {w : World} (v : Value) (hQ : ∀ c a w, Q (.panic c) (a.put (some 18) v) w → Q (.panic c) a w) (hy : YieldsIf Tryz.prog opsO1 S qO1_11 v a) (hS : S w)
    (h : wpAnyH Tryz.prog .any opsO1 Q S 12 (LO1 10) (a.put (some 18) v) w) : wpAnyH Tryz.prog .any opsO1 Q S 13 (LO1 9) a w :=
  wpAnyH_take (i := 11) hO1_11 noselO1 (by kernel_rfl) (by kernel_rfl) hQ hy hS (lO1_9.symm ▸ h)
def qO1_12 : Oper := { dst := some 19, op := Op.fieldAddr 32 (Operand.tmp 3) 2, type := 0, pos := "l05_records.go:10", after := #[], guard := none }
theorem hO1_12 : opsO1[12]? = some qO1_12 := by kernel_rfl
theorem lO1_10 : (LO1 10).setIfInBounds 12 true = LO1 11 := by kernel_rfl
theorem tO1_10 {Q : Exit → Act → World → Prop} {S : World → Prop} {a : Act} {w : World} (v : Value) (hQ : ∀ c a w, Q (.panic c) (a.put (some 19) v) w → Q (.panic c) a w) (hy : YieldsIf Tryz.prog opsO1 S qO1_12 v a) (hS : S w)
    (h : wpAnyH Tryz.prog .any opsO1 Q S 11 (LO1 11) (a.put (some 19) v) w) : wpAnyH Tryz.prog .any opsO1 Q S 12 (LO1 10) a w :=
  wpAnyH_take (i := 12) hO1_12 noselO1 (by kernel_rfl) (by kernel_rfl) hQ hy hS (lO1_10.symm ▸ h)
def qO1_13 : Oper := { dst := some 20, op := Op.load 3 (Operand.tmp 19), type := 3, pos := "l05_records.go:10", after := #[{ on := 12, ground := Ground.data }], guard := none }
theorem hO1_13 : opsO1[13]? = some qO1_13 := by kernel_rfl
theorem lO1_11 : (LO1 11).setIfInBounds 13 true = LO1 12 := by kernel_rfl
theorem tO1_11 {Q : Exit → Act → World → Prop} {S : World → Prop} {a : Act} {w : World} (v : Value) (hQ : ∀ c a w, Q (.panic c) (a.put (some 20) v) w → Q (.panic c) a w) (hy : YieldsIf Tryz.prog opsO1 S qO1_13 v a) (hS : S w)
    (h : wpAnyH Tryz.prog .any opsO1 Q S 10 (LO1 12) (a.put (some 20) v) w) : wpAnyH Tryz.prog .any opsO1 Q S 11 (LO1 11) a w :=
  wpAnyH_take (i := 13) hO1_13 noselO1 (by kernel_rfl) (by kernel_rfl) hQ hy hS (lO1_11.symm ▸ h)
def qO1_15 : Oper := { dst := some 22, op := Op.fieldAddr 32 (Operand.tmp 2) 3, type := 0, pos := "l05_records.go:10", after := #[], guard := none }
theorem hO1_15 : opsO1[15]? = some qO1_15 := by kernel_rfl
theorem lO1_12 : (LO1 12).setIfInBounds 15 true = LO1 13 := by kernel_rfl
theorem tO1_12 {Q : Exit → Act → World → Prop} {S : World → Prop} {a : Act} {w : World} (v : Value) (hQ : ∀ c a w, Q (.panic c) (a.put (some 22) v) w → Q (.panic c) a w) (hy : YieldsIf Tryz.prog opsO1 S qO1_15 v a) (hS : S w)
    (h : wpAnyH Tryz.prog .any opsO1 Q S 9 (LO1 13) (a.put (some 22) v) w) : wpAnyH Tryz.prog .any opsO1 Q S 10 (LO1 12) a w :=
  wpAnyH_take (i := 15) hO1_15 noselO1 (by kernel_rfl) (by kernel_rfl) hQ hy hS (lO1_12.symm ▸ h)
def qO1_16 : Oper := { dst := some 23, op := Op.load 3 (Operand.tmp 22), type := 3, pos := "l05_records.go:10", after := #[{ on := 15, ground := Ground.data }], guard := none }
theorem hO1_16 : opsO1[16]? = some qO1_16 := by kernel_rfl
theorem lO1_13 : (LO1 13).setIfInBounds 16 true = LO1 14 := by kernel_rfl
theorem tO1_13 {Q : Exit → Act → World → Prop} {S : World → Prop} {a : Act} {w : World} (v : Value) (hQ : ∀ c a w, Q (.panic c) (a.put (some 23) v) w → Q (.panic c) a w) (hy : YieldsIf Tryz.prog opsO1 S qO1_16 v a) (hS : S w)
    (h : wpAnyH Tryz.prog .any opsO1 Q S 8 (LO1 14) (a.put (some 23) v) w) : wpAnyH Tryz.prog .any opsO1 Q S 9 (LO1 13) a w :=
  wpAnyH_take (i := 16) hO1_16 noselO1 (by kernel_rfl) (by kernel_rfl) hQ hy hS (lO1_13.symm ▸ h)
def qO1_17 : Oper := { dst := some 24, op := Op.fieldAddr 32 (Operand.tmp 3) 3, type := 0, pos := "l05_records.go:10", after := #[], guard := none }
theorem hO1_17 : opsO1[17]? = some qO1_17 := by kernel_rfl
theorem lO1_14 : (LO1 14).setIfInBounds 17 true = LO1 15 := by kernel_rfl
theorem tO1_14 {Q : Exit → Act → World → Prop} {S : World → Prop} {a : Act} {w : World} (v : Value) (hQ : ∀ c a w, Q (.panic c) (a.put (some 24) v) w → Q (.panic c) a w) (hy : YieldsIf Tryz.prog opsO1 S qO1_17 v a) (hS : S w)
    (h : wpAnyH Tryz.prog .any opsO1 Q S 7 (LO1 15) (a.put (some 24) v) w) : wpAnyH Tryz.prog .any opsO1 Q S 8 (LO1 14) a w :=
  wpAnyH_take (i := 17) hO1_17 noselO1 (by kernel_rfl) (by kernel_rfl) hQ hy hS (lO1_14.symm ▸ h)
def qO1_18 : Oper := { dst := some 25, op := Op.load 3 (Operand.tmp 24), type := 3, pos := "l05_records.go:10", after := #[{ on := 17, ground := Ground.data }], guard := none }
theorem hO1_18 : opsO1[18]? = some qO1_18 := by kernel_rfl
theorem lO1_15 : (LO1 15).setIfInBounds 18 true = LO1 16 := by kernel_rfl
theorem tO1_15 {Q : Exit → Act → World → Prop} {S : World → Prop} {a : Act} {w : World} (v : Value) (hQ : ∀ c a w, Q (.panic c) (a.put (some 25) v) w → Q (.panic c) a w) (hy : YieldsIf Tryz.prog opsO1 S qO1_18 v a) (hS : S w)
    (h : wpAnyH Tryz.prog .any opsO1 Q S 6 (LO1 16) (a.put (some 25) v) w) : wpAnyH Tryz.prog .any opsO1 Q S 7 (LO1 15) a w :=
  wpAnyH_take (i := 18) hO1_18 noselO1 (by kernel_rfl) (by kernel_rfl) hQ hy hS (lO1_15.symm ▸ h)
def qO1_4 : Oper := { dst := some 11, op := Op.call { callee := Callee.value (Operand.func 44), args := #[Operand.tmp 8, Operand.tmp 10], argTypes := #[30, 30] }, type := 3, pos := "l05_records.go:10", after := #[{ on := 1, ground := Ground.data }, { on := 3, ground := Ground.data }], guard := none }
theorem hO1_4 : opsO1[4]? = some qO1_4 := by kernel_rfl
theorem lO1_16 : (LO1 16).setIfInBounds 4 true = LO1 17 := by kernel_rfl
set_option maxRecDepth 100000 in
theorem cO1_16 {Q : Exit → Act → World → Prop} {S : World → Prop} {a : Act} {w : World}
    (h : ∀ K' : Act → World → Prop, Shut (∀ a w, S w → (S w → wpAnyH Tryz.prog .any opsO1 Q S 5 (LO1 17) a w) → K' a w) → if Region.wanted qO1_4 (yielded opsO1 a.tmps) = true then Oper.wp Tryz.prog qO1_4 a w K' Q else K' (a.put (some 11) undef) w) :
    wpAnyH Tryz.prog .any opsO1 Q S 6 (LO1 16) a w :=
  wpAnyH_ready (rs := [4]) (by kernel_rfl) (by simp) (AllReadyH.cons hO1_4 (fun K' hK => h K' (lO1_16 ▸ hK)) AllReadyH.nil)
theorem tO1_16 {Q : Exit → Act → World → Prop} {S : World → Prop} {a : Act} {w : World} (v : Value) (hQ : ∀ c a w, Q (.panic c) (a.put (some 11) v) w → Q (.panic c) a w) (hy : YieldsIf Tryz.prog opsO1 S qO1_4 v a) (hS : S w)
    (h : wpAnyH Tryz.prog .any opsO1 Q S 5 (LO1 17) (a.put (some 11) v) w) : wpAnyH Tryz.prog .any opsO1 Q S 6 (LO1 16) a w :=
  wpAnyH_take (i := 4) hO1_4 noselO1 (by kernel_rfl) (by kernel_rfl) hQ hy hS (lO1_16.symm ▸ h)
def qO1_9 : Oper := { dst := some 16, op := Op.call { callee := Callee.value (Operand.func 45), args := #[Operand.tmp 13, Operand.tmp 15], argTypes := #[3, 3] }, type := 3, pos := "l05_records.go:10", after := #[{ on := 6, ground := Ground.data }, { on := 8, ground := Ground.data }, { on := 4, ground := Ground.chain }], guard := none }
theorem hO1_9 : opsO1[9]? = some qO1_9 := by kernel_rfl
theorem lO1_17 : (LO1 17).setIfInBounds 9 true = LO1 18 := by kernel_rfl
set_option maxRecDepth 100000 in
theorem cO1_17 {Q : Exit → Act → World → Prop} {S : World → Prop} {a : Act} {w : World}
    (h : ∀ K' : Act → World → Prop, Shut (∀ a w, S w → (S w → wpAnyH Tryz.prog .any opsO1 Q S 4 (LO1 18) a w) → K' a w) → if Region.wanted qO1_9 (yielded opsO1 a.tmps) = true then Oper.wp Tryz.prog qO1_9 a w K' Q else K' (a.put (some 16) undef) w) :
    wpAnyH Tryz.prog .any opsO1 Q S 5 (LO1 17) a w :=
  wpAnyH_ready (rs := [9]) (by kernel_rfl) (by simp) (AllReadyH.cons hO1_9 (fun K' hK => h K' (lO1_17 ▸ hK)) AllReadyH.nil)
theorem tO1_17 {Q : Exit → Act → World → Prop} {S : World → Prop} {a : Act} {w : World} (v : Value) (hQ : ∀ c a w, Q (.panic c) (a.put (some 16) v) w → Q (.panic c) a w) (hy : YieldsIf Tryz.prog opsO1 S qO1_9 v a) (hS : S w)
    (h : wpAnyH Tryz.prog .any opsO1 Q S 4 (LO1 18) (a.put (some 16) v) w) : wpAnyH Tryz.prog .any opsO1 Q S 5 (LO1 17) a w :=
  wpAnyH_take (i := 9) hO1_9 noselO1 (by kernel_rfl) (by kernel_rfl) hQ hy hS (lO1_17.symm ▸ h)
def qO1_14 : Oper := { dst := some 21, op := Op.call { callee := Callee.value (Operand.func 45), args := #[Operand.tmp 18, Operand.tmp 20], argTypes := #[3, 3] }, type := 3, pos := "l05_records.go:10", after := #[{ on := 11, ground := Ground.data }, { on := 13, ground := Ground.data }, { on := 9, ground := Ground.chain }], guard := none }
theorem hO1_14 : opsO1[14]? = some qO1_14 := by kernel_rfl
theorem lO1_18 : (LO1 18).setIfInBounds 14 true = LO1 19 := by kernel_rfl
set_option maxRecDepth 100000 in
theorem cO1_18 {Q : Exit → Act → World → Prop} {S : World → Prop} {a : Act} {w : World}
    (h : ∀ K' : Act → World → Prop, Shut (∀ a w, S w → (S w → wpAnyH Tryz.prog .any opsO1 Q S 3 (LO1 19) a w) → K' a w) → if Region.wanted qO1_14 (yielded opsO1 a.tmps) = true then Oper.wp Tryz.prog qO1_14 a w K' Q else K' (a.put (some 21) undef) w) :
    wpAnyH Tryz.prog .any opsO1 Q S 4 (LO1 18) a w :=
  wpAnyH_ready (rs := [14]) (by kernel_rfl) (by simp) (AllReadyH.cons hO1_14 (fun K' hK => h K' (lO1_18 ▸ hK)) AllReadyH.nil)
theorem tO1_18 {Q : Exit → Act → World → Prop} {S : World → Prop} {a : Act} {w : World} (v : Value) (hQ : ∀ c a w, Q (.panic c) (a.put (some 21) v) w → Q (.panic c) a w) (hy : YieldsIf Tryz.prog opsO1 S qO1_14 v a) (hS : S w)
    (h : wpAnyH Tryz.prog .any opsO1 Q S 3 (LO1 19) (a.put (some 21) v) w) : wpAnyH Tryz.prog .any opsO1 Q S 4 (LO1 18) a w :=
  wpAnyH_take (i := 14) hO1_14 noselO1 (by kernel_rfl) (by kernel_rfl) hQ hy hS (lO1_18.symm ▸ h)
def qO1_19 : Oper := { dst := some 26, op := Op.call { callee := Callee.value (Operand.func 45), args := #[Operand.tmp 23, Operand.tmp 25], argTypes := #[3, 3] }, type := 3, pos := "l05_records.go:10", after := #[{ on := 16, ground := Ground.data }, { on := 18, ground := Ground.data }, { on := 14, ground := Ground.chain }], guard := none }
theorem hO1_19 : opsO1[19]? = some qO1_19 := by kernel_rfl
theorem lO1_19 : (LO1 19).setIfInBounds 19 true = LO1 20 := by kernel_rfl
set_option maxRecDepth 100000 in
theorem cO1_19 {Q : Exit → Act → World → Prop} {S : World → Prop} {a : Act} {w : World}
    (h : ∀ K' : Act → World → Prop, Shut (∀ a w, S w → (S w → wpAnyH Tryz.prog .any opsO1 Q S 2 (LO1 20) a w) → K' a w) → if Region.wanted qO1_19 (yielded opsO1 a.tmps) = true then Oper.wp Tryz.prog qO1_19 a w K' Q else K' (a.put (some 26) undef) w) :
    wpAnyH Tryz.prog .any opsO1 Q S 3 (LO1 19) a w :=
  wpAnyH_ready (rs := [19]) (by kernel_rfl) (by simp) (AllReadyH.cons hO1_19 (fun K' hK => h K' (lO1_19 ▸ hK)) AllReadyH.nil)
theorem tO1_19 {Q : Exit → Act → World → Prop} {S : World → Prop} {a : Act} {w : World} (v : Value) (hQ : ∀ c a w, Q (.panic c) (a.put (some 26) v) w → Q (.panic c) a w) (hy : YieldsIf Tryz.prog opsO1 S qO1_19 v a) (hS : S w)
    (h : wpAnyH Tryz.prog .any opsO1 Q S 2 (LO1 20) (a.put (some 26) v) w) : wpAnyH Tryz.prog .any opsO1 Q S 3 (LO1 19) a w :=
  wpAnyH_take (i := 19) hO1_19 noselO1 (by kernel_rfl) (by kernel_rfl) hQ hy hS (lO1_19.symm ▸ h)
def qO1_20 : Oper := { dst := some 27, op := Op.buildSlice 62 4 #[(0, Operand.tmp 11), (1, Operand.tmp 16), (2, Operand.tmp 21), (3, Operand.tmp 26)], type := 62, pos := "l05_records.go:10", after := #[{ on := 4, ground := Ground.data }, { on := 9, ground := Ground.data }, { on := 14, ground := Ground.data }, { on := 19, ground := Ground.data }], guard := none }
theorem hO1_20 : opsO1[20]? = some qO1_20 := by kernel_rfl
theorem lO1_20 : (LO1 20).setIfInBounds 20 true = LO1 21 := by kernel_rfl
set_option maxRecDepth 100000 in
theorem cO1_20 {Q : Exit → Act → World → Prop} {S : World → Prop} {a : Act} {w : World}
    (h : ∀ K' : Act → World → Prop, Shut (∀ a w, S w → (S w → wpAnyH Tryz.prog .any opsO1 Q S 1 (LO1 21) a w) → K' a w) → if Region.wanted qO1_20 (yielded opsO1 a.tmps) = true then Oper.wp Tryz.prog qO1_20 a w K' Q else K' (a.put (some 27) undef) w) :
    wpAnyH Tryz.prog .any opsO1 Q S 2 (LO1 20) a w :=
  wpAnyH_ready (rs := [20]) (by kernel_rfl) (by simp) (AllReadyH.cons hO1_20 (fun K' hK => h K' (lO1_20 ▸ hK)) AllReadyH.nil)
theorem tO1_20 {Q : Exit → Act → World → Prop} {S : World → Prop} {a : Act} {w : World} (v : Value) (hQ : ∀ c a w, Q (.panic c) (a.put (some 27) v) w → Q (.panic c) a w) (hy : YieldsIf Tryz.prog opsO1 S qO1_20 v a) (hS : S w)
    (h : wpAnyH Tryz.prog .any opsO1 Q S 1 (LO1 21) (a.put (some 27) v) w) : wpAnyH Tryz.prog .any opsO1 Q S 2 (LO1 20) a w :=
  wpAnyH_take (i := 20) hO1_20 noselO1 (by kernel_rfl) (by kernel_rfl) hQ hy hS (lO1_20.symm ▸ h)
def qO1_21 : Oper := { dst := some 5, op := Op.assign (Operand.tmp 27), type := 62, pos := "l05_records.go:10", after := #[{ on := 20, ground := Ground.data }, { on := 19, ground := Ground.chain }, { on := 0, ground := Ground.phase }, { on := 1, ground := Ground.phase }, { on := 2, ground := Ground.phase }, { on := 3, ground := Ground.phase }, { on := 4, ground := Ground.phase }, { on := 5, ground := Ground.phase }, { on := 6, ground := Ground.phase }, { on := 7, ground := Ground.phase }, { on := 8, ground := Ground.phase }, { on := 9, ground := Ground.phase }, { on := 10, ground := Ground.phase }, { on := 11, ground := Ground.phase }, { on := 12, ground := Ground.phase }, { on := 13, ground := Ground.phase }, { on := 14, ground := Ground.phase }, { on := 15, ground := Ground.phase }, { on := 16, ground := Ground.phase }, { on := 17, ground := Ground.phase }, { on := 18, ground := Ground.phase }, { on := 19, ground := Ground.phase }, { on := 20, ground := Ground.phase }], guard := none }
theorem hO1_21 : opsO1[21]? = some qO1_21 := by kernel_rfl
theorem lO1_21 : (LO1 21).setIfInBounds 21 true = LO1 22 := by kernel_rfl
theorem tO1_21 {Q : Exit → Act → World → Prop} {S : World → Prop} {a : Act} {w : World} (v : Value) (hQ : ∀ c a w, Q (.panic c) (a.put (some 5) v) w → Q (.panic c) a w) (hy : YieldsIf Tryz.prog opsO1 S qO1_21 v a) (hS : S w)
    (h : wpAnyH Tryz.prog .any opsO1 Q S 0 (LO1 22) (a.put (some 5) v) w) : wpAnyH Tryz.prog .any opsO1 Q S 1 (LO1 21) a w :=
  wpAnyH_take (i := 21) hO1_21 noselO1 (by kernel_rfl) (by kernel_rfl) hQ hy hS (lO1_21.symm ▸ h)
end Go.Proofs.YtdmbkjebagnloaaGreatDoor.hexes
