/-
  A statement of (impl.Record).order: its operations, and a theorem a step.
-/
import Derived.Test.YtdmbkjebagnloaaGreatDoorProg
import Derived.WalkKit
import Derived.Deep.RegionHeld3
namespace Go.Proofs.YtdmbkjebagnloaaGreatDoor.hexes
open Go.RowKit

def findU1 (n : Nat) : Code → Option Code
  | .region id ops d => if id = n then some (.region id ops d) else none
  | .seq a b => match findU1 n a with
    | some c => some c
    | none => findU1 n b
  | .block _ c => findU1 n c
  | .scope c => findU1 n c
  | .loop c => findU1 n c
  | .cond _ a b => match findU1 n a with
    | some c => some c
    | none => findU1 n b
  | _ => none
def opsOfU1 : Option Code → Array Oper
  | some (.region _ ops _) => ops
  | _ => #[]
noncomputable def opsU1 : Array Oper := opsOfU1 (Tryz.f30.body.bind (findU1 1))
def schU1 : List Nat := [0, 1, 2, 3, 5, 6, 7, 8, 10, 11, 12, 13, 15, 16, 17, 18, 4, 9, 14, 19, 20, 21, 22]
def LU1 (k : Nat) : Array Bool := ((List.range 23).map fun i => (schU1.take k).contains i).toArray
theorem noselU1 : Region.noSelect opsU1 = true := by kernel_rfl
def qU1_0 : Oper := { dst := some 5, op := Op.fieldAddr 32 (Operand.tmp 2) 1, type := 0, pos := "l05_records.go:36", after := #[], guard := none }
theorem hU1_0 : opsU1[0]? = some qU1_0 := by kernel_rfl
theorem lU1_0 : (LU1 0).setIfInBounds 0 true = LU1 1 := by kernel_rfl
theorem tU1_0 {Q : Exit → Act → World → Prop} {S : World → Prop} {a : Act} {w : World} (v : Value) (hQ : ∀ c a w, Q (.panic c) (a.put (some 5) v) w → Q (.panic c) a w) (hy : YieldsIf Tryz.prog opsU1 S qU1_0 v a) (hS : S w)
    (h : wpAnyH Tryz.prog .any opsU1 Q S 22 (LU1 1) (a.put (some 5) v) w) : wpAnyH Tryz.prog .any opsU1 Q S 23 (LU1 0) a w :=
  wpAnyH_take (i := 0) hU1_0 noselU1 (by kernel_rfl) (by kernel_rfl) hQ hy hS (lU1_0.symm ▸ h)
def qU1_1 : Oper := { dst := some 6, op := Op.load 30 (Operand.tmp 5), type := 30, pos := "l05_records.go:36", after := #[{ on := 0, ground := Ground.data }], guard := none }
theorem hU1_1 : opsU1[1]? = some qU1_1 := by kernel_rfl
theorem lU1_1 : (LU1 1).setIfInBounds 1 true = LU1 2 := by kernel_rfl
theorem tU1_1 {Q : Exit → Act → World → Prop} {S : World → Prop} {a : Act} {w : World} (v : Value) (hQ : ∀ c a w, Q (.panic c) (a.put (some 6) v) w → Q (.panic c) a w) (hy : YieldsIf Tryz.prog opsU1 S qU1_1 v a) (hS : S w)
    (h : wpAnyH Tryz.prog .any opsU1 Q S 21 (LU1 2) (a.put (some 6) v) w) : wpAnyH Tryz.prog .any opsU1 Q S 22 (LU1 1) a w :=
  wpAnyH_take (i := 1) hU1_1 noselU1 (by kernel_rfl) (by kernel_rfl) hQ hy hS (lU1_1.symm ▸ h)
def qU1_2 : Oper := { dst := some 7, op := Op.fieldAddr 32 (Operand.tmp 3) 1, type := 0, pos := "l05_records.go:36", after := #[], guard := none }
theorem hU1_2 : opsU1[2]? = some qU1_2 := by kernel_rfl
theorem lU1_2 : (LU1 2).setIfInBounds 2 true = LU1 3 := by kernel_rfl
theorem tU1_2 {Q : Exit → Act → World → Prop} {S : World → Prop} {a : Act} {w : World} (v : Value) (hQ : ∀ c a w, Q (.panic c) (a.put (some 7) v) w → Q (.panic c) a w) (hy : YieldsIf Tryz.prog opsU1 S qU1_2 v a) (hS : S w)
    (h : wpAnyH Tryz.prog .any opsU1 Q S 20 (LU1 3) (a.put (some 7) v) w) : wpAnyH Tryz.prog .any opsU1 Q S 21 (LU1 2) a w :=
  wpAnyH_take (i := 2) hU1_2 noselU1 (by kernel_rfl) (by kernel_rfl) hQ hy hS (lU1_2.symm ▸ h)
def qU1_3 : Oper := { dst := some 8, op := Op.load 30 (Operand.tmp 7), type := 30, pos := "l05_records.go:36", after := #[{ on := 2, ground := Ground.data }], guard := none }
theorem hU1_3 : opsU1[3]? = some qU1_3 := by kernel_rfl
theorem lU1_3 : (LU1 3).setIfInBounds 3 true = LU1 4 := by kernel_rfl
theorem tU1_3 {Q : Exit → Act → World → Prop} {S : World → Prop} {a : Act} {w : World} (v : Value) (hQ : ∀ c a w, Q (.panic c) (a.put (some 8) v) w → Q (.panic c) a w) (hy : YieldsIf Tryz.prog opsU1 S qU1_3 v a) (hS : S w)
    (h : wpAnyH Tryz.prog .any opsU1 Q S 19 (LU1 4) (a.put (some 8) v) w) : wpAnyH Tryz.prog .any opsU1 Q S 20 (LU1 3) a w :=
  wpAnyH_take (i := 3) hU1_3 noselU1 (by kernel_rfl) (by kernel_rfl) hQ hy hS (lU1_3.symm ▸ h)
def qU1_5 : Oper := { dst := some 10, op := Op.fieldAddr 32 (Operand.tmp 2) 0, type := 0, pos := "l05_records.go:36", after := #[], guard := none }
theorem hU1_5 : opsU1[5]? = some qU1_5 := by kernel_rfl
theorem lU1_4 : (LU1 4).setIfInBounds 5 true = LU1 5 := by kernel_rfl
theorem tU1_4 {Q : Exit → Act → World → Prop} {S : World → Prop} {a : Act} {w : World} (v : Value) (hQ : ∀ c a w, Q (.panic c) (a.put (some 10) v) w → Q (.panic c) a w) (hy : YieldsIf Tryz.prog opsU1 S qU1_5 v a) (hS : S w)
    (h : wpAnyH Tryz.prog .any opsU1 Q S 18 (LU1 5) (a.put (some 10) v) w) : wpAnyH Tryz.prog .any opsU1 Q S 19 (LU1 4) a w :=
  wpAnyH_take (i := 5) hU1_5 noselU1 (by kernel_rfl) (by kernel_rfl) hQ hy hS (lU1_4.symm ▸ h)
def qU1_6 : Oper := { dst := some 11, op := Op.load 3 (Operand.tmp 10), type := 3, pos := "l05_records.go:36", after := #[{ on := 5, ground := Ground.data }], guard := none }
theorem hU1_6 : opsU1[6]? = some qU1_6 := by kernel_rfl
theorem lU1_5 : (LU1 5).setIfInBounds 6 true = LU1 6 := by kernel_rfl
theorem tU1_5 {Q : Exit → Act → World → Prop} {S : World → Prop} {a : Act} {w : World} (v : Value) (hQ : ∀ c a w, Q (.panic c) (a.put (some 11) v) w → Q (.panic c) a w) (hy : YieldsIf Tryz.prog opsU1 S qU1_6 v a) (hS : S w)
    (h : wpAnyH Tryz.prog .any opsU1 Q S 17 (LU1 6) (a.put (some 11) v) w) : wpAnyH Tryz.prog .any opsU1 Q S 18 (LU1 5) a w :=
  wpAnyH_take (i := 6) hU1_6 noselU1 (by kernel_rfl) (by kernel_rfl) hQ hy hS (lU1_5.symm ▸ h)
def qU1_7 : Oper := { dst := some 12, op := Op.fieldAddr 32 (Operand.tmp 3) 0, type := 0, pos := "l05_records.go:36", after := #[], guard := none }
theorem hU1_7 : opsU1[7]? = some qU1_7 := by kernel_rfl
theorem lU1_6 : (LU1 6).setIfInBounds 7 true = LU1 7 := by kernel_rfl
theorem tU1_6 {Q : Exit → Act → World → Prop} {S : World → Prop} {a : Act} {w : World} (v : Value) (hQ : ∀ c a w, Q (.panic c) (a.put (some 12) v) w → Q (.panic c) a w) (hy : YieldsIf Tryz.prog opsU1 S qU1_7 v a) (hS : S w)
    (h : wpAnyH Tryz.prog .any opsU1 Q S 16 (LU1 7) (a.put (some 12) v) w) : wpAnyH Tryz.prog .any opsU1 Q S 17 (LU1 6) a w :=
  wpAnyH_take (i := 7) hU1_7 noselU1 (by kernel_rfl) (by kernel_rfl) hQ hy hS (lU1_6.symm ▸ h)
def qU1_8 : Oper := { dst := some 13, op := Op.load 3 (Operand.tmp 12), type := 3, pos := "l05_records.go:36", after := #[{ on := 7, ground := Ground.data }], guard := none }
theorem hU1_8 : opsU1[8]? = some qU1_8 := by kernel_rfl
theorem lU1_7 : (LU1 7).setIfInBounds 8 true = LU1 8 := by kernel_rfl
theorem tU1_7 {Q : Exit → Act → World → Prop} {S : World → Prop} {a : Act} {w : World} (v : Value) (hQ : ∀ c a w, Q (.panic c) (a.put (some 13) v) w → Q (.panic c) a w) (hy : YieldsIf Tryz.prog opsU1 S qU1_8 v a) (hS : S w)
    (h : wpAnyH Tryz.prog .any opsU1 Q S 15 (LU1 8) (a.put (some 13) v) w) : wpAnyH Tryz.prog .any opsU1 Q S 16 (LU1 7) a w :=
  wpAnyH_take (i := 8) hU1_8 noselU1 (by kernel_rfl) (by kernel_rfl) hQ hy hS (lU1_7.symm ▸ h)
def qU1_10 : Oper := { dst := some 15, op := Op.fieldAddr 32 (Operand.tmp 2) 2, type := 0, pos := "l05_records.go:36", after := #[], guard := none }
theorem hU1_10 : opsU1[10]? = some qU1_10 := by kernel_rfl
theorem lU1_8 : (LU1 8).setIfInBounds 10 true = LU1 9 := by kernel_rfl
theorem tU1_8 {Q : Exit → Act → World → Prop} {S : World → Prop} {a : Act} {w : World} (v : Value) (hQ : ∀ c a w, Q (.panic c) (a.put (some 15) v) w → Q (.panic c) a w) (hy : YieldsIf Tryz.prog opsU1 S qU1_10 v a) (hS : S w)
    (h : wpAnyH Tryz.prog .any opsU1 Q S 14 (LU1 9) (a.put (some 15) v) w) : wpAnyH Tryz.prog .any opsU1 Q S 15 (LU1 8) a w :=
  wpAnyH_take (i := 10) hU1_10 noselU1 (by kernel_rfl) (by kernel_rfl) hQ hy hS (lU1_8.symm ▸ h)
def qU1_11 : Oper := { dst := some 16, op := Op.load 3 (Operand.tmp 15), type := 3, pos := "l05_records.go:36", after := #[{ on := 10, ground := Ground.data }], guard := none }
theorem hU1_11 : opsU1[11]? = some qU1_11 := by kernel_rfl
theorem lU1_9 : (LU1 9).setIfInBounds 11 true = LU1 10 := by kernel_rfl
theorem tU1_9 {Q : Exit → Act → World → Prop} {S : World → Prop} {a : Act} {w : World} (v : Value) (hQ : ∀ c a w, Q (.panic c) (a.put (some 16) v) w → Q (.panic c) a w) (hy : YieldsIf Tryz.prog opsU1 S qU1_11 v a) (hS : S w)
    (h : wpAnyH Tryz.prog .any opsU1 Q S 13 (LU1 10) (a.put (some 16) v) w) : wpAnyH Tryz.prog .any opsU1 Q S 14 (LU1 9) a w :=
  wpAnyH_take (i := 11) hU1_11 noselU1 (by kernel_rfl) (by kernel_rfl) hQ hy hS (lU1_9.symm ▸ h)
def qU1_12 : Oper := { dst := some 17, op := Op.fieldAddr 32 (Operand.tmp 3) 2, type := 0, pos := "l05_records.go:36", after := #[], guard := none }
theorem hU1_12 : opsU1[12]? = some qU1_12 := by kernel_rfl
theorem lU1_10 : (LU1 10).setIfInBounds 12 true = LU1 11 := by kernel_rfl
theorem tU1_10 {Q : Exit → Act → World → Prop} {S : World → Prop} {a : Act} {w : World} (v : Value) (hQ : ∀ c a w, Q (.panic c) (a.put (some 17) v) w → Q (.panic c) a w) (hy : YieldsIf Tryz.prog opsU1 S qU1_12 v a) (hS : S w)
    (h : wpAnyH Tryz.prog .any opsU1 Q S 12 (LU1 11) (a.put (some 17) v) w) : wpAnyH Tryz.prog .any opsU1 Q S 13 (LU1 10) a w :=
  wpAnyH_take (i := 12) hU1_12 noselU1 (by kernel_rfl) (by kernel_rfl) hQ hy hS (lU1_10.symm ▸ h)
def qU1_13 : Oper := { dst := some 18, op := Op.load 3 (Operand.tmp 17), type := 3, pos := "l05_records.go:36", after := #[{ on := 12, ground := Ground.data }], guard := none }
theorem hU1_13 : opsU1[13]? = some qU1_13 := by kernel_rfl
theorem lU1_11 : (LU1 11).setIfInBounds 13 true = LU1 12 := by kernel_rfl
theorem tU1_11 {Q : Exit → Act → World → Prop} {S : World → Prop} {a : Act} {w : World} (v : Value) (hQ : ∀ c a w, Q (.panic c) (a.put (some 18) v) w → Q (.panic c) a w) (hy : YieldsIf Tryz.prog opsU1 S qU1_13 v a) (hS : S w)
    (h : wpAnyH Tryz.prog .any opsU1 Q S 11 (LU1 12) (a.put (some 18) v) w) : wpAnyH Tryz.prog .any opsU1 Q S 12 (LU1 11) a w :=
  wpAnyH_take (i := 13) hU1_13 noselU1 (by kernel_rfl) (by kernel_rfl) hQ hy hS (lU1_11.symm ▸ h)
def qU1_15 : Oper := { dst := some 20, op := Op.fieldAddr 32 (Operand.tmp 2) 3, type := 0, pos := "l05_records.go:36", after := #[], guard := none }
theorem hU1_15 : opsU1[15]? = some qU1_15 := by kernel_rfl
theorem lU1_12 : (LU1 12).setIfInBounds 15 true = LU1 13 := by kernel_rfl
theorem tU1_12 {Q : Exit → Act → World → Prop} {S : World → Prop} {a : Act} {w : World} (v : Value) (hQ : ∀ c a w, Q (.panic c) (a.put (some 20) v) w → Q (.panic c) a w) (hy : YieldsIf Tryz.prog opsU1 S qU1_15 v a) (hS : S w)
    (h : wpAnyH Tryz.prog .any opsU1 Q S 10 (LU1 13) (a.put (some 20) v) w) : wpAnyH Tryz.prog .any opsU1 Q S 11 (LU1 12) a w :=
  wpAnyH_take (i := 15) hU1_15 noselU1 (by kernel_rfl) (by kernel_rfl) hQ hy hS (lU1_12.symm ▸ h)
def qU1_16 : Oper := { dst := some 21, op := Op.load 3 (Operand.tmp 20), type := 3, pos := "l05_records.go:36", after := #[{ on := 15, ground := Ground.data }], guard := none }
theorem hU1_16 : opsU1[16]? = some qU1_16 := by kernel_rfl
theorem lU1_13 : (LU1 13).setIfInBounds 16 true = LU1 14 := by kernel_rfl
theorem tU1_13 {Q : Exit → Act → World → Prop} {S : World → Prop} {a : Act} {w : World} (v : Value) (hQ : ∀ c a w, Q (.panic c) (a.put (some 21) v) w → Q (.panic c) a w) (hy : YieldsIf Tryz.prog opsU1 S qU1_16 v a) (hS : S w)
    (h : wpAnyH Tryz.prog .any opsU1 Q S 9 (LU1 14) (a.put (some 21) v) w) : wpAnyH Tryz.prog .any opsU1 Q S 10 (LU1 13) a w :=
  wpAnyH_take (i := 16) hU1_16 noselU1 (by kernel_rfl) (by kernel_rfl) hQ hy hS (lU1_13.symm ▸ h)
def qU1_17 : Oper := { dst := some 22, op := Op.fieldAddr 32 (Operand.tmp 3) 3, type := 0, pos := "l05_records.go:36", after := #[], guard := none }
theorem hU1_17 : opsU1[17]? = some qU1_17 := by kernel_rfl
theorem lU1_14 : (LU1 14).setIfInBounds 17 true = LU1 15 := by kernel_rfl
theorem tU1_14 {Q : Exit → Act → World → Prop} {S : World → Prop} {a : Act} {w : World} (v : Value) (hQ : ∀ c a w, Q (.panic c) (a.put (some 22) v) w → Q (.panic c) a w) (hy : YieldsIf Tryz.prog opsU1 S qU1_17 v a) (hS : S w)
    (h : wpAnyH Tryz.prog .any opsU1 Q S 8 (LU1 15) (a.put (some 22) v) w) : wpAnyH Tryz.prog .any opsU1 Q S 9 (LU1 14) a w :=
  wpAnyH_take (i := 17) hU1_17 noselU1 (by kernel_rfl) (by kernel_rfl) hQ hy hS (lU1_14.symm ▸ h)
def qU1_18 : Oper := { dst := some 23, op := Op.load 3 (Operand.tmp 22), type := 3, pos := "l05_records.go:36", after := #[{ on := 17, ground := Ground.data }], guard := none }
theorem hU1_18 : opsU1[18]? = some qU1_18 := by kernel_rfl
theorem lU1_15 : (LU1 15).setIfInBounds 18 true = LU1 16 := by kernel_rfl
theorem tU1_15 {Q : Exit → Act → World → Prop} {S : World → Prop} {a : Act} {w : World} (v : Value) (hQ : ∀ c a w, Q (.panic c) (a.put (some 23) v) w → Q (.panic c) a w) (hy : YieldsIf Tryz.prog opsU1 S qU1_18 v a) (hS : S w)
    (h : wpAnyH Tryz.prog .any opsU1 Q S 7 (LU1 16) (a.put (some 23) v) w) : wpAnyH Tryz.prog .any opsU1 Q S 8 (LU1 15) a w :=
  wpAnyH_take (i := 18) hU1_18 noselU1 (by kernel_rfl) (by kernel_rfl) hQ hy hS (lU1_15.symm ▸ h)
def qU1_4 : Oper := { dst := some 9, op := Op.call { callee := Callee.value (Operand.func 52), args := #[Operand.tmp 6, Operand.tmp 8], argTypes := #[30, 30] }, type := 3, pos := "l05_records.go:37", after := #[{ on := 1, ground := Ground.data }, { on := 3, ground := Ground.data }], guard := none }
theorem hU1_4 : opsU1[4]? = some qU1_4 := by kernel_rfl
theorem lU1_16 : (LU1 16).setIfInBounds 4 true = LU1 17 := by kernel_rfl
set_option maxRecDepth 100000 in
theorem cU1_16 {Q : Exit → Act → World → Prop} {S : World → Prop} {a : Act} {w : World}
    (h : ∀ K' : Act → World → Prop, Shut (∀ a w, S w → (S w → wpAnyH Tryz.prog .any opsU1 Q S 6 (LU1 17) a w) → K' a w) → if Region.wanted qU1_4 (yielded opsU1 a.tmps) = true then Oper.wp Tryz.prog qU1_4 a w K' Q else K' (a.put (some 9) undef) w) :
    wpAnyH Tryz.prog .any opsU1 Q S 7 (LU1 16) a w :=
  wpAnyH_ready (rs := [4]) (by kernel_rfl) (by simp) (AllReadyH.cons hU1_4 (fun K' hK => h K' (lU1_16 ▸ hK)) AllReadyH.nil)
theorem tU1_16 {Q : Exit → Act → World → Prop} {S : World → Prop} {a : Act} {w : World} (v : Value) (hQ : ∀ c a w, Q (.panic c) (a.put (some 9) v) w → Q (.panic c) a w) (hy : YieldsIf Tryz.prog opsU1 S qU1_4 v a) (hS : S w)
    (h : wpAnyH Tryz.prog .any opsU1 Q S 6 (LU1 17) (a.put (some 9) v) w) : wpAnyH Tryz.prog .any opsU1 Q S 7 (LU1 16) a w :=
  wpAnyH_take (i := 4) hU1_4 noselU1 (by kernel_rfl) (by kernel_rfl) hQ hy hS (lU1_16.symm ▸ h)
def qU1_9 : Oper := { dst := some 14, op := Op.call { callee := Callee.value (Operand.func 53), args := #[Operand.tmp 11, Operand.tmp 13], argTypes := #[3, 3] }, type := 3, pos := "l05_records.go:38", after := #[{ on := 6, ground := Ground.data }, { on := 8, ground := Ground.data }, { on := 4, ground := Ground.chain }], guard := none }
theorem hU1_9 : opsU1[9]? = some qU1_9 := by kernel_rfl
theorem lU1_17 : (LU1 17).setIfInBounds 9 true = LU1 18 := by kernel_rfl
set_option maxRecDepth 100000 in
theorem cU1_17 {Q : Exit → Act → World → Prop} {S : World → Prop} {a : Act} {w : World}
    (h : ∀ K' : Act → World → Prop, Shut (∀ a w, S w → (S w → wpAnyH Tryz.prog .any opsU1 Q S 5 (LU1 18) a w) → K' a w) → if Region.wanted qU1_9 (yielded opsU1 a.tmps) = true then Oper.wp Tryz.prog qU1_9 a w K' Q else K' (a.put (some 14) undef) w) :
    wpAnyH Tryz.prog .any opsU1 Q S 6 (LU1 17) a w :=
  wpAnyH_ready (rs := [9]) (by kernel_rfl) (by simp) (AllReadyH.cons hU1_9 (fun K' hK => h K' (lU1_17 ▸ hK)) AllReadyH.nil)
theorem tU1_17 {Q : Exit → Act → World → Prop} {S : World → Prop} {a : Act} {w : World} (v : Value) (hQ : ∀ c a w, Q (.panic c) (a.put (some 14) v) w → Q (.panic c) a w) (hy : YieldsIf Tryz.prog opsU1 S qU1_9 v a) (hS : S w)
    (h : wpAnyH Tryz.prog .any opsU1 Q S 5 (LU1 18) (a.put (some 14) v) w) : wpAnyH Tryz.prog .any opsU1 Q S 6 (LU1 17) a w :=
  wpAnyH_take (i := 9) hU1_9 noselU1 (by kernel_rfl) (by kernel_rfl) hQ hy hS (lU1_17.symm ▸ h)
def qU1_14 : Oper := { dst := some 19, op := Op.call { callee := Callee.value (Operand.func 53), args := #[Operand.tmp 16, Operand.tmp 18], argTypes := #[3, 3] }, type := 3, pos := "l05_records.go:39", after := #[{ on := 11, ground := Ground.data }, { on := 13, ground := Ground.data }, { on := 9, ground := Ground.chain }], guard := none }
theorem hU1_14 : opsU1[14]? = some qU1_14 := by kernel_rfl
theorem lU1_18 : (LU1 18).setIfInBounds 14 true = LU1 19 := by kernel_rfl
set_option maxRecDepth 100000 in
theorem cU1_18 {Q : Exit → Act → World → Prop} {S : World → Prop} {a : Act} {w : World}
    (h : ∀ K' : Act → World → Prop, Shut (∀ a w, S w → (S w → wpAnyH Tryz.prog .any opsU1 Q S 4 (LU1 19) a w) → K' a w) → if Region.wanted qU1_14 (yielded opsU1 a.tmps) = true then Oper.wp Tryz.prog qU1_14 a w K' Q else K' (a.put (some 19) undef) w) :
    wpAnyH Tryz.prog .any opsU1 Q S 5 (LU1 18) a w :=
  wpAnyH_ready (rs := [14]) (by kernel_rfl) (by simp) (AllReadyH.cons hU1_14 (fun K' hK => h K' (lU1_18 ▸ hK)) AllReadyH.nil)
theorem tU1_18 {Q : Exit → Act → World → Prop} {S : World → Prop} {a : Act} {w : World} (v : Value) (hQ : ∀ c a w, Q (.panic c) (a.put (some 19) v) w → Q (.panic c) a w) (hy : YieldsIf Tryz.prog opsU1 S qU1_14 v a) (hS : S w)
    (h : wpAnyH Tryz.prog .any opsU1 Q S 4 (LU1 19) (a.put (some 19) v) w) : wpAnyH Tryz.prog .any opsU1 Q S 5 (LU1 18) a w :=
  wpAnyH_take (i := 14) hU1_14 noselU1 (by kernel_rfl) (by kernel_rfl) hQ hy hS (lU1_18.symm ▸ h)
def qU1_19 : Oper := { dst := some 24, op := Op.call { callee := Callee.value (Operand.func 53), args := #[Operand.tmp 21, Operand.tmp 23], argTypes := #[3, 3] }, type := 3, pos := "l05_records.go:40", after := #[{ on := 16, ground := Ground.data }, { on := 18, ground := Ground.data }, { on := 14, ground := Ground.chain }], guard := none }
theorem hU1_19 : opsU1[19]? = some qU1_19 := by kernel_rfl
theorem lU1_19 : (LU1 19).setIfInBounds 19 true = LU1 20 := by kernel_rfl
set_option maxRecDepth 100000 in
theorem cU1_19 {Q : Exit → Act → World → Prop} {S : World → Prop} {a : Act} {w : World}
    (h : ∀ K' : Act → World → Prop, Shut (∀ a w, S w → (S w → wpAnyH Tryz.prog .any opsU1 Q S 3 (LU1 20) a w) → K' a w) → if Region.wanted qU1_19 (yielded opsU1 a.tmps) = true then Oper.wp Tryz.prog qU1_19 a w K' Q else K' (a.put (some 24) undef) w) :
    wpAnyH Tryz.prog .any opsU1 Q S 4 (LU1 19) a w :=
  wpAnyH_ready (rs := [19]) (by kernel_rfl) (by simp) (AllReadyH.cons hU1_19 (fun K' hK => h K' (lU1_19 ▸ hK)) AllReadyH.nil)
theorem tU1_19 {Q : Exit → Act → World → Prop} {S : World → Prop} {a : Act} {w : World} (v : Value) (hQ : ∀ c a w, Q (.panic c) (a.put (some 24) v) w → Q (.panic c) a w) (hy : YieldsIf Tryz.prog opsU1 S qU1_19 v a) (hS : S w)
    (h : wpAnyH Tryz.prog .any opsU1 Q S 3 (LU1 20) (a.put (some 24) v) w) : wpAnyH Tryz.prog .any opsU1 Q S 4 (LU1 19) a w :=
  wpAnyH_take (i := 19) hU1_19 noselU1 (by kernel_rfl) (by kernel_rfl) hQ hy hS (lU1_19.symm ▸ h)
def qU1_20 : Oper := { dst := some 25, op := Op.buildSlice 62 4 #[(0, Operand.tmp 9), (1, Operand.tmp 14), (2, Operand.tmp 19), (3, Operand.tmp 24)], type := 62, pos := "l05_records.go:36", after := #[{ on := 4, ground := Ground.data }, { on := 9, ground := Ground.data }, { on := 14, ground := Ground.data }, { on := 19, ground := Ground.data }], guard := none }
theorem hU1_20 : opsU1[20]? = some qU1_20 := by kernel_rfl
theorem lU1_20 : (LU1 20).setIfInBounds 20 true = LU1 21 := by kernel_rfl
set_option maxRecDepth 100000 in
theorem cU1_20 {Q : Exit → Act → World → Prop} {S : World → Prop} {a : Act} {w : World}
    (h : ∀ K' : Act → World → Prop, Shut (∀ a w, S w → (S w → wpAnyH Tryz.prog .any opsU1 Q S 2 (LU1 21) a w) → K' a w) → if Region.wanted qU1_20 (yielded opsU1 a.tmps) = true then Oper.wp Tryz.prog qU1_20 a w K' Q else K' (a.put (some 25) undef) w) :
    wpAnyH Tryz.prog .any opsU1 Q S 3 (LU1 20) a w :=
  wpAnyH_ready (rs := [20]) (by kernel_rfl) (by simp) (AllReadyH.cons hU1_20 (fun K' hK => h K' (lU1_20 ▸ hK)) AllReadyH.nil)
theorem tU1_20 {Q : Exit → Act → World → Prop} {S : World → Prop} {a : Act} {w : World} (v : Value) (hQ : ∀ c a w, Q (.panic c) (a.put (some 25) v) w → Q (.panic c) a w) (hy : YieldsIf Tryz.prog opsU1 S qU1_20 v a) (hS : S w)
    (h : wpAnyH Tryz.prog .any opsU1 Q S 2 (LU1 21) (a.put (some 25) v) w) : wpAnyH Tryz.prog .any opsU1 Q S 3 (LU1 20) a w :=
  wpAnyH_take (i := 20) hU1_20 noselU1 (by kernel_rfl) (by kernel_rfl) hQ hy hS (lU1_20.symm ▸ h)
def qU1_21 : Oper := { dst := some 26, op := Op.call { callee := Callee.value (Operand.func 51), args := #[Operand.tmp 25], argTypes := #[62] }, type := 3, pos := "l05_records.go:36", after := #[{ on := 20, ground := Ground.data }, { on := 19, ground := Ground.chain }], guard := none }
theorem hU1_21 : opsU1[21]? = some qU1_21 := by kernel_rfl
theorem lU1_21 : (LU1 21).setIfInBounds 21 true = LU1 22 := by kernel_rfl
set_option maxRecDepth 100000 in
theorem cU1_21 {Q : Exit → Act → World → Prop} {S : World → Prop} {a : Act} {w : World}
    (h : ∀ K' : Act → World → Prop, Shut (∀ a w, S w → (S w → wpAnyH Tryz.prog .any opsU1 Q S 1 (LU1 22) a w) → K' a w) → if Region.wanted qU1_21 (yielded opsU1 a.tmps) = true then Oper.wp Tryz.prog qU1_21 a w K' Q else K' (a.put (some 26) undef) w) :
    wpAnyH Tryz.prog .any opsU1 Q S 2 (LU1 21) a w :=
  wpAnyH_ready (rs := [21]) (by kernel_rfl) (by simp) (AllReadyH.cons hU1_21 (fun K' hK => h K' (lU1_21 ▸ hK)) AllReadyH.nil)
theorem tU1_21 {Q : Exit → Act → World → Prop} {S : World → Prop} {a : Act} {w : World} (v : Value) (hQ : ∀ c a w, Q (.panic c) (a.put (some 26) v) w → Q (.panic c) a w) (hy : YieldsIf Tryz.prog opsU1 S qU1_21 v a) (hS : S w)
    (h : wpAnyH Tryz.prog .any opsU1 Q S 1 (LU1 22) (a.put (some 26) v) w) : wpAnyH Tryz.prog .any opsU1 Q S 2 (LU1 21) a w :=
  wpAnyH_take (i := 21) hU1_21 noselU1 (by kernel_rfl) (by kernel_rfl) hQ hy hS (lU1_21.symm ▸ h)
def qU1_22 : Oper := { dst := some 4, op := Op.assign (Operand.tmp 26), type := 3, pos := "l05_records.go:36", after := #[{ on := 21, ground := Ground.data }, { on := 21, ground := Ground.chain }, { on := 0, ground := Ground.phase }, { on := 1, ground := Ground.phase }, { on := 2, ground := Ground.phase }, { on := 3, ground := Ground.phase }, { on := 4, ground := Ground.phase }, { on := 5, ground := Ground.phase }, { on := 6, ground := Ground.phase }, { on := 7, ground := Ground.phase }, { on := 8, ground := Ground.phase }, { on := 9, ground := Ground.phase }, { on := 10, ground := Ground.phase }, { on := 11, ground := Ground.phase }, { on := 12, ground := Ground.phase }, { on := 13, ground := Ground.phase }, { on := 14, ground := Ground.phase }, { on := 15, ground := Ground.phase }, { on := 16, ground := Ground.phase }, { on := 17, ground := Ground.phase }, { on := 18, ground := Ground.phase }, { on := 19, ground := Ground.phase }, { on := 20, ground := Ground.phase }, { on := 21, ground := Ground.phase }], guard := none }
theorem hU1_22 : opsU1[22]? = some qU1_22 := by kernel_rfl
theorem lU1_22 : (LU1 22).setIfInBounds 22 true = LU1 23 := by kernel_rfl
theorem tU1_22 {Q : Exit → Act → World → Prop} {S : World → Prop} {a : Act} {w : World} (v : Value) (hQ : ∀ c a w, Q (.panic c) (a.put (some 4) v) w → Q (.panic c) a w) (hy : YieldsIf Tryz.prog opsU1 S qU1_22 v a) (hS : S w)
    (h : wpAnyH Tryz.prog .any opsU1 Q S 0 (LU1 23) (a.put (some 4) v) w) : wpAnyH Tryz.prog .any opsU1 Q S 1 (LU1 22) a w :=
  wpAnyH_take (i := 22) hU1_22 noselU1 (by kernel_rfl) (by kernel_rfl) hQ hy hS (lU1_22.symm ▸ h)
end Go.Proofs.YtdmbkjebagnloaaGreatDoor.hexes
