/-
  A statement of impl.RecordText: its operations, and a theorem a step.
-/
import Derived.Test.YtdmbkjebagnloaaGreatDoorProg
import Derived.WalkKit
import Derived.Deep.RegionHeld3
namespace Go.Proofs.YtdmbkjebagnloaaGreatDoor.hexes
open Go.RowKit

def findX1 (n : Nat) : Code → Option Code
  | .region id ops d => if id = n then some (.region id ops d) else none
  | .seq a b => match findX1 n a with
    | some c => some c
    | none => findX1 n b
  | .block _ c => findX1 n c
  | .scope c => findX1 n c
  | .loop c => findX1 n c
  | .cond _ a b => match findX1 n a with
    | some c => some c
    | none => findX1 n b
  | _ => none
def opsOfX1 : Option Code → Array Oper
  | some (.region _ ops _) => ops
  | _ => #[]
noncomputable def opsX1 : Array Oper := opsOfX1 (Tryz.f18.body.bind (findX1 1))
def schX1 : List Nat := [0, 1, 3, 4, 6, 7, 9, 10, 2, 5, 8, 11, 12, 13, 14]
def LX1 (k : Nat) : Array Bool := ((List.range 15).map fun i => (schX1.take k).contains i).toArray
theorem noselX1 : Region.noSelect opsX1 = true := by kernel_rfl
def qX1_0 : Oper := { dst := some 3, op := Op.fieldAddr 32 (Operand.tmp 1) 0, type := 0, pos := "l05_records.go:91", after := #[], guard := none }
theorem hX1_0 : opsX1[0]? = some qX1_0 := by kernel_rfl
theorem lX1_0 : (LX1 0).setIfInBounds 0 true = LX1 1 := by kernel_rfl
theorem tX1_0 {Q : Exit → Act → World → Prop} {S : World → Prop} {a : Act} {w : World} (v : Value) (hQ : ∀ c a w, Q (.panic c) (a.put (some 3) v) w → Q (.panic c) a w) (hy : YieldsIf Tryz.prog opsX1 S qX1_0 v a) (hS : S w)
    (h : wpAnyH Tryz.prog .any opsX1 Q S 14 (LX1 1) (a.put (some 3) v) w) : wpAnyH Tryz.prog .any opsX1 Q S 15 (LX1 0) a w :=
  wpAnyH_take (i := 0) hX1_0 noselX1 (by kernel_rfl) (by kernel_rfl) hQ hy hS (lX1_0.symm ▸ h)
def qX1_1 : Oper := { dst := some 4, op := Op.load 3 (Operand.tmp 3), type := 3, pos := "l05_records.go:91", after := #[{ on := 0, ground := Ground.data }], guard := none }
theorem hX1_1 : opsX1[1]? = some qX1_1 := by kernel_rfl
theorem lX1_1 : (LX1 1).setIfInBounds 1 true = LX1 2 := by kernel_rfl
theorem tX1_1 {Q : Exit → Act → World → Prop} {S : World → Prop} {a : Act} {w : World} (v : Value) (hQ : ∀ c a w, Q (.panic c) (a.put (some 4) v) w → Q (.panic c) a w) (hy : YieldsIf Tryz.prog opsX1 S qX1_1 v a) (hS : S w)
    (h : wpAnyH Tryz.prog .any opsX1 Q S 13 (LX1 2) (a.put (some 4) v) w) : wpAnyH Tryz.prog .any opsX1 Q S 14 (LX1 1) a w :=
  wpAnyH_take (i := 1) hX1_1 noselX1 (by kernel_rfl) (by kernel_rfl) hQ hy hS (lX1_1.symm ▸ h)
def qX1_3 : Oper := { dst := some 6, op := Op.fieldAddr 32 (Operand.tmp 1) 1, type := 0, pos := "l05_records.go:91", after := #[], guard := none }
theorem hX1_3 : opsX1[3]? = some qX1_3 := by kernel_rfl
theorem lX1_2 : (LX1 2).setIfInBounds 3 true = LX1 3 := by kernel_rfl
theorem tX1_2 {Q : Exit → Act → World → Prop} {S : World → Prop} {a : Act} {w : World} (v : Value) (hQ : ∀ c a w, Q (.panic c) (a.put (some 6) v) w → Q (.panic c) a w) (hy : YieldsIf Tryz.prog opsX1 S qX1_3 v a) (hS : S w)
    (h : wpAnyH Tryz.prog .any opsX1 Q S 12 (LX1 3) (a.put (some 6) v) w) : wpAnyH Tryz.prog .any opsX1 Q S 13 (LX1 2) a w :=
  wpAnyH_take (i := 3) hX1_3 noselX1 (by kernel_rfl) (by kernel_rfl) hQ hy hS (lX1_2.symm ▸ h)
def qX1_4 : Oper := { dst := some 7, op := Op.load 30 (Operand.tmp 6), type := 30, pos := "l05_records.go:91", after := #[{ on := 3, ground := Ground.data }], guard := none }
theorem hX1_4 : opsX1[4]? = some qX1_4 := by kernel_rfl
theorem lX1_3 : (LX1 3).setIfInBounds 4 true = LX1 4 := by kernel_rfl
theorem tX1_3 {Q : Exit → Act → World → Prop} {S : World → Prop} {a : Act} {w : World} (v : Value) (hQ : ∀ c a w, Q (.panic c) (a.put (some 7) v) w → Q (.panic c) a w) (hy : YieldsIf Tryz.prog opsX1 S qX1_4 v a) (hS : S w)
    (h : wpAnyH Tryz.prog .any opsX1 Q S 11 (LX1 4) (a.put (some 7) v) w) : wpAnyH Tryz.prog .any opsX1 Q S 12 (LX1 3) a w :=
  wpAnyH_take (i := 4) hX1_4 noselX1 (by kernel_rfl) (by kernel_rfl) hQ hy hS (lX1_3.symm ▸ h)
def qX1_6 : Oper := { dst := some 9, op := Op.fieldAddr 32 (Operand.tmp 1) 2, type := 0, pos := "l05_records.go:91", after := #[], guard := none }
theorem hX1_6 : opsX1[6]? = some qX1_6 := by kernel_rfl
theorem lX1_4 : (LX1 4).setIfInBounds 6 true = LX1 5 := by kernel_rfl
theorem tX1_4 {Q : Exit → Act → World → Prop} {S : World → Prop} {a : Act} {w : World} (v : Value) (hQ : ∀ c a w, Q (.panic c) (a.put (some 9) v) w → Q (.panic c) a w) (hy : YieldsIf Tryz.prog opsX1 S qX1_6 v a) (hS : S w)
    (h : wpAnyH Tryz.prog .any opsX1 Q S 10 (LX1 5) (a.put (some 9) v) w) : wpAnyH Tryz.prog .any opsX1 Q S 11 (LX1 4) a w :=
  wpAnyH_take (i := 6) hX1_6 noselX1 (by kernel_rfl) (by kernel_rfl) hQ hy hS (lX1_4.symm ▸ h)
def qX1_7 : Oper := { dst := some 10, op := Op.load 3 (Operand.tmp 9), type := 3, pos := "l05_records.go:91", after := #[{ on := 6, ground := Ground.data }], guard := none }
theorem hX1_7 : opsX1[7]? = some qX1_7 := by kernel_rfl
theorem lX1_5 : (LX1 5).setIfInBounds 7 true = LX1 6 := by kernel_rfl
theorem tX1_5 {Q : Exit → Act → World → Prop} {S : World → Prop} {a : Act} {w : World} (v : Value) (hQ : ∀ c a w, Q (.panic c) (a.put (some 10) v) w → Q (.panic c) a w) (hy : YieldsIf Tryz.prog opsX1 S qX1_7 v a) (hS : S w)
    (h : wpAnyH Tryz.prog .any opsX1 Q S 9 (LX1 6) (a.put (some 10) v) w) : wpAnyH Tryz.prog .any opsX1 Q S 10 (LX1 5) a w :=
  wpAnyH_take (i := 7) hX1_7 noselX1 (by kernel_rfl) (by kernel_rfl) hQ hy hS (lX1_5.symm ▸ h)
def qX1_9 : Oper := { dst := some 12, op := Op.fieldAddr 32 (Operand.tmp 1) 3, type := 0, pos := "l05_records.go:91", after := #[], guard := none }
theorem hX1_9 : opsX1[9]? = some qX1_9 := by kernel_rfl
theorem lX1_6 : (LX1 6).setIfInBounds 9 true = LX1 7 := by kernel_rfl
theorem tX1_6 {Q : Exit → Act → World → Prop} {S : World → Prop} {a : Act} {w : World} (v : Value) (hQ : ∀ c a w, Q (.panic c) (a.put (some 12) v) w → Q (.panic c) a w) (hy : YieldsIf Tryz.prog opsX1 S qX1_9 v a) (hS : S w)
    (h : wpAnyH Tryz.prog .any opsX1 Q S 8 (LX1 7) (a.put (some 12) v) w) : wpAnyH Tryz.prog .any opsX1 Q S 9 (LX1 6) a w :=
  wpAnyH_take (i := 9) hX1_9 noselX1 (by kernel_rfl) (by kernel_rfl) hQ hy hS (lX1_6.symm ▸ h)
def qX1_10 : Oper := { dst := some 13, op := Op.load 3 (Operand.tmp 12), type := 3, pos := "l05_records.go:91", after := #[{ on := 9, ground := Ground.data }], guard := none }
theorem hX1_10 : opsX1[10]? = some qX1_10 := by kernel_rfl
theorem lX1_7 : (LX1 7).setIfInBounds 10 true = LX1 8 := by kernel_rfl
theorem tX1_7 {Q : Exit → Act → World → Prop} {S : World → Prop} {a : Act} {w : World} (v : Value) (hQ : ∀ c a w, Q (.panic c) (a.put (some 13) v) w → Q (.panic c) a w) (hy : YieldsIf Tryz.prog opsX1 S qX1_10 v a) (hS : S w)
    (h : wpAnyH Tryz.prog .any opsX1 Q S 7 (LX1 8) (a.put (some 13) v) w) : wpAnyH Tryz.prog .any opsX1 Q S 8 (LX1 7) a w :=
  wpAnyH_take (i := 10) hX1_10 noselX1 (by kernel_rfl) (by kernel_rfl) hQ hy hS (lX1_7.symm ▸ h)
def qX1_2 : Oper := { dst := some 5, op := Op.call { callee := Callee.value (Operand.func 40), args := #[Operand.tmp 4], argTypes := #[3] }, type := 9, pos := "l05_records.go:91", after := #[{ on := 1, ground := Ground.data }], guard := none }
theorem hX1_2 : opsX1[2]? = some qX1_2 := by kernel_rfl
theorem lX1_8 : (LX1 8).setIfInBounds 2 true = LX1 9 := by kernel_rfl
set_option maxRecDepth 100000 in
theorem cX1_8 {Q : Exit → Act → World → Prop} {S : World → Prop} {a : Act} {w : World}
    (h : ∀ K' : Act → World → Prop, Shut (∀ a w, S w → (S w → wpAnyH Tryz.prog .any opsX1 Q S 6 (LX1 9) a w) → K' a w) → if Region.wanted qX1_2 (yielded opsX1 a.tmps) = true then Oper.wp Tryz.prog qX1_2 a w K' Q else K' (a.put (some 5) undef) w) :
    wpAnyH Tryz.prog .any opsX1 Q S 7 (LX1 8) a w :=
  wpAnyH_ready (rs := [2]) (by kernel_rfl) (by simp) (AllReadyH.cons hX1_2 (fun K' hK => h K' (lX1_8 ▸ hK)) AllReadyH.nil)
theorem tX1_8 {Q : Exit → Act → World → Prop} {S : World → Prop} {a : Act} {w : World} (v : Value) (hQ : ∀ c a w, Q (.panic c) (a.put (some 5) v) w → Q (.panic c) a w) (hy : YieldsIf Tryz.prog opsX1 S qX1_2 v a) (hS : S w)
    (h : wpAnyH Tryz.prog .any opsX1 Q S 6 (LX1 9) (a.put (some 5) v) w) : wpAnyH Tryz.prog .any opsX1 Q S 7 (LX1 8) a w :=
  wpAnyH_take (i := 2) hX1_2 noselX1 (by kernel_rfl) (by kernel_rfl) hQ hy hS (lX1_8.symm ▸ h)
def qX1_5 : Oper := { dst := some 8, op := Op.call { callee := Callee.value (Operand.func 41), args := #[Operand.tmp 7], argTypes := #[30] }, type := 9, pos := "l05_records.go:91", after := #[{ on := 4, ground := Ground.data }, { on := 2, ground := Ground.chain }], guard := none }
theorem hX1_5 : opsX1[5]? = some qX1_5 := by kernel_rfl
theorem lX1_9 : (LX1 9).setIfInBounds 5 true = LX1 10 := by kernel_rfl
set_option maxRecDepth 100000 in
theorem cX1_9 {Q : Exit → Act → World → Prop} {S : World → Prop} {a : Act} {w : World}
    (h : ∀ K' : Act → World → Prop, Shut (∀ a w, S w → (S w → wpAnyH Tryz.prog .any opsX1 Q S 5 (LX1 10) a w) → K' a w) → if Region.wanted qX1_5 (yielded opsX1 a.tmps) = true then Oper.wp Tryz.prog qX1_5 a w K' Q else K' (a.put (some 8) undef) w) :
    wpAnyH Tryz.prog .any opsX1 Q S 6 (LX1 9) a w :=
  wpAnyH_ready (rs := [5]) (by kernel_rfl) (by simp) (AllReadyH.cons hX1_5 (fun K' hK => h K' (lX1_9 ▸ hK)) AllReadyH.nil)
theorem tX1_9 {Q : Exit → Act → World → Prop} {S : World → Prop} {a : Act} {w : World} (v : Value) (hQ : ∀ c a w, Q (.panic c) (a.put (some 8) v) w → Q (.panic c) a w) (hy : YieldsIf Tryz.prog opsX1 S qX1_5 v a) (hS : S w)
    (h : wpAnyH Tryz.prog .any opsX1 Q S 5 (LX1 10) (a.put (some 8) v) w) : wpAnyH Tryz.prog .any opsX1 Q S 6 (LX1 9) a w :=
  wpAnyH_take (i := 5) hX1_5 noselX1 (by kernel_rfl) (by kernel_rfl) hQ hy hS (lX1_9.symm ▸ h)
def qX1_8 : Oper := { dst := some 11, op := Op.call { callee := Callee.value (Operand.func 40), args := #[Operand.tmp 10], argTypes := #[3] }, type := 9, pos := "l05_records.go:91", after := #[{ on := 7, ground := Ground.data }, { on := 5, ground := Ground.chain }], guard := none }
theorem hX1_8 : opsX1[8]? = some qX1_8 := by kernel_rfl
theorem lX1_10 : (LX1 10).setIfInBounds 8 true = LX1 11 := by kernel_rfl
set_option maxRecDepth 100000 in
theorem cX1_10 {Q : Exit → Act → World → Prop} {S : World → Prop} {a : Act} {w : World}
    (h : ∀ K' : Act → World → Prop, Shut (∀ a w, S w → (S w → wpAnyH Tryz.prog .any opsX1 Q S 4 (LX1 11) a w) → K' a w) → if Region.wanted qX1_8 (yielded opsX1 a.tmps) = true then Oper.wp Tryz.prog qX1_8 a w K' Q else K' (a.put (some 11) undef) w) :
    wpAnyH Tryz.prog .any opsX1 Q S 5 (LX1 10) a w :=
  wpAnyH_ready (rs := [8]) (by kernel_rfl) (by simp) (AllReadyH.cons hX1_8 (fun K' hK => h K' (lX1_10 ▸ hK)) AllReadyH.nil)
theorem tX1_10 {Q : Exit → Act → World → Prop} {S : World → Prop} {a : Act} {w : World} (v : Value) (hQ : ∀ c a w, Q (.panic c) (a.put (some 11) v) w → Q (.panic c) a w) (hy : YieldsIf Tryz.prog opsX1 S qX1_8 v a) (hS : S w)
    (h : wpAnyH Tryz.prog .any opsX1 Q S 4 (LX1 11) (a.put (some 11) v) w) : wpAnyH Tryz.prog .any opsX1 Q S 5 (LX1 10) a w :=
  wpAnyH_take (i := 8) hX1_8 noselX1 (by kernel_rfl) (by kernel_rfl) hQ hy hS (lX1_10.symm ▸ h)
def qX1_11 : Oper := { dst := some 14, op := Op.call { callee := Callee.value (Operand.func 40), args := #[Operand.tmp 13], argTypes := #[3] }, type := 9, pos := "l05_records.go:91", after := #[{ on := 10, ground := Ground.data }, { on := 8, ground := Ground.chain }], guard := none }
theorem hX1_11 : opsX1[11]? = some qX1_11 := by kernel_rfl
theorem lX1_11 : (LX1 11).setIfInBounds 11 true = LX1 12 := by kernel_rfl
set_option maxRecDepth 100000 in
theorem cX1_11 {Q : Exit → Act → World → Prop} {S : World → Prop} {a : Act} {w : World}
    (h : ∀ K' : Act → World → Prop, Shut (∀ a w, S w → (S w → wpAnyH Tryz.prog .any opsX1 Q S 3 (LX1 12) a w) → K' a w) → if Region.wanted qX1_11 (yielded opsX1 a.tmps) = true then Oper.wp Tryz.prog qX1_11 a w K' Q else K' (a.put (some 14) undef) w) :
    wpAnyH Tryz.prog .any opsX1 Q S 4 (LX1 11) a w :=
  wpAnyH_ready (rs := [11]) (by kernel_rfl) (by simp) (AllReadyH.cons hX1_11 (fun K' hK => h K' (lX1_11 ▸ hK)) AllReadyH.nil)
theorem tX1_11 {Q : Exit → Act → World → Prop} {S : World → Prop} {a : Act} {w : World} (v : Value) (hQ : ∀ c a w, Q (.panic c) (a.put (some 14) v) w → Q (.panic c) a w) (hy : YieldsIf Tryz.prog opsX1 S qX1_11 v a) (hS : S w)
    (h : wpAnyH Tryz.prog .any opsX1 Q S 3 (LX1 12) (a.put (some 14) v) w) : wpAnyH Tryz.prog .any opsX1 Q S 4 (LX1 11) a w :=
  wpAnyH_take (i := 11) hX1_11 noselX1 (by kernel_rfl) (by kernel_rfl) hQ hy hS (lX1_11.symm ▸ h)
def qX1_12 : Oper := { dst := some 15, op := Op.buildSlice 59 4 #[(0, Operand.tmp 5), (1, Operand.tmp 8), (2, Operand.tmp 11), (3, Operand.tmp 14)], type := 59, pos := "l05_records.go:91", after := #[{ on := 2, ground := Ground.data }, { on := 5, ground := Ground.data }, { on := 8, ground := Ground.data }, { on := 11, ground := Ground.data }], guard := none }
theorem hX1_12 : opsX1[12]? = some qX1_12 := by kernel_rfl
theorem lX1_12 : (LX1 12).setIfInBounds 12 true = LX1 13 := by kernel_rfl
set_option maxRecDepth 100000 in
theorem cX1_12 {Q : Exit → Act → World → Prop} {S : World → Prop} {a : Act} {w : World}
    (h : ∀ K' : Act → World → Prop, Shut (∀ a w, S w → (S w → wpAnyH Tryz.prog .any opsX1 Q S 2 (LX1 13) a w) → K' a w) → if Region.wanted qX1_12 (yielded opsX1 a.tmps) = true then Oper.wp Tryz.prog qX1_12 a w K' Q else K' (a.put (some 15) undef) w) :
    wpAnyH Tryz.prog .any opsX1 Q S 3 (LX1 12) a w :=
  wpAnyH_ready (rs := [12]) (by kernel_rfl) (by simp) (AllReadyH.cons hX1_12 (fun K' hK => h K' (lX1_12 ▸ hK)) AllReadyH.nil)
theorem tX1_12 {Q : Exit → Act → World → Prop} {S : World → Prop} {a : Act} {w : World} (v : Value) (hQ : ∀ c a w, Q (.panic c) (a.put (some 15) v) w → Q (.panic c) a w) (hy : YieldsIf Tryz.prog opsX1 S qX1_12 v a) (hS : S w)
    (h : wpAnyH Tryz.prog .any opsX1 Q S 2 (LX1 13) (a.put (some 15) v) w) : wpAnyH Tryz.prog .any opsX1 Q S 3 (LX1 12) a w :=
  wpAnyH_take (i := 12) hX1_12 noselX1 (by kernel_rfl) (by kernel_rfl) hQ hy hS (lX1_12.symm ▸ h)
def qX1_13 : Oper := { dst := some 16, op := Op.call { callee := Callee.value (Operand.func 39), args := #[Operand.tmp 15, Operand.const (Value.string { data := #[58] })], argTypes := #[59, 9] }, type := 9, pos := "l05_records.go:91", after := #[{ on := 12, ground := Ground.data }, { on := 11, ground := Ground.chain }], guard := none }
theorem hX1_13 : opsX1[13]? = some qX1_13 := by kernel_rfl
theorem lX1_13 : (LX1 13).setIfInBounds 13 true = LX1 14 := by kernel_rfl
set_option maxRecDepth 100000 in
theorem cX1_13 {Q : Exit → Act → World → Prop} {S : World → Prop} {a : Act} {w : World}
    (h : ∀ K' : Act → World → Prop, Shut (∀ a w, S w → (S w → wpAnyH Tryz.prog .any opsX1 Q S 1 (LX1 14) a w) → K' a w) → if Region.wanted qX1_13 (yielded opsX1 a.tmps) = true then Oper.wp Tryz.prog qX1_13 a w K' Q else K' (a.put (some 16) undef) w) :
    wpAnyH Tryz.prog .any opsX1 Q S 2 (LX1 13) a w :=
  wpAnyH_ready (rs := [13]) (by kernel_rfl) (by simp) (AllReadyH.cons hX1_13 (fun K' hK => h K' (lX1_13 ▸ hK)) AllReadyH.nil)
theorem tX1_13 {Q : Exit → Act → World → Prop} {S : World → Prop} {a : Act} {w : World} (v : Value) (hQ : ∀ c a w, Q (.panic c) (a.put (some 16) v) w → Q (.panic c) a w) (hy : YieldsIf Tryz.prog opsX1 S qX1_13 v a) (hS : S w)
    (h : wpAnyH Tryz.prog .any opsX1 Q S 1 (LX1 14) (a.put (some 16) v) w) : wpAnyH Tryz.prog .any opsX1 Q S 2 (LX1 13) a w :=
  wpAnyH_take (i := 13) hX1_13 noselX1 (by kernel_rfl) (by kernel_rfl) hQ hy hS (lX1_13.symm ▸ h)
def qX1_14 : Oper := { dst := some 2, op := Op.assign (Operand.tmp 16), type := 9, pos := "l05_records.go:91", after := #[{ on := 13, ground := Ground.data }, { on := 13, ground := Ground.chain }, { on := 0, ground := Ground.phase }, { on := 1, ground := Ground.phase }, { on := 2, ground := Ground.phase }, { on := 3, ground := Ground.phase }, { on := 4, ground := Ground.phase }, { on := 5, ground := Ground.phase }, { on := 6, ground := Ground.phase }, { on := 7, ground := Ground.phase }, { on := 8, ground := Ground.phase }, { on := 9, ground := Ground.phase }, { on := 10, ground := Ground.phase }, { on := 11, ground := Ground.phase }, { on := 12, ground := Ground.phase }, { on := 13, ground := Ground.phase }], guard := none }
theorem hX1_14 : opsX1[14]? = some qX1_14 := by kernel_rfl
theorem lX1_14 : (LX1 14).setIfInBounds 14 true = LX1 15 := by kernel_rfl
theorem tX1_14 {Q : Exit → Act → World → Prop} {S : World → Prop} {a : Act} {w : World} (v : Value) (hQ : ∀ c a w, Q (.panic c) (a.put (some 2) v) w → Q (.panic c) a w) (hy : YieldsIf Tryz.prog opsX1 S qX1_14 v a) (hS : S w)
    (h : wpAnyH Tryz.prog .any opsX1 Q S 0 (LX1 15) (a.put (some 2) v) w) : wpAnyH Tryz.prog .any opsX1 Q S 1 (LX1 14) a w :=
  wpAnyH_take (i := 14) hX1_14 noselX1 (by kernel_rfl) (by kernel_rfl) hQ hy hS (lX1_14.symm ▸ h)
end Go.Proofs.YtdmbkjebagnloaaGreatDoor.hexes
