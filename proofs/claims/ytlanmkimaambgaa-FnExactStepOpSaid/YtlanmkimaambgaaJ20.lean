/-
  A statement of spec.CellOrder: its operations, and a theorem a step.
-/
import Derived.Test.YtlanmkimaambgaaProg
import Derived.WalkKit
import Derived.Deep.RegionHeld3

namespace Go.Proofs.Ytlanmkimaambgaa.hexes
open Go.RowKit

def findE1 (n : Nat) : Code → Option Code
  | .region id ops d => if id = n then some (.region id ops d) else none
  | .seq a b => match findE1 n a with
    | some c => some c
    | none => findE1 n b
  | .block _ c => findE1 n c
  | .scope c => findE1 n c
  | .loop c => findE1 n c
  | .cond _ a b => match findE1 n a with
    | some c => some c
    | none => findE1 n b
  | _ => none
def opsOfE1 : Option Code → Array Oper
  | some (.region _ ops _) => ops
  | _ => #[]
noncomputable def opsE1 : Array Oper := opsOfE1 (Try.f98.body.bind (findE1 1))
def schE1 : List Nat := [0, 1, 2, 3, 5, 6, 7, 8, 10, 11, 12, 13, 15, 16, 17, 18, 4, 9, 14, 19, 20, 21]
def LE1 (k : Nat) : Array Bool := ((List.range 22).map fun i => (schE1.take k).contains i).toArray
theorem noselE1 : Region.noSelect opsE1 = true := by kernel_rfl
def qE1_0 : Oper := { dst := some 7, op := Op.fieldAddr 75 (Operand.tmp 2) 1, type := 0, pos := "l09_memory.go:6", after := #[], guard := none }
theorem hE1_0 : opsE1[0]? = some qE1_0 := by kernel_rfl
theorem lE1_0 : (LE1 0).setIfInBounds 0 true = LE1 1 := by kernel_rfl
theorem tE1_0 {Q : Exit → Act → World → Prop} {S : World → Prop} {a : Act} {w : World} (v : Value) (hQ : ∀ c a w, Q (.panic c) (a.put (some 7) v) w → Q (.panic c) a w) (hy : YieldsIf Try.prog opsE1 S qE1_0 v a) (hS : S w)
    (h : wpAnyH Try.prog .any opsE1 Q S 21 (LE1 1) (a.put (some 7) v) w) : wpAnyH Try.prog .any opsE1 Q S 22 (LE1 0) a w :=
  wpAnyH_take (i := 0) hE1_0 noselE1 (by kernel_rfl) (by kernel_rfl) hQ hy hS (lE1_0.symm ▸ h)
def qE1_1 : Oper := { dst := some 8, op := Op.load 3 (Operand.tmp 7), type := 3, pos := "l09_memory.go:6", after := #[{ on := 0, ground := Ground.data }], guard := none }
theorem hE1_1 : opsE1[1]? = some qE1_1 := by kernel_rfl
theorem lE1_1 : (LE1 1).setIfInBounds 1 true = LE1 2 := by kernel_rfl
theorem tE1_1 {Q : Exit → Act → World → Prop} {S : World → Prop} {a : Act} {w : World} (v : Value) (hQ : ∀ c a w, Q (.panic c) (a.put (some 8) v) w → Q (.panic c) a w) (hy : YieldsIf Try.prog opsE1 S qE1_1 v a) (hS : S w)
    (h : wpAnyH Try.prog .any opsE1 Q S 20 (LE1 2) (a.put (some 8) v) w) : wpAnyH Try.prog .any opsE1 Q S 21 (LE1 1) a w :=
  wpAnyH_take (i := 1) hE1_1 noselE1 (by kernel_rfl) (by kernel_rfl) hQ hy hS (lE1_1.symm ▸ h)
def qE1_2 : Oper := { dst := some 9, op := Op.fieldAddr 75 (Operand.tmp 3) 1, type := 0, pos := "l09_memory.go:6", after := #[], guard := none }
theorem hE1_2 : opsE1[2]? = some qE1_2 := by kernel_rfl
theorem lE1_2 : (LE1 2).setIfInBounds 2 true = LE1 3 := by kernel_rfl
theorem tE1_2 {Q : Exit → Act → World → Prop} {S : World → Prop} {a : Act} {w : World} (v : Value) (hQ : ∀ c a w, Q (.panic c) (a.put (some 9) v) w → Q (.panic c) a w) (hy : YieldsIf Try.prog opsE1 S qE1_2 v a) (hS : S w)
    (h : wpAnyH Try.prog .any opsE1 Q S 19 (LE1 3) (a.put (some 9) v) w) : wpAnyH Try.prog .any opsE1 Q S 20 (LE1 2) a w :=
  wpAnyH_take (i := 2) hE1_2 noselE1 (by kernel_rfl) (by kernel_rfl) hQ hy hS (lE1_2.symm ▸ h)
def qE1_3 : Oper := { dst := some 10, op := Op.load 3 (Operand.tmp 9), type := 3, pos := "l09_memory.go:6", after := #[{ on := 2, ground := Ground.data }], guard := none }
theorem hE1_3 : opsE1[3]? = some qE1_3 := by kernel_rfl
theorem lE1_3 : (LE1 3).setIfInBounds 3 true = LE1 4 := by kernel_rfl
theorem tE1_3 {Q : Exit → Act → World → Prop} {S : World → Prop} {a : Act} {w : World} (v : Value) (hQ : ∀ c a w, Q (.panic c) (a.put (some 10) v) w → Q (.panic c) a w) (hy : YieldsIf Try.prog opsE1 S qE1_3 v a) (hS : S w)
    (h : wpAnyH Try.prog .any opsE1 Q S 18 (LE1 4) (a.put (some 10) v) w) : wpAnyH Try.prog .any opsE1 Q S 19 (LE1 3) a w :=
  wpAnyH_take (i := 3) hE1_3 noselE1 (by kernel_rfl) (by kernel_rfl) hQ hy hS (lE1_3.symm ▸ h)
def qE1_5 : Oper := { dst := some 12, op := Op.fieldAddr 75 (Operand.tmp 2) 0, type := 0, pos := "l09_memory.go:6", after := #[], guard := none }
theorem hE1_5 : opsE1[5]? = some qE1_5 := by kernel_rfl
theorem lE1_4 : (LE1 4).setIfInBounds 5 true = LE1 5 := by kernel_rfl
theorem tE1_4 {Q : Exit → Act → World → Prop} {S : World → Prop} {a : Act} {w : World} (v : Value) (hQ : ∀ c a w, Q (.panic c) (a.put (some 12) v) w → Q (.panic c) a w) (hy : YieldsIf Try.prog opsE1 S qE1_5 v a) (hS : S w)
    (h : wpAnyH Try.prog .any opsE1 Q S 17 (LE1 5) (a.put (some 12) v) w) : wpAnyH Try.prog .any opsE1 Q S 18 (LE1 4) a w :=
  wpAnyH_take (i := 5) hE1_5 noselE1 (by kernel_rfl) (by kernel_rfl) hQ hy hS (lE1_4.symm ▸ h)
def qE1_6 : Oper := { dst := some 13, op := Op.load 3 (Operand.tmp 12), type := 3, pos := "l09_memory.go:6", after := #[{ on := 5, ground := Ground.data }], guard := none }
theorem hE1_6 : opsE1[6]? = some qE1_6 := by kernel_rfl
theorem lE1_5 : (LE1 5).setIfInBounds 6 true = LE1 6 := by kernel_rfl
theorem tE1_5 {Q : Exit → Act → World → Prop} {S : World → Prop} {a : Act} {w : World} (v : Value) (hQ : ∀ c a w, Q (.panic c) (a.put (some 13) v) w → Q (.panic c) a w) (hy : YieldsIf Try.prog opsE1 S qE1_6 v a) (hS : S w)
    (h : wpAnyH Try.prog .any opsE1 Q S 16 (LE1 6) (a.put (some 13) v) w) : wpAnyH Try.prog .any opsE1 Q S 17 (LE1 5) a w :=
  wpAnyH_take (i := 6) hE1_6 noselE1 (by kernel_rfl) (by kernel_rfl) hQ hy hS (lE1_5.symm ▸ h)
def qE1_7 : Oper := { dst := some 14, op := Op.fieldAddr 75 (Operand.tmp 3) 0, type := 0, pos := "l09_memory.go:6", after := #[], guard := none }
theorem hE1_7 : opsE1[7]? = some qE1_7 := by kernel_rfl
theorem lE1_6 : (LE1 6).setIfInBounds 7 true = LE1 7 := by kernel_rfl
theorem tE1_6 {Q : Exit → Act → World → Prop} {S : World → Prop} {a : Act} {w : World} (v : Value) (hQ : ∀ c a w, Q (.panic c) (a.put (some 14) v) w → Q (.panic c) a w) (hy : YieldsIf Try.prog opsE1 S qE1_7 v a) (hS : S w)
    (h : wpAnyH Try.prog .any opsE1 Q S 15 (LE1 7) (a.put (some 14) v) w) : wpAnyH Try.prog .any opsE1 Q S 16 (LE1 6) a w :=
  wpAnyH_take (i := 7) hE1_7 noselE1 (by kernel_rfl) (by kernel_rfl) hQ hy hS (lE1_6.symm ▸ h)
def qE1_8 : Oper := { dst := some 15, op := Op.load 3 (Operand.tmp 14), type := 3, pos := "l09_memory.go:6", after := #[{ on := 7, ground := Ground.data }], guard := none }
theorem hE1_8 : opsE1[8]? = some qE1_8 := by kernel_rfl
theorem lE1_7 : (LE1 7).setIfInBounds 8 true = LE1 8 := by kernel_rfl
theorem tE1_7 {Q : Exit → Act → World → Prop} {S : World → Prop} {a : Act} {w : World} (v : Value) (hQ : ∀ c a w, Q (.panic c) (a.put (some 15) v) w → Q (.panic c) a w) (hy : YieldsIf Try.prog opsE1 S qE1_8 v a) (hS : S w)
    (h : wpAnyH Try.prog .any opsE1 Q S 14 (LE1 8) (a.put (some 15) v) w) : wpAnyH Try.prog .any opsE1 Q S 15 (LE1 7) a w :=
  wpAnyH_take (i := 8) hE1_8 noselE1 (by kernel_rfl) (by kernel_rfl) hQ hy hS (lE1_7.symm ▸ h)
def qE1_10 : Oper := { dst := some 17, op := Op.fieldAddr 75 (Operand.tmp 2) 2, type := 0, pos := "l09_memory.go:6", after := #[], guard := none }
theorem hE1_10 : opsE1[10]? = some qE1_10 := by kernel_rfl
theorem lE1_8 : (LE1 8).setIfInBounds 10 true = LE1 9 := by kernel_rfl
theorem tE1_8 {Q : Exit → Act → World → Prop} {S : World → Prop} {a : Act} {w : World} (v : Value) (hQ : ∀ c a w, Q (.panic c) (a.put (some 17) v) w → Q (.panic c) a w) (hy : YieldsIf Try.prog opsE1 S qE1_10 v a) (hS : S w)
    (h : wpAnyH Try.prog .any opsE1 Q S 13 (LE1 9) (a.put (some 17) v) w) : wpAnyH Try.prog .any opsE1 Q S 14 (LE1 8) a w :=
  wpAnyH_take (i := 10) hE1_10 noselE1 (by kernel_rfl) (by kernel_rfl) hQ hy hS (lE1_8.symm ▸ h)
def qE1_11 : Oper := { dst := some 18, op := Op.load 3 (Operand.tmp 17), type := 3, pos := "l09_memory.go:6", after := #[{ on := 10, ground := Ground.data }], guard := none }
theorem hE1_11 : opsE1[11]? = some qE1_11 := by kernel_rfl
theorem lE1_9 : (LE1 9).setIfInBounds 11 true = LE1 10 := by kernel_rfl
theorem tE1_9 {Q : Exit → Act → World → Prop} {S : World → Prop} {a : Act} {w : World} (v : Value) (hQ : ∀ c a w, Q (.panic c) (a.put (some 18) v) w → Q (.panic c) a w) (hy : YieldsIf Try.prog opsE1 S qE1_11 v a) (hS : S w)
    (h : wpAnyH Try.prog .any opsE1 Q S 12 (LE1 10) (a.put (some 18) v) w) : wpAnyH Try.prog .any opsE1 Q S 13 (LE1 9) a w :=
  wpAnyH_take (i := 11) hE1_11 noselE1 (by kernel_rfl) (by kernel_rfl) hQ hy hS (lE1_9.symm ▸ h)
def qE1_12 : Oper := { dst := some 19, op := Op.fieldAddr 75 (Operand.tmp 3) 2, type := 0, pos := "l09_memory.go:6", after := #[], guard := none }
theorem hE1_12 : opsE1[12]? = some qE1_12 := by kernel_rfl
theorem lE1_10 : (LE1 10).setIfInBounds 12 true = LE1 11 := by kernel_rfl
theorem tE1_10 {Q : Exit → Act → World → Prop} {S : World → Prop} {a : Act} {w : World} (v : Value) (hQ : ∀ c a w, Q (.panic c) (a.put (some 19) v) w → Q (.panic c) a w) (hy : YieldsIf Try.prog opsE1 S qE1_12 v a) (hS : S w)
    (h : wpAnyH Try.prog .any opsE1 Q S 11 (LE1 11) (a.put (some 19) v) w) : wpAnyH Try.prog .any opsE1 Q S 12 (LE1 10) a w :=
  wpAnyH_take (i := 12) hE1_12 noselE1 (by kernel_rfl) (by kernel_rfl) hQ hy hS (lE1_10.symm ▸ h)
def qE1_13 : Oper := { dst := some 20, op := Op.load 3 (Operand.tmp 19), type := 3, pos := "l09_memory.go:6", after := #[{ on := 12, ground := Ground.data }], guard := none }
theorem hE1_13 : opsE1[13]? = some qE1_13 := by kernel_rfl
theorem lE1_11 : (LE1 11).setIfInBounds 13 true = LE1 12 := by kernel_rfl
theorem tE1_11 {Q : Exit → Act → World → Prop} {S : World → Prop} {a : Act} {w : World} (v : Value) (hQ : ∀ c a w, Q (.panic c) (a.put (some 20) v) w → Q (.panic c) a w) (hy : YieldsIf Try.prog opsE1 S qE1_13 v a) (hS : S w)
    (h : wpAnyH Try.prog .any opsE1 Q S 10 (LE1 12) (a.put (some 20) v) w) : wpAnyH Try.prog .any opsE1 Q S 11 (LE1 11) a w :=
  wpAnyH_take (i := 13) hE1_13 noselE1 (by kernel_rfl) (by kernel_rfl) hQ hy hS (lE1_11.symm ▸ h)
def qE1_15 : Oper := { dst := some 22, op := Op.fieldAddr 75 (Operand.tmp 2) 3, type := 0, pos := "l09_memory.go:6", after := #[], guard := none }
theorem hE1_15 : opsE1[15]? = some qE1_15 := by kernel_rfl
theorem lE1_12 : (LE1 12).setIfInBounds 15 true = LE1 13 := by kernel_rfl
theorem tE1_12 {Q : Exit → Act → World → Prop} {S : World → Prop} {a : Act} {w : World} (v : Value) (hQ : ∀ c a w, Q (.panic c) (a.put (some 22) v) w → Q (.panic c) a w) (hy : YieldsIf Try.prog opsE1 S qE1_15 v a) (hS : S w)
    (h : wpAnyH Try.prog .any opsE1 Q S 9 (LE1 13) (a.put (some 22) v) w) : wpAnyH Try.prog .any opsE1 Q S 10 (LE1 12) a w :=
  wpAnyH_take (i := 15) hE1_15 noselE1 (by kernel_rfl) (by kernel_rfl) hQ hy hS (lE1_12.symm ▸ h)
def qE1_16 : Oper := { dst := some 23, op := Op.load 3 (Operand.tmp 22), type := 3, pos := "l09_memory.go:6", after := #[{ on := 15, ground := Ground.data }], guard := none }
theorem hE1_16 : opsE1[16]? = some qE1_16 := by kernel_rfl
theorem lE1_13 : (LE1 13).setIfInBounds 16 true = LE1 14 := by kernel_rfl
theorem tE1_13 {Q : Exit → Act → World → Prop} {S : World → Prop} {a : Act} {w : World} (v : Value) (hQ : ∀ c a w, Q (.panic c) (a.put (some 23) v) w → Q (.panic c) a w) (hy : YieldsIf Try.prog opsE1 S qE1_16 v a) (hS : S w)
    (h : wpAnyH Try.prog .any opsE1 Q S 8 (LE1 14) (a.put (some 23) v) w) : wpAnyH Try.prog .any opsE1 Q S 9 (LE1 13) a w :=
  wpAnyH_take (i := 16) hE1_16 noselE1 (by kernel_rfl) (by kernel_rfl) hQ hy hS (lE1_13.symm ▸ h)
def qE1_17 : Oper := { dst := some 24, op := Op.fieldAddr 75 (Operand.tmp 3) 3, type := 0, pos := "l09_memory.go:6", after := #[], guard := none }
theorem hE1_17 : opsE1[17]? = some qE1_17 := by kernel_rfl
theorem lE1_14 : (LE1 14).setIfInBounds 17 true = LE1 15 := by kernel_rfl
theorem tE1_14 {Q : Exit → Act → World → Prop} {S : World → Prop} {a : Act} {w : World} (v : Value) (hQ : ∀ c a w, Q (.panic c) (a.put (some 24) v) w → Q (.panic c) a w) (hy : YieldsIf Try.prog opsE1 S qE1_17 v a) (hS : S w)
    (h : wpAnyH Try.prog .any opsE1 Q S 7 (LE1 15) (a.put (some 24) v) w) : wpAnyH Try.prog .any opsE1 Q S 8 (LE1 14) a w :=
  wpAnyH_take (i := 17) hE1_17 noselE1 (by kernel_rfl) (by kernel_rfl) hQ hy hS (lE1_14.symm ▸ h)
def qE1_18 : Oper := { dst := some 25, op := Op.load 3 (Operand.tmp 24), type := 3, pos := "l09_memory.go:6", after := #[{ on := 17, ground := Ground.data }], guard := none }
theorem hE1_18 : opsE1[18]? = some qE1_18 := by kernel_rfl
theorem lE1_15 : (LE1 15).setIfInBounds 18 true = LE1 16 := by kernel_rfl
theorem tE1_15 {Q : Exit → Act → World → Prop} {S : World → Prop} {a : Act} {w : World} (v : Value) (hQ : ∀ c a w, Q (.panic c) (a.put (some 25) v) w → Q (.panic c) a w) (hy : YieldsIf Try.prog opsE1 S qE1_18 v a) (hS : S w)
    (h : wpAnyH Try.prog .any opsE1 Q S 6 (LE1 16) (a.put (some 25) v) w) : wpAnyH Try.prog .any opsE1 Q S 7 (LE1 15) a w :=
  wpAnyH_take (i := 18) hE1_18 noselE1 (by kernel_rfl) (by kernel_rfl) hQ hy hS (lE1_15.symm ▸ h)
def qE1_4 : Oper := { dst := some 11, op := Op.call { callee := Callee.value (Operand.func 111), args := #[Operand.tmp 8, Operand.tmp 10], argTypes := #[3, 3] }, type := 3, pos := "l09_memory.go:6", after := #[{ on := 1, ground := Ground.data }, { on := 3, ground := Ground.data }], guard := none }
theorem hE1_4 : opsE1[4]? = some qE1_4 := by kernel_rfl
theorem lE1_16 : (LE1 16).setIfInBounds 4 true = LE1 17 := by kernel_rfl
set_option maxRecDepth 100000 in
theorem cE1_16 {Q : Exit → Act → World → Prop} {S : World → Prop} {a : Act} {w : World}
    (h : ∀ K' : Act → World → Prop, Shut (∀ a w, S w → (S w → wpAnyH Try.prog .any opsE1 Q S 5 (LE1 17) a w) → K' a w) → if Region.wanted qE1_4 (yielded opsE1 a.tmps) = true then Oper.wp Try.prog qE1_4 a w K' Q else K' (a.put (some 11) undef) w) :
    wpAnyH Try.prog .any opsE1 Q S 6 (LE1 16) a w :=
  wpAnyH_ready (rs := [4]) (by kernel_rfl) (by simp) (AllReadyH.cons hE1_4 (fun K' hK => h K' (lE1_16 ▸ hK)) AllReadyH.nil)
def qE1_9 : Oper := { dst := some 16, op := Op.call { callee := Callee.value (Operand.func 111), args := #[Operand.tmp 13, Operand.tmp 15], argTypes := #[3, 3] }, type := 3, pos := "l09_memory.go:6", after := #[{ on := 6, ground := Ground.data }, { on := 8, ground := Ground.data }, { on := 4, ground := Ground.chain }], guard := none }
theorem hE1_9 : opsE1[9]? = some qE1_9 := by kernel_rfl
theorem lE1_17 : (LE1 17).setIfInBounds 9 true = LE1 18 := by kernel_rfl
set_option maxRecDepth 100000 in
theorem cE1_17 {Q : Exit → Act → World → Prop} {S : World → Prop} {a : Act} {w : World}
    (h : ∀ K' : Act → World → Prop, Shut (∀ a w, S w → (S w → wpAnyH Try.prog .any opsE1 Q S 4 (LE1 18) a w) → K' a w) → if Region.wanted qE1_9 (yielded opsE1 a.tmps) = true then Oper.wp Try.prog qE1_9 a w K' Q else K' (a.put (some 16) undef) w) :
    wpAnyH Try.prog .any opsE1 Q S 5 (LE1 17) a w :=
  wpAnyH_ready (rs := [9]) (by kernel_rfl) (by simp) (AllReadyH.cons hE1_9 (fun K' hK => h K' (lE1_17 ▸ hK)) AllReadyH.nil)
def qE1_14 : Oper := { dst := some 21, op := Op.call { callee := Callee.value (Operand.func 111), args := #[Operand.tmp 18, Operand.tmp 20], argTypes := #[3, 3] }, type := 3, pos := "l09_memory.go:6", after := #[{ on := 11, ground := Ground.data }, { on := 13, ground := Ground.data }, { on := 9, ground := Ground.chain }], guard := none }
theorem hE1_14 : opsE1[14]? = some qE1_14 := by kernel_rfl
theorem lE1_18 : (LE1 18).setIfInBounds 14 true = LE1 19 := by kernel_rfl
set_option maxRecDepth 100000 in
theorem cE1_18 {Q : Exit → Act → World → Prop} {S : World → Prop} {a : Act} {w : World}
    (h : ∀ K' : Act → World → Prop, Shut (∀ a w, S w → (S w → wpAnyH Try.prog .any opsE1 Q S 3 (LE1 19) a w) → K' a w) → if Region.wanted qE1_14 (yielded opsE1 a.tmps) = true then Oper.wp Try.prog qE1_14 a w K' Q else K' (a.put (some 21) undef) w) :
    wpAnyH Try.prog .any opsE1 Q S 4 (LE1 18) a w :=
  wpAnyH_ready (rs := [14]) (by kernel_rfl) (by simp) (AllReadyH.cons hE1_14 (fun K' hK => h K' (lE1_18 ▸ hK)) AllReadyH.nil)
def qE1_19 : Oper := { dst := some 26, op := Op.call { callee := Callee.value (Operand.func 111), args := #[Operand.tmp 23, Operand.tmp 25], argTypes := #[3, 3] }, type := 3, pos := "l09_memory.go:6", after := #[{ on := 16, ground := Ground.data }, { on := 18, ground := Ground.data }, { on := 14, ground := Ground.chain }], guard := none }
theorem hE1_19 : opsE1[19]? = some qE1_19 := by kernel_rfl
theorem lE1_19 : (LE1 19).setIfInBounds 19 true = LE1 20 := by kernel_rfl
set_option maxRecDepth 100000 in
theorem cE1_19 {Q : Exit → Act → World → Prop} {S : World → Prop} {a : Act} {w : World}
    (h : ∀ K' : Act → World → Prop, Shut (∀ a w, S w → (S w → wpAnyH Try.prog .any opsE1 Q S 2 (LE1 20) a w) → K' a w) → if Region.wanted qE1_19 (yielded opsE1 a.tmps) = true then Oper.wp Try.prog qE1_19 a w K' Q else K' (a.put (some 26) undef) w) :
    wpAnyH Try.prog .any opsE1 Q S 3 (LE1 19) a w :=
  wpAnyH_ready (rs := [19]) (by kernel_rfl) (by simp) (AllReadyH.cons hE1_19 (fun K' hK => h K' (lE1_19 ▸ hK)) AllReadyH.nil)
def qE1_20 : Oper := { dst := some 27, op := Op.buildSlice 40 4 #[(0, Operand.tmp 11), (1, Operand.tmp 16), (2, Operand.tmp 21), (3, Operand.tmp 26)], type := 40, pos := "l09_memory.go:6", after := #[{ on := 4, ground := Ground.data }, { on := 9, ground := Ground.data }, { on := 14, ground := Ground.data }, { on := 19, ground := Ground.data }], guard := none }
theorem hE1_20 : opsE1[20]? = some qE1_20 := by kernel_rfl
theorem lE1_20 : (LE1 20).setIfInBounds 20 true = LE1 21 := by kernel_rfl
set_option maxRecDepth 100000 in
theorem cE1_20 {Q : Exit → Act → World → Prop} {S : World → Prop} {a : Act} {w : World}
    (h : ∀ K' : Act → World → Prop, Shut (∀ a w, S w → (S w → wpAnyH Try.prog .any opsE1 Q S 1 (LE1 21) a w) → K' a w) → if Region.wanted qE1_20 (yielded opsE1 a.tmps) = true then Oper.wp Try.prog qE1_20 a w K' Q else K' (a.put (some 27) undef) w) :
    wpAnyH Try.prog .any opsE1 Q S 2 (LE1 20) a w :=
  wpAnyH_ready (rs := [20]) (by kernel_rfl) (by simp) (AllReadyH.cons hE1_20 (fun K' hK => h K' (lE1_20 ▸ hK)) AllReadyH.nil)
def qE1_21 : Oper := { dst := some 5, op := Op.assign (Operand.tmp 27), type := 40, pos := "l09_memory.go:6", after := #[{ on := 20, ground := Ground.data }, { on := 19, ground := Ground.chain }, { on := 0, ground := Ground.phase }, { on := 1, ground := Ground.phase }, { on := 2, ground := Ground.phase }, { on := 3, ground := Ground.phase }, { on := 4, ground := Ground.phase }, { on := 5, ground := Ground.phase }, { on := 6, ground := Ground.phase }, { on := 7, ground := Ground.phase }, { on := 8, ground := Ground.phase }, { on := 9, ground := Ground.phase }, { on := 10, ground := Ground.phase }, { on := 11, ground := Ground.phase }, { on := 12, ground := Ground.phase }, { on := 13, ground := Ground.phase }, { on := 14, ground := Ground.phase }, { on := 15, ground := Ground.phase }, { on := 16, ground := Ground.phase }, { on := 17, ground := Ground.phase }, { on := 18, ground := Ground.phase }, { on := 19, ground := Ground.phase }, { on := 20, ground := Ground.phase }], guard := none }
theorem hE1_21 : opsE1[21]? = some qE1_21 := by kernel_rfl
theorem lE1_21 : (LE1 21).setIfInBounds 21 true = LE1 22 := by kernel_rfl
theorem tE1_21 {Q : Exit → Act → World → Prop} {S : World → Prop} {a : Act} {w : World} (v : Value) (hQ : ∀ c a w, Q (.panic c) (a.put (some 5) v) w → Q (.panic c) a w) (hy : YieldsIf Try.prog opsE1 S qE1_21 v a) (hS : S w)
    (h : wpAnyH Try.prog .any opsE1 Q S 0 (LE1 22) (a.put (some 5) v) w) : wpAnyH Try.prog .any opsE1 Q S 1 (LE1 21) a w :=
  wpAnyH_take (i := 21) hE1_21 noselE1 (by kernel_rfl) (by kernel_rfl) hQ hy hS (lE1_21.symm ▸ h)
end Go.Proofs.Ytlanmkimaambgaa.hexes

