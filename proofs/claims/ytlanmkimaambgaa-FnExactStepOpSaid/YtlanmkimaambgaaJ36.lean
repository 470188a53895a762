/-
  A statement of impl.CellOrder: its operations, and a theorem a step.
-/
import Derived.Test.YtlanmkimaambgaaProg
import Derived.WalkKit
import Derived.Deep.RegionHeld3

namespace Go.Proofs.Ytlanmkimaambgaa.hexes
open Go.RowKit

def findE2 (n : Nat) : Code → Option Code
  | .region id ops d => if id = n then some (.region id ops d) else none
  | .seq a b => match findE2 n a with
    | some c => some c
    | none => findE2 n b
  | .block _ c => findE2 n c
  | .scope c => findE2 n c
  | .loop c => findE2 n c
  | .cond _ a b => match findE2 n a with
    | some c => some c
    | none => findE2 n b
  | _ => none
def opsOfE2 : Option Code → Array Oper
  | some (.region _ ops _) => ops
  | _ => #[]
noncomputable def opsE2 : Array Oper := opsOfE2 (Try.f114.body.bind (findE2 1))
def schE2 : List Nat := [0, 1, 2, 3, 5, 6, 7, 8, 10, 11, 12, 13, 15, 16, 17, 18, 4, 9, 14, 19, 20, 21, 22]
def LE2 (k : Nat) : Array Bool := ((List.range 23).map fun i => (schE2.take k).contains i).toArray
theorem noselE2 : Region.noSelect opsE2 = true := by kernel_rfl
def qE2_0 : Oper := { dst := some 5, op := Op.fieldAddr 75 (Operand.tmp 2) 1, type := 0, pos := "l09_memory.go:56", after := #[], guard := none }
theorem hE2_0 : opsE2[0]? = some qE2_0 := by kernel_rfl
theorem lE2_0 : (LE2 0).setIfInBounds 0 true = LE2 1 := by kernel_rfl
theorem tE2_0 {Q : Exit → Act → World → Prop} {S : World → Prop} {a : Act} {w : World} (v : Value) (hQ : ∀ c a w, Q (.panic c) (a.put (some 5) v) w → Q (.panic c) a w) (hy : YieldsIf Try.prog opsE2 S qE2_0 v a) (hS : S w)
    (h : wpAnyH Try.prog .any opsE2 Q S 22 (LE2 1) (a.put (some 5) v) w) : wpAnyH Try.prog .any opsE2 Q S 23 (LE2 0) a w :=
  wpAnyH_take (i := 0) hE2_0 noselE2 (by kernel_rfl) (by kernel_rfl) hQ hy hS (lE2_0.symm ▸ h)
def qE2_1 : Oper := { dst := some 6, op := Op.load 3 (Operand.tmp 5), type := 3, pos := "l09_memory.go:56", after := #[{ on := 0, ground := Ground.data }], guard := none }
theorem hE2_1 : opsE2[1]? = some qE2_1 := by kernel_rfl
theorem lE2_1 : (LE2 1).setIfInBounds 1 true = LE2 2 := by kernel_rfl
theorem tE2_1 {Q : Exit → Act → World → Prop} {S : World → Prop} {a : Act} {w : World} (v : Value) (hQ : ∀ c a w, Q (.panic c) (a.put (some 6) v) w → Q (.panic c) a w) (hy : YieldsIf Try.prog opsE2 S qE2_1 v a) (hS : S w)
    (h : wpAnyH Try.prog .any opsE2 Q S 21 (LE2 2) (a.put (some 6) v) w) : wpAnyH Try.prog .any opsE2 Q S 22 (LE2 1) a w :=
  wpAnyH_take (i := 1) hE2_1 noselE2 (by kernel_rfl) (by kernel_rfl) hQ hy hS (lE2_1.symm ▸ h)
def qE2_2 : Oper := { dst := some 7, op := Op.fieldAddr 75 (Operand.tmp 3) 1, type := 0, pos := "l09_memory.go:56", after := #[], guard := none }
theorem hE2_2 : opsE2[2]? = some qE2_2 := by kernel_rfl
theorem lE2_2 : (LE2 2).setIfInBounds 2 true = LE2 3 := by kernel_rfl
theorem tE2_2 {Q : Exit → Act → World → Prop} {S : World → Prop} {a : Act} {w : World} (v : Value) (hQ : ∀ c a w, Q (.panic c) (a.put (some 7) v) w → Q (.panic c) a w) (hy : YieldsIf Try.prog opsE2 S qE2_2 v a) (hS : S w)
    (h : wpAnyH Try.prog .any opsE2 Q S 20 (LE2 3) (a.put (some 7) v) w) : wpAnyH Try.prog .any opsE2 Q S 21 (LE2 2) a w :=
  wpAnyH_take (i := 2) hE2_2 noselE2 (by kernel_rfl) (by kernel_rfl) hQ hy hS (lE2_2.symm ▸ h)
def qE2_3 : Oper := { dst := some 8, op := Op.load 3 (Operand.tmp 7), type := 3, pos := "l09_memory.go:56", after := #[{ on := 2, ground := Ground.data }], guard := none }
theorem hE2_3 : opsE2[3]? = some qE2_3 := by kernel_rfl
theorem lE2_3 : (LE2 3).setIfInBounds 3 true = LE2 4 := by kernel_rfl
theorem tE2_3 {Q : Exit → Act → World → Prop} {S : World → Prop} {a : Act} {w : World} (v : Value) (hQ : ∀ c a w, Q (.panic c) (a.put (some 8) v) w → Q (.panic c) a w) (hy : YieldsIf Try.prog opsE2 S qE2_3 v a) (hS : S w)
    (h : wpAnyH Try.prog .any opsE2 Q S 19 (LE2 4) (a.put (some 8) v) w) : wpAnyH Try.prog .any opsE2 Q S 20 (LE2 3) a w :=
  wpAnyH_take (i := 3) hE2_3 noselE2 (by kernel_rfl) (by kernel_rfl) hQ hy hS (lE2_3.symm ▸ h)
def qE2_5 : Oper := { dst := some 10, op := Op.fieldAddr 75 (Operand.tmp 2) 0, type := 0, pos := "l09_memory.go:56", after := #[], guard := none }
theorem hE2_5 : opsE2[5]? = some qE2_5 := by kernel_rfl
theorem lE2_4 : (LE2 4).setIfInBounds 5 true = LE2 5 := by kernel_rfl
theorem tE2_4 {Q : Exit → Act → World → Prop} {S : World → Prop} {a : Act} {w : World} (v : Value) (hQ : ∀ c a w, Q (.panic c) (a.put (some 10) v) w → Q (.panic c) a w) (hy : YieldsIf Try.prog opsE2 S qE2_5 v a) (hS : S w)
    (h : wpAnyH Try.prog .any opsE2 Q S 18 (LE2 5) (a.put (some 10) v) w) : wpAnyH Try.prog .any opsE2 Q S 19 (LE2 4) a w :=
  wpAnyH_take (i := 5) hE2_5 noselE2 (by kernel_rfl) (by kernel_rfl) hQ hy hS (lE2_4.symm ▸ h)
def qE2_6 : Oper := { dst := some 11, op := Op.load 3 (Operand.tmp 10), type := 3, pos := "l09_memory.go:56", after := #[{ on := 5, ground := Ground.data }], guard := none }
theorem hE2_6 : opsE2[6]? = some qE2_6 := by kernel_rfl
theorem lE2_5 : (LE2 5).setIfInBounds 6 true = LE2 6 := by kernel_rfl
theorem tE2_5 {Q : Exit → Act → World → Prop} {S : World → Prop} {a : Act} {w : World} (v : Value) (hQ : ∀ c a w, Q (.panic c) (a.put (some 11) v) w → Q (.panic c) a w) (hy : YieldsIf Try.prog opsE2 S qE2_6 v a) (hS : S w)
    (h : wpAnyH Try.prog .any opsE2 Q S 17 (LE2 6) (a.put (some 11) v) w) : wpAnyH Try.prog .any opsE2 Q S 18 (LE2 5) a w :=
  wpAnyH_take (i := 6) hE2_6 noselE2 (by kernel_rfl) (by kernel_rfl) hQ hy hS (lE2_5.symm ▸ h)
def qE2_7 : Oper := { dst := some 12, op := Op.fieldAddr 75 (Operand.tmp 3) 0, type := 0, pos := "l09_memory.go:56", after := #[], guard := none }
theorem hE2_7 : opsE2[7]? = some qE2_7 := by kernel_rfl
theorem lE2_6 : (LE2 6).setIfInBounds 7 true = LE2 7 := by kernel_rfl
theorem tE2_6 {Q : Exit → Act → World → Prop} {S : World → Prop} {a : Act} {w : World} (v : Value) (hQ : ∀ c a w, Q (.panic c) (a.put (some 12) v) w → Q (.panic c) a w) (hy : YieldsIf Try.prog opsE2 S qE2_7 v a) (hS : S w)
    (h : wpAnyH Try.prog .any opsE2 Q S 16 (LE2 7) (a.put (some 12) v) w) : wpAnyH Try.prog .any opsE2 Q S 17 (LE2 6) a w :=
  wpAnyH_take (i := 7) hE2_7 noselE2 (by kernel_rfl) (by kernel_rfl) hQ hy hS (lE2_6.symm ▸ h)
def qE2_8 : Oper := { dst := some 13, op := Op.load 3 (Operand.tmp 12), type := 3, pos := "l09_memory.go:56", after := #[{ on := 7, ground := Ground.data }], guard := none }
theorem hE2_8 : opsE2[8]? = some qE2_8 := by kernel_rfl
theorem lE2_7 : (LE2 7).setIfInBounds 8 true = LE2 8 := by kernel_rfl
theorem tE2_7 {Q : Exit → Act → World → Prop} {S : World → Prop} {a : Act} {w : World} (v : Value) (hQ : ∀ c a w, Q (.panic c) (a.put (some 13) v) w → Q (.panic c) a w) (hy : YieldsIf Try.prog opsE2 S qE2_8 v a) (hS : S w)
    (h : wpAnyH Try.prog .any opsE2 Q S 15 (LE2 8) (a.put (some 13) v) w) : wpAnyH Try.prog .any opsE2 Q S 16 (LE2 7) a w :=
  wpAnyH_take (i := 8) hE2_8 noselE2 (by kernel_rfl) (by kernel_rfl) hQ hy hS (lE2_7.symm ▸ h)
def qE2_10 : Oper := { dst := some 15, op := Op.fieldAddr 75 (Operand.tmp 2) 2, type := 0, pos := "l09_memory.go:56", after := #[], guard := none }
theorem hE2_10 : opsE2[10]? = some qE2_10 := by kernel_rfl
theorem lE2_8 : (LE2 8).setIfInBounds 10 true = LE2 9 := by kernel_rfl
theorem tE2_8 {Q : Exit → Act → World → Prop} {S : World → Prop} {a : Act} {w : World} (v : Value) (hQ : ∀ c a w, Q (.panic c) (a.put (some 15) v) w → Q (.panic c) a w) (hy : YieldsIf Try.prog opsE2 S qE2_10 v a) (hS : S w)
    (h : wpAnyH Try.prog .any opsE2 Q S 14 (LE2 9) (a.put (some 15) v) w) : wpAnyH Try.prog .any opsE2 Q S 15 (LE2 8) a w :=
  wpAnyH_take (i := 10) hE2_10 noselE2 (by kernel_rfl) (by kernel_rfl) hQ hy hS (lE2_8.symm ▸ h)
def qE2_11 : Oper := { dst := some 16, op := Op.load 3 (Operand.tmp 15), type := 3, pos := "l09_memory.go:56", after := #[{ on := 10, ground := Ground.data }], guard := none }
theorem hE2_11 : opsE2[11]? = some qE2_11 := by kernel_rfl
theorem lE2_9 : (LE2 9).setIfInBounds 11 true = LE2 10 := by kernel_rfl
theorem tE2_9 {Q : Exit → Act → World → Prop} {S : World → Prop} {a : Act} {w : World} (v : Value) (hQ : ∀ c a w, Q (.panic c) (a.put (some 16) v) w → Q (.panic c) a w) (hy : YieldsIf Try.prog opsE2 S qE2_11 v a) (hS : S w)
    (h : wpAnyH Try.prog .any opsE2 Q S 13 (LE2 10) (a.put (some 16) v) w) : wpAnyH Try.prog .any opsE2 Q S 14 (LE2 9) a w :=
  wpAnyH_take (i := 11) hE2_11 noselE2 (by kernel_rfl) (by kernel_rfl) hQ hy hS (lE2_9.symm ▸ h)
def qE2_12 : Oper := { dst := some 17, op := Op.fieldAddr 75 (Operand.tmp 3) 2, type := 0, pos := "l09_memory.go:56", after := #[], guard := none }
theorem hE2_12 : opsE2[12]? = some qE2_12 := by kernel_rfl
theorem lE2_10 : (LE2 10).setIfInBounds 12 true = LE2 11 := by kernel_rfl
theorem tE2_10 {Q : Exit → Act → World → Prop} {S : World → Prop} {a : Act} {w : World} (v : Value) (hQ : ∀ c a w, Q (.panic c) (a.put (some 17) v) w → Q (.panic c) a w) (hy : YieldsIf Try.prog opsE2 S qE2_12 v a) (hS : S w)
    (h : wpAnyH Try.prog .any opsE2 Q S 12 (LE2 11) (a.put (some 17) v) w) : wpAnyH Try.prog .any opsE2 Q S 13 (LE2 10) a w :=
  wpAnyH_take (i := 12) hE2_12 noselE2 (by kernel_rfl) (by kernel_rfl) hQ hy hS (lE2_10.symm ▸ h)
def qE2_13 : Oper := { dst := some 18, op := Op.load 3 (Operand.tmp 17), type := 3, pos := "l09_memory.go:56", after := #[{ on := 12, ground := Ground.data }], guard := none }
theorem hE2_13 : opsE2[13]? = some qE2_13 := by kernel_rfl
theorem lE2_11 : (LE2 11).setIfInBounds 13 true = LE2 12 := by kernel_rfl
theorem tE2_11 {Q : Exit → Act → World → Prop} {S : World → Prop} {a : Act} {w : World} (v : Value) (hQ : ∀ c a w, Q (.panic c) (a.put (some 18) v) w → Q (.panic c) a w) (hy : YieldsIf Try.prog opsE2 S qE2_13 v a) (hS : S w)
    (h : wpAnyH Try.prog .any opsE2 Q S 11 (LE2 12) (a.put (some 18) v) w) : wpAnyH Try.prog .any opsE2 Q S 12 (LE2 11) a w :=
  wpAnyH_take (i := 13) hE2_13 noselE2 (by kernel_rfl) (by kernel_rfl) hQ hy hS (lE2_11.symm ▸ h)
def qE2_15 : Oper := { dst := some 20, op := Op.fieldAddr 75 (Operand.tmp 2) 3, type := 0, pos := "l09_memory.go:56", after := #[], guard := none }
theorem hE2_15 : opsE2[15]? = some qE2_15 := by kernel_rfl
theorem lE2_12 : (LE2 12).setIfInBounds 15 true = LE2 13 := by kernel_rfl
theorem tE2_12 {Q : Exit → Act → World → Prop} {S : World → Prop} {a : Act} {w : World} (v : Value) (hQ : ∀ c a w, Q (.panic c) (a.put (some 20) v) w → Q (.panic c) a w) (hy : YieldsIf Try.prog opsE2 S qE2_15 v a) (hS : S w)
    (h : wpAnyH Try.prog .any opsE2 Q S 10 (LE2 13) (a.put (some 20) v) w) : wpAnyH Try.prog .any opsE2 Q S 11 (LE2 12) a w :=
  wpAnyH_take (i := 15) hE2_15 noselE2 (by kernel_rfl) (by kernel_rfl) hQ hy hS (lE2_12.symm ▸ h)
def qE2_16 : Oper := { dst := some 21, op := Op.load 3 (Operand.tmp 20), type := 3, pos := "l09_memory.go:56", after := #[{ on := 15, ground := Ground.data }], guard := none }
theorem hE2_16 : opsE2[16]? = some qE2_16 := by kernel_rfl
theorem lE2_13 : (LE2 13).setIfInBounds 16 true = LE2 14 := by kernel_rfl
theorem tE2_13 {Q : Exit → Act → World → Prop} {S : World → Prop} {a : Act} {w : World} (v : Value) (hQ : ∀ c a w, Q (.panic c) (a.put (some 21) v) w → Q (.panic c) a w) (hy : YieldsIf Try.prog opsE2 S qE2_16 v a) (hS : S w)
    (h : wpAnyH Try.prog .any opsE2 Q S 9 (LE2 14) (a.put (some 21) v) w) : wpAnyH Try.prog .any opsE2 Q S 10 (LE2 13) a w :=
  wpAnyH_take (i := 16) hE2_16 noselE2 (by kernel_rfl) (by kernel_rfl) hQ hy hS (lE2_13.symm ▸ h)
def qE2_17 : Oper := { dst := some 22, op := Op.fieldAddr 75 (Operand.tmp 3) 3, type := 0, pos := "l09_memory.go:56", after := #[], guard := none }
theorem hE2_17 : opsE2[17]? = some qE2_17 := by kernel_rfl
theorem lE2_14 : (LE2 14).setIfInBounds 17 true = LE2 15 := by kernel_rfl
theorem tE2_14 {Q : Exit → Act → World → Prop} {S : World → Prop} {a : Act} {w : World} (v : Value) (hQ : ∀ c a w, Q (.panic c) (a.put (some 22) v) w → Q (.panic c) a w) (hy : YieldsIf Try.prog opsE2 S qE2_17 v a) (hS : S w)
    (h : wpAnyH Try.prog .any opsE2 Q S 8 (LE2 15) (a.put (some 22) v) w) : wpAnyH Try.prog .any opsE2 Q S 9 (LE2 14) a w :=
  wpAnyH_take (i := 17) hE2_17 noselE2 (by kernel_rfl) (by kernel_rfl) hQ hy hS (lE2_14.symm ▸ h)
def qE2_18 : Oper := { dst := some 23, op := Op.load 3 (Operand.tmp 22), type := 3, pos := "l09_memory.go:56", after := #[{ on := 17, ground := Ground.data }], guard := none }
theorem hE2_18 : opsE2[18]? = some qE2_18 := by kernel_rfl
theorem lE2_15 : (LE2 15).setIfInBounds 18 true = LE2 16 := by kernel_rfl
theorem tE2_15 {Q : Exit → Act → World → Prop} {S : World → Prop} {a : Act} {w : World} (v : Value) (hQ : ∀ c a w, Q (.panic c) (a.put (some 23) v) w → Q (.panic c) a w) (hy : YieldsIf Try.prog opsE2 S qE2_18 v a) (hS : S w)
    (h : wpAnyH Try.prog .any opsE2 Q S 7 (LE2 16) (a.put (some 23) v) w) : wpAnyH Try.prog .any opsE2 Q S 8 (LE2 15) a w :=
  wpAnyH_take (i := 18) hE2_18 noselE2 (by kernel_rfl) (by kernel_rfl) hQ hy hS (lE2_15.symm ▸ h)
def qE2_4 : Oper := { dst := some 9, op := Op.call { callee := Callee.value (Operand.func 121), args := #[Operand.tmp 6, Operand.tmp 8], argTypes := #[3, 3] }, type := 3, pos := "l09_memory.go:57", after := #[{ on := 1, ground := Ground.data }, { on := 3, ground := Ground.data }], guard := none }
theorem hE2_4 : opsE2[4]? = some qE2_4 := by kernel_rfl
theorem lE2_16 : (LE2 16).setIfInBounds 4 true = LE2 17 := by kernel_rfl
set_option maxRecDepth 100000 in
theorem cE2_16 {Q : Exit → Act → World → Prop} {S : World → Prop} {a : Act} {w : World}
    (h : ∀ K' : Act → World → Prop, Shut (∀ a w, S w → (S w → wpAnyH Try.prog .any opsE2 Q S 6 (LE2 17) a w) → K' a w) → if Region.wanted qE2_4 (yielded opsE2 a.tmps) = true then Oper.wp Try.prog qE2_4 a w K' Q else K' (a.put (some 9) undef) w) :
    wpAnyH Try.prog .any opsE2 Q S 7 (LE2 16) a w :=
  wpAnyH_ready (rs := [4]) (by kernel_rfl) (by simp) (AllReadyH.cons hE2_4 (fun K' hK => h K' (lE2_16 ▸ hK)) AllReadyH.nil)
def qE2_9 : Oper := { dst := some 14, op := Op.call { callee := Callee.value (Operand.func 121), args := #[Operand.tmp 11, Operand.tmp 13], argTypes := #[3, 3] }, type := 3, pos := "l09_memory.go:58", after := #[{ on := 6, ground := Ground.data }, { on := 8, ground := Ground.data }, { on := 4, ground := Ground.chain }], guard := none }
theorem hE2_9 : opsE2[9]? = some qE2_9 := by kernel_rfl
theorem lE2_17 : (LE2 17).setIfInBounds 9 true = LE2 18 := by kernel_rfl
set_option maxRecDepth 100000 in
theorem cE2_17 {Q : Exit → Act → World → Prop} {S : World → Prop} {a : Act} {w : World}
    (h : ∀ K' : Act → World → Prop, Shut (∀ a w, S w → (S w → wpAnyH Try.prog .any opsE2 Q S 5 (LE2 18) a w) → K' a w) → if Region.wanted qE2_9 (yielded opsE2 a.tmps) = true then Oper.wp Try.prog qE2_9 a w K' Q else K' (a.put (some 14) undef) w) :
    wpAnyH Try.prog .any opsE2 Q S 6 (LE2 17) a w :=
  wpAnyH_ready (rs := [9]) (by kernel_rfl) (by simp) (AllReadyH.cons hE2_9 (fun K' hK => h K' (lE2_17 ▸ hK)) AllReadyH.nil)
def qE2_14 : Oper := { dst := some 19, op := Op.call { callee := Callee.value (Operand.func 121), args := #[Operand.tmp 16, Operand.tmp 18], argTypes := #[3, 3] }, type := 3, pos := "l09_memory.go:59", after := #[{ on := 11, ground := Ground.data }, { on := 13, ground := Ground.data }, { on := 9, ground := Ground.chain }], guard := none }
theorem hE2_14 : opsE2[14]? = some qE2_14 := by kernel_rfl
theorem lE2_18 : (LE2 18).setIfInBounds 14 true = LE2 19 := by kernel_rfl
set_option maxRecDepth 100000 in
theorem cE2_18 {Q : Exit → Act → World → Prop} {S : World → Prop} {a : Act} {w : World}
    (h : ∀ K' : Act → World → Prop, Shut (∀ a w, S w → (S w → wpAnyH Try.prog .any opsE2 Q S 4 (LE2 19) a w) → K' a w) → if Region.wanted qE2_14 (yielded opsE2 a.tmps) = true then Oper.wp Try.prog qE2_14 a w K' Q else K' (a.put (some 19) undef) w) :
    wpAnyH Try.prog .any opsE2 Q S 5 (LE2 18) a w :=
  wpAnyH_ready (rs := [14]) (by kernel_rfl) (by simp) (AllReadyH.cons hE2_14 (fun K' hK => h K' (lE2_18 ▸ hK)) AllReadyH.nil)
def qE2_19 : Oper := { dst := some 24, op := Op.call { callee := Callee.value (Operand.func 121), args := #[Operand.tmp 21, Operand.tmp 23], argTypes := #[3, 3] }, type := 3, pos := "l09_memory.go:60", after := #[{ on := 16, ground := Ground.data }, { on := 18, ground := Ground.data }, { on := 14, ground := Ground.chain }], guard := none }
theorem hE2_19 : opsE2[19]? = some qE2_19 := by kernel_rfl
theorem lE2_19 : (LE2 19).setIfInBounds 19 true = LE2 20 := by kernel_rfl
set_option maxRecDepth 100000 in
theorem cE2_19 {Q : Exit → Act → World → Prop} {S : World → Prop} {a : Act} {w : World}
    (h : ∀ K' : Act → World → Prop, Shut (∀ a w, S w → (S w → wpAnyH Try.prog .any opsE2 Q S 3 (LE2 20) a w) → K' a w) → if Region.wanted qE2_19 (yielded opsE2 a.tmps) = true then Oper.wp Try.prog qE2_19 a w K' Q else K' (a.put (some 24) undef) w) :
    wpAnyH Try.prog .any opsE2 Q S 4 (LE2 19) a w :=
  wpAnyH_ready (rs := [19]) (by kernel_rfl) (by simp) (AllReadyH.cons hE2_19 (fun K' hK => h K' (lE2_19 ▸ hK)) AllReadyH.nil)
def qE2_20 : Oper := { dst := some 25, op := Op.buildSlice 40 4 #[(0, Operand.tmp 9), (1, Operand.tmp 14), (2, Operand.tmp 19), (3, Operand.tmp 24)], type := 40, pos := "l09_memory.go:56", after := #[{ on := 4, ground := Ground.data }, { on := 9, ground := Ground.data }, { on := 14, ground := Ground.data }, { on := 19, ground := Ground.data }], guard := none }
theorem hE2_20 : opsE2[20]? = some qE2_20 := by kernel_rfl
theorem lE2_20 : (LE2 20).setIfInBounds 20 true = LE2 21 := by kernel_rfl
set_option maxRecDepth 100000 in
theorem cE2_20 {Q : Exit → Act → World → Prop} {S : World → Prop} {a : Act} {w : World}
    (h : ∀ K' : Act → World → Prop, Shut (∀ a w, S w → (S w → wpAnyH Try.prog .any opsE2 Q S 2 (LE2 21) a w) → K' a w) → if Region.wanted qE2_20 (yielded opsE2 a.tmps) = true then Oper.wp Try.prog qE2_20 a w K' Q else K' (a.put (some 25) undef) w) :
    wpAnyH Try.prog .any opsE2 Q S 3 (LE2 20) a w :=
  wpAnyH_ready (rs := [20]) (by kernel_rfl) (by simp) (AllReadyH.cons hE2_20 (fun K' hK => h K' (lE2_20 ▸ hK)) AllReadyH.nil)
def qE2_21 : Oper := { dst := some 26, op := Op.call { callee := Callee.value (Operand.func 120), args := #[Operand.tmp 25], argTypes := #[40] }, type := 3, pos := "l09_memory.go:56", after := #[{ on := 20, ground := Ground.data }, { on := 19, ground := Ground.chain }], guard := none }
theorem hE2_21 : opsE2[21]? = some qE2_21 := by kernel_rfl
theorem lE2_21 : (LE2 21).setIfInBounds 21 true = LE2 22 := by kernel_rfl
set_option maxRecDepth 100000 in
theorem cE2_21 {Q : Exit → Act → World → Prop} {S : World → Prop} {a : Act} {w : World}
    (h : ∀ K' : Act → World → Prop, Shut (∀ a w, S w → (S w → wpAnyH Try.prog .any opsE2 Q S 1 (LE2 22) a w) → K' a w) → if Region.wanted qE2_21 (yielded opsE2 a.tmps) = true then Oper.wp Try.prog qE2_21 a w K' Q else K' (a.put (some 26) undef) w) :
    wpAnyH Try.prog .any opsE2 Q S 2 (LE2 21) a w :=
  wpAnyH_ready (rs := [21]) (by kernel_rfl) (by simp) (AllReadyH.cons hE2_21 (fun K' hK => h K' (lE2_21 ▸ hK)) AllReadyH.nil)
def qE2_22 : Oper := { dst := some 4, op := Op.assign (Operand.tmp 26), type := 3, pos := "l09_memory.go:56", after := #[{ on := 21, ground := Ground.data }, { on := 21, ground := Ground.chain }, { on := 0, ground := Ground.phase }, { on := 1, ground := Ground.phase }, { on := 2, ground := Ground.phase }, { on := 3, ground := Ground.phase }, { on := 4, ground := Ground.phase }, { on := 5, ground := Ground.phase }, { on := 6, ground := Ground.phase }, { on := 7, ground := Ground.phase }, { on := 8, ground := Ground.phase }, { on := 9, ground := Ground.phase }, { on := 10, ground := Ground.phase }, { on := 11, ground := Ground.phase }, { on := 12, ground := Ground.phase }, { on := 13, ground := Ground.phase }, { on := 14, ground := Ground.phase }, { on := 15, ground := Ground.phase }, { on := 16, ground := Ground.phase }, { on := 17, ground := Ground.phase }, { on := 18, ground := Ground.phase }, { on := 19, ground := Ground.phase }, { on := 20, ground := Ground.phase }, { on := 21, ground := Ground.phase }], guard := none }
theorem hE2_22 : opsE2[22]? = some qE2_22 := by kernel_rfl
theorem lE2_22 : (LE2 22).setIfInBounds 22 true = LE2 23 := by kernel_rfl
theorem tE2_22 {Q : Exit → Act → World → Prop} {S : World → Prop} {a : Act} {w : World} (v : Value) (hQ : ∀ c a w, Q (.panic c) (a.put (some 4) v) w → Q (.panic c) a w) (hy : YieldsIf Try.prog opsE2 S qE2_22 v a) (hS : S w)
    (h : wpAnyH Try.prog .any opsE2 Q S 0 (LE2 23) (a.put (some 4) v) w) : wpAnyH Try.prog .any opsE2 Q S 1 (LE2 22) a w :=
  wpAnyH_take (i := 22) hE2_22 noselE2 (by kernel_rfl) (by kernel_rfl) hQ hy hS (lE2_22.symm ▸ h)
end Go.Proofs.Ytlanmkimaambgaa.hexes

