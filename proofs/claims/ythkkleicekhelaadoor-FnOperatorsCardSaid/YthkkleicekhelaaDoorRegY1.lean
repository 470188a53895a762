/-
  A statement of impl.NodeText: its operations, and a theorem a step.
-/
import Derived.Test.YthkkleicekhelaaDoorProg
import Derived.WalkKit
import Derived.Deep.RegionHeld3
namespace Go.Proofs.YthkkleicekhelaaDoor.hexes
open Go.RowKit

def findY1 (n : Nat) : Code → Option Code
  | .region id ops d => if id = n then some (.region id ops d) else none
  | .seq a b => match findY1 n a with
    | some c => some c
    | none => findY1 n b
  | .block _ c => findY1 n c
  | .scope c => findY1 n c
  | .loop c => findY1 n c
  | .cond _ a b => match findY1 n a with
    | some c => some c
    | none => findY1 n b
  | _ => none
def opsOfY1 : Option Code → Array Oper
  | some (.region _ ops _) => ops
  | _ => #[]
noncomputable def opsY1 : Array Oper := opsOfY1 (Tryd.f11.body.bind (findY1 1))
def schY1 : List Nat := [0, 1, 3, 4, 6, 7, 2, 5, 8, 9, 10]
def LY1 (k : Nat) : Array Bool := ((List.range 11).map fun i => (schY1.take k).contains i).toArray
theorem noselY1 : Region.noSelect opsY1 = true := by kernel_rfl
def qY1_0 : Oper := { dst := some 6, op := Op.fieldAddr 26 (Operand.tmp 1) 0, type := 0, pos := "l07_operators.go:122", after := #[], guard := none }
theorem hY1_0 : opsY1[0]? = some qY1_0 := by kernel_rfl
theorem lY1_0 : (LY1 0).setIfInBounds 0 true = LY1 1 := by kernel_rfl
theorem tY1_0 {Q : Exit → Act → World → Prop} {S : World → Prop} {a : Act} {w : World} (v : Value) (hQ : ∀ c a w, Q (.panic c) (a.put (some 6) v) w → Q (.panic c) a w) (hy : YieldsIf Tryd.prog opsY1 S qY1_0 v a) (hS : S w)
    (h : wpAnyH Tryd.prog .any opsY1 Q S 10 (LY1 1) (a.put (some 6) v) w) : wpAnyH Tryd.prog .any opsY1 Q S 11 (LY1 0) a w :=
  wpAnyH_take (i := 0) hY1_0 noselY1 (by kernel_rfl) (by kernel_rfl) hQ hy hS (lY1_0.symm ▸ h)
def qY1_1 : Oper := { dst := some 7, op := Op.load 3 (Operand.tmp 6), type := 3, pos := "l07_operators.go:122", after := #[{ on := 0, ground := Ground.data }], guard := none }
theorem hY1_1 : opsY1[1]? = some qY1_1 := by kernel_rfl
theorem lY1_1 : (LY1 1).setIfInBounds 1 true = LY1 2 := by kernel_rfl
theorem tY1_1 {Q : Exit → Act → World → Prop} {S : World → Prop} {a : Act} {w : World} (v : Value) (hQ : ∀ c a w, Q (.panic c) (a.put (some 7) v) w → Q (.panic c) a w) (hy : YieldsIf Tryd.prog opsY1 S qY1_1 v a) (hS : S w)
    (h : wpAnyH Tryd.prog .any opsY1 Q S 9 (LY1 2) (a.put (some 7) v) w) : wpAnyH Tryd.prog .any opsY1 Q S 10 (LY1 1) a w :=
  wpAnyH_take (i := 1) hY1_1 noselY1 (by kernel_rfl) (by kernel_rfl) hQ hy hS (lY1_1.symm ▸ h)
def qY1_3 : Oper := { dst := some 9, op := Op.fieldAddr 26 (Operand.tmp 1) 1, type := 0, pos := "l07_operators.go:122", after := #[], guard := none }
theorem hY1_3 : opsY1[3]? = some qY1_3 := by kernel_rfl
theorem lY1_2 : (LY1 2).setIfInBounds 3 true = LY1 3 := by kernel_rfl
theorem tY1_2 {Q : Exit → Act → World → Prop} {S : World → Prop} {a : Act} {w : World} (v : Value) (hQ : ∀ c a w, Q (.panic c) (a.put (some 9) v) w → Q (.panic c) a w) (hy : YieldsIf Tryd.prog opsY1 S qY1_3 v a) (hS : S w)
    (h : wpAnyH Tryd.prog .any opsY1 Q S 8 (LY1 3) (a.put (some 9) v) w) : wpAnyH Tryd.prog .any opsY1 Q S 9 (LY1 2) a w :=
  wpAnyH_take (i := 3) hY1_3 noselY1 (by kernel_rfl) (by kernel_rfl) hQ hy hS (lY1_2.symm ▸ h)
def qY1_4 : Oper := { dst := some 10, op := Op.load 3 (Operand.tmp 9), type := 3, pos := "l07_operators.go:122", after := #[{ on := 3, ground := Ground.data }], guard := none }
theorem hY1_4 : opsY1[4]? = some qY1_4 := by kernel_rfl
theorem lY1_3 : (LY1 3).setIfInBounds 4 true = LY1 4 := by kernel_rfl
theorem tY1_3 {Q : Exit → Act → World → Prop} {S : World → Prop} {a : Act} {w : World} (v : Value) (hQ : ∀ c a w, Q (.panic c) (a.put (some 10) v) w → Q (.panic c) a w) (hy : YieldsIf Tryd.prog opsY1 S qY1_4 v a) (hS : S w)
    (h : wpAnyH Tryd.prog .any opsY1 Q S 7 (LY1 4) (a.put (some 10) v) w) : wpAnyH Tryd.prog .any opsY1 Q S 8 (LY1 3) a w :=
  wpAnyH_take (i := 4) hY1_4 noselY1 (by kernel_rfl) (by kernel_rfl) hQ hy hS (lY1_3.symm ▸ h)
def qY1_6 : Oper := { dst := some 12, op := Op.fieldAddr 26 (Operand.tmp 1) 2, type := 0, pos := "l07_operators.go:122", after := #[], guard := none }
theorem hY1_6 : opsY1[6]? = some qY1_6 := by kernel_rfl
theorem lY1_4 : (LY1 4).setIfInBounds 6 true = LY1 5 := by kernel_rfl
theorem tY1_4 {Q : Exit → Act → World → Prop} {S : World → Prop} {a : Act} {w : World} (v : Value) (hQ : ∀ c a w, Q (.panic c) (a.put (some 12) v) w → Q (.panic c) a w) (hy : YieldsIf Tryd.prog opsY1 S qY1_6 v a) (hS : S w)
    (h : wpAnyH Tryd.prog .any opsY1 Q S 6 (LY1 5) (a.put (some 12) v) w) : wpAnyH Tryd.prog .any opsY1 Q S 7 (LY1 4) a w :=
  wpAnyH_take (i := 6) hY1_6 noselY1 (by kernel_rfl) (by kernel_rfl) hQ hy hS (lY1_4.symm ▸ h)
def qY1_7 : Oper := { dst := some 13, op := Op.load 3 (Operand.tmp 12), type := 3, pos := "l07_operators.go:122", after := #[{ on := 6, ground := Ground.data }], guard := none }
theorem hY1_7 : opsY1[7]? = some qY1_7 := by kernel_rfl
theorem lY1_5 : (LY1 5).setIfInBounds 7 true = LY1 6 := by kernel_rfl
theorem tY1_5 {Q : Exit → Act → World → Prop} {S : World → Prop} {a : Act} {w : World} (v : Value) (hQ : ∀ c a w, Q (.panic c) (a.put (some 13) v) w → Q (.panic c) a w) (hy : YieldsIf Tryd.prog opsY1 S qY1_7 v a) (hS : S w)
    (h : wpAnyH Tryd.prog .any opsY1 Q S 5 (LY1 6) (a.put (some 13) v) w) : wpAnyH Tryd.prog .any opsY1 Q S 6 (LY1 5) a w :=
  wpAnyH_take (i := 7) hY1_7 noselY1 (by kernel_rfl) (by kernel_rfl) hQ hy hS (lY1_5.symm ▸ h)
def qY1_2 : Oper := { dst := some 8, op := Op.call { callee := Callee.value (Operand.func 14), args := #[Operand.tmp 7], argTypes := #[3] }, type := 9, pos := "l07_operators.go:122", after := #[{ on := 1, ground := Ground.data }], guard := none }
theorem hY1_2 : opsY1[2]? = some qY1_2 := by kernel_rfl
theorem lY1_6 : (LY1 6).setIfInBounds 2 true = LY1 7 := by kernel_rfl
set_option maxRecDepth 100000 in
theorem cY1_6 {Q : Exit → Act → World → Prop} {S : World → Prop} {a : Act} {w : World}
    (h : ∀ K' : Act → World → Prop, Shut (∀ a w, S w → (S w → wpAnyH Tryd.prog .any opsY1 Q S 4 (LY1 7) a w) → K' a w) → if Region.wanted qY1_2 (yielded opsY1 a.tmps) = true then Oper.wp Tryd.prog qY1_2 a w K' Q else K' (a.put (some 8) undef) w) :
    wpAnyH Tryd.prog .any opsY1 Q S 5 (LY1 6) a w :=
  wpAnyH_ready (rs := [2]) (by kernel_rfl) (by simp) (AllReadyH.cons hY1_2 (fun K' hK => h K' (lY1_6 ▸ hK)) AllReadyH.nil)
theorem tY1_6 {Q : Exit → Act → World → Prop} {S : World → Prop} {a : Act} {w : World} (v : Value) (hQ : ∀ c a w, Q (.panic c) (a.put (some 8) v) w → Q (.panic c) a w) (hy : YieldsIf Tryd.prog opsY1 S qY1_2 v a) (hS : S w)
    (h : wpAnyH Tryd.prog .any opsY1 Q S 4 (LY1 7) (a.put (some 8) v) w) : wpAnyH Tryd.prog .any opsY1 Q S 5 (LY1 6) a w :=
  wpAnyH_take (i := 2) hY1_2 noselY1 (by kernel_rfl) (by kernel_rfl) hQ hy hS (lY1_6.symm ▸ h)
def qY1_5 : Oper := { dst := some 11, op := Op.call { callee := Callee.value (Operand.func 30), args := #[Operand.tmp 10], argTypes := #[3] }, type := 9, pos := "l07_operators.go:122", after := #[{ on := 4, ground := Ground.data }, { on := 2, ground := Ground.chain }], guard := none }
theorem hY1_5 : opsY1[5]? = some qY1_5 := by kernel_rfl
theorem lY1_7 : (LY1 7).setIfInBounds 5 true = LY1 8 := by kernel_rfl
set_option maxRecDepth 100000 in
theorem cY1_7 {Q : Exit → Act → World → Prop} {S : World → Prop} {a : Act} {w : World}
    (h : ∀ K' : Act → World → Prop, Shut (∀ a w, S w → (S w → wpAnyH Tryd.prog .any opsY1 Q S 3 (LY1 8) a w) → K' a w) → if Region.wanted qY1_5 (yielded opsY1 a.tmps) = true then Oper.wp Tryd.prog qY1_5 a w K' Q else K' (a.put (some 11) undef) w) :
    wpAnyH Tryd.prog .any opsY1 Q S 4 (LY1 7) a w :=
  wpAnyH_ready (rs := [5]) (by kernel_rfl) (by simp) (AllReadyH.cons hY1_5 (fun K' hK => h K' (lY1_7 ▸ hK)) AllReadyH.nil)
theorem tY1_7 {Q : Exit → Act → World → Prop} {S : World → Prop} {a : Act} {w : World} (v : Value) (hQ : ∀ c a w, Q (.panic c) (a.put (some 11) v) w → Q (.panic c) a w) (hy : YieldsIf Tryd.prog opsY1 S qY1_5 v a) (hS : S w)
    (h : wpAnyH Tryd.prog .any opsY1 Q S 3 (LY1 8) (a.put (some 11) v) w) : wpAnyH Tryd.prog .any opsY1 Q S 4 (LY1 7) a w :=
  wpAnyH_take (i := 5) hY1_5 noselY1 (by kernel_rfl) (by kernel_rfl) hQ hy hS (lY1_7.symm ▸ h)
def qY1_8 : Oper := { dst := some 14, op := Op.call { callee := Callee.value (Operand.func 30), args := #[Operand.tmp 13], argTypes := #[3] }, type := 9, pos := "l07_operators.go:122", after := #[{ on := 7, ground := Ground.data }, { on := 5, ground := Ground.chain }], guard := none }
theorem hY1_8 : opsY1[8]? = some qY1_8 := by kernel_rfl
theorem lY1_8 : (LY1 8).setIfInBounds 8 true = LY1 9 := by kernel_rfl
set_option maxRecDepth 100000 in
theorem cY1_8 {Q : Exit → Act → World → Prop} {S : World → Prop} {a : Act} {w : World}
    (h : ∀ K' : Act → World → Prop, Shut (∀ a w, S w → (S w → wpAnyH Tryd.prog .any opsY1 Q S 2 (LY1 9) a w) → K' a w) → if Region.wanted qY1_8 (yielded opsY1 a.tmps) = true then Oper.wp Tryd.prog qY1_8 a w K' Q else K' (a.put (some 14) undef) w) :
    wpAnyH Tryd.prog .any opsY1 Q S 3 (LY1 8) a w :=
  wpAnyH_ready (rs := [8]) (by kernel_rfl) (by simp) (AllReadyH.cons hY1_8 (fun K' hK => h K' (lY1_8 ▸ hK)) AllReadyH.nil)
theorem tY1_8 {Q : Exit → Act → World → Prop} {S : World → Prop} {a : Act} {w : World} (v : Value) (hQ : ∀ c a w, Q (.panic c) (a.put (some 14) v) w → Q (.panic c) a w) (hy : YieldsIf Tryd.prog opsY1 S qY1_8 v a) (hS : S w)
    (h : wpAnyH Tryd.prog .any opsY1 Q S 2 (LY1 9) (a.put (some 14) v) w) : wpAnyH Tryd.prog .any opsY1 Q S 3 (LY1 8) a w :=
  wpAnyH_take (i := 8) hY1_8 noselY1 (by kernel_rfl) (by kernel_rfl) hQ hy hS (lY1_8.symm ▸ h)
def qY1_9 : Oper := { dst := some 15, op := Op.buildSlice 50 3 #[(0, Operand.tmp 8), (1, Operand.tmp 11), (2, Operand.tmp 14)], type := 50, pos := "l07_operators.go:122", after := #[{ on := 2, ground := Ground.data }, { on := 5, ground := Ground.data }, { on := 8, ground := Ground.data }], guard := none }
theorem hY1_9 : opsY1[9]? = some qY1_9 := by kernel_rfl
theorem lY1_9 : (LY1 9).setIfInBounds 9 true = LY1 10 := by kernel_rfl
set_option maxRecDepth 100000 in
theorem cY1_9 {Q : Exit → Act → World → Prop} {S : World → Prop} {a : Act} {w : World}
    (h : ∀ K' : Act → World → Prop, Shut (∀ a w, S w → (S w → wpAnyH Tryd.prog .any opsY1 Q S 1 (LY1 10) a w) → K' a w) → if Region.wanted qY1_9 (yielded opsY1 a.tmps) = true then Oper.wp Tryd.prog qY1_9 a w K' Q else K' (a.put (some 15) undef) w) :
    wpAnyH Tryd.prog .any opsY1 Q S 2 (LY1 9) a w :=
  wpAnyH_ready (rs := [9]) (by kernel_rfl) (by simp) (AllReadyH.cons hY1_9 (fun K' hK => h K' (lY1_9 ▸ hK)) AllReadyH.nil)
theorem tY1_9 {Q : Exit → Act → World → Prop} {S : World → Prop} {a : Act} {w : World} (v : Value) (hQ : ∀ c a w, Q (.panic c) (a.put (some 15) v) w → Q (.panic c) a w) (hy : YieldsIf Tryd.prog opsY1 S qY1_9 v a) (hS : S w)
    (h : wpAnyH Tryd.prog .any opsY1 Q S 1 (LY1 10) (a.put (some 15) v) w) : wpAnyH Tryd.prog .any opsY1 Q S 2 (LY1 9) a w :=
  wpAnyH_take (i := 9) hY1_9 noselY1 (by kernel_rfl) (by kernel_rfl) hQ hy hS (lY1_9.symm ▸ h)
def qY1_10 : Oper := { dst := some 3, op := Op.assign (Operand.tmp 15), type := 50, pos := "l07_operators.go:122", after := #[{ on := 9, ground := Ground.data }, { on := 8, ground := Ground.chain }, { on := 0, ground := Ground.phase }, { on := 1, ground := Ground.phase }, { on := 2, ground := Ground.phase }, { on := 3, ground := Ground.phase }, { on := 4, ground := Ground.phase }, { on := 5, ground := Ground.phase }, { on := 6, ground := Ground.phase }, { on := 7, ground := Ground.phase }, { on := 8, ground := Ground.phase }, { on := 9, ground := Ground.phase }], guard := none }
theorem hY1_10 : opsY1[10]? = some qY1_10 := by kernel_rfl
theorem lY1_10 : (LY1 10).setIfInBounds 10 true = LY1 11 := by kernel_rfl
theorem tY1_10 {Q : Exit → Act → World → Prop} {S : World → Prop} {a : Act} {w : World} (v : Value) (hQ : ∀ c a w, Q (.panic c) (a.put (some 3) v) w → Q (.panic c) a w) (hy : YieldsIf Tryd.prog opsY1 S qY1_10 v a) (hS : S w)
    (h : wpAnyH Tryd.prog .any opsY1 Q S 0 (LY1 11) (a.put (some 3) v) w) : wpAnyH Tryd.prog .any opsY1 Q S 1 (LY1 10) a w :=
  wpAnyH_take (i := 10) hY1_10 noselY1 (by kernel_rfl) (by kernel_rfl) hQ hy hS (lY1_10.symm ▸ h)
end Go.Proofs.YthkkleicekhelaaDoor.hexes
