/-
  A statement of laws.FnMemory: its operations, and a theorem a step.
-/
import Derived.Test.YtlmjmhdmhpkkkaaProg
import Derived.WalkKit
import Derived.Deep.RegionHeld3
namespace Go.Proofs.Ytlmjmhdmhpkkkaa.hexes
open Go.RowKit

def findF9 (n : Nat) : Code → Option Code
  | .region id ops d => if id = n then some (.region id ops d) else none
  | .seq a b => match findF9 n a with
    | some c => some c
    | none => findF9 n b
  | .block _ c => findF9 n c
  | .scope c => findF9 n c
  | .loop c => findF9 n c
  | .cond _ a b => match findF9 n a with
    | some c => some c
    | none => findF9 n b
  | _ => none
def opsOfF9 : Option Code → Array Oper
  | some (.region _ ops _) => ops
  | _ => #[]
noncomputable def opsF9 : Array Oper := opsOfF9 (Try.f3.body.bind (findF9 16))
def schF9 : List Nat := [0, 1, 2, 3, 4, 5, 6, 7, 8, 9, 10, 11, 12, 13, 14, 15, 16, 17, 18, 19, 20, 21, 22, 23, 24, 25, 27, 28, 29, 26, 30, 31, 32, 33, 34, 35, 36, 38, 39, 37, 40, 41, 42]
def LF9 (k : Nat) : Array Bool := ((List.range 43).map fun i => (schF9.take k).contains i).toArray
theorem noselF9 : Region.noSelect opsF9 = true := by kernel_rfl
def qF9_0 : Oper := { dst := some 118, op := Op.move (Operand.tmp 19), type := 3, pos := "laws.go:430", after := #[], guard := none }
theorem hF9_0 : opsF9[0]? = some qF9_0 := by kernel_rfl
theorem lF9_0 : (LF9 0).setIfInBounds 0 true = LF9 1 := by kernel_rfl
theorem tF9_0 {Q : Exit → Act → World → Prop} {S : World → Prop} {a : Act} {w : World} (v : Value) (hQ : ∀ c a w, Q (.panic c) (a.put (some 118) v) w → Q (.panic c) a w) (hy : YieldsIf Try.prog opsF9 S qF9_0 v a) (hS : S w)
    (h : wpAnyH Try.prog .any opsF9 Q S 42 (LF9 1) (a.put (some 118) v) w) : wpAnyH Try.prog .any opsF9 Q S 43 (LF9 0) a w :=
  wpAnyH_take (i := 0) hF9_0 noselF9 (by kernel_rfl) (by kernel_rfl) hQ hy hS (lF9_0.symm ▸ h)
def qF9_1 : Oper := { dst := some 119, op := Op.move (Operand.tmp 21), type := 3, pos := "laws.go:430", after := #[], guard := none }
theorem hF9_1 : opsF9[1]? = some qF9_1 := by kernel_rfl
theorem lF9_1 : (LF9 1).setIfInBounds 1 true = LF9 2 := by kernel_rfl
theorem tF9_1 {Q : Exit → Act → World → Prop} {S : World → Prop} {a : Act} {w : World} (v : Value) (hQ : ∀ c a w, Q (.panic c) (a.put (some 119) v) w → Q (.panic c) a w) (hy : YieldsIf Try.prog opsF9 S qF9_1 v a) (hS : S w)
    (h : wpAnyH Try.prog .any opsF9 Q S 41 (LF9 2) (a.put (some 119) v) w) : wpAnyH Try.prog .any opsF9 Q S 42 (LF9 1) a w :=
  wpAnyH_take (i := 1) hF9_1 noselF9 (by kernel_rfl) (by kernel_rfl) hQ hy hS (lF9_1.symm ▸ h)
def qF9_2 : Oper := { dst := some 120, op := Op.binOp BinOp.neq 3 (Operand.tmp 118) (Operand.tmp 119) 3, type := 4, pos := "laws.go:430", after := #[{ on := 0, ground := Ground.data }, { on := 1, ground := Ground.data }], guard := none }
theorem hF9_2 : opsF9[2]? = some qF9_2 := by kernel_rfl
theorem lF9_2 : (LF9 2).setIfInBounds 2 true = LF9 3 := by kernel_rfl
theorem tF9_2 {Q : Exit → Act → World → Prop} {S : World → Prop} {a : Act} {w : World} (v : Value) (hQ : ∀ c a w, Q (.panic c) (a.put (some 120) v) w → Q (.panic c) a w) (hy : YieldsIf Try.prog opsF9 S qF9_2 v a) (hS : S w)
    (h : wpAnyH Try.prog .any opsF9 Q S 40 (LF9 3) (a.put (some 120) v) w) : wpAnyH Try.prog .any opsF9 Q S 41 (LF9 2) a w :=
  wpAnyH_take (i := 2) hF9_2 noselF9 (by kernel_rfl) (by kernel_rfl) hQ hy hS (lF9_2.symm ▸ h)
def qF9_3 : Oper := { dst := some 121, op := Op.move (Operand.tmp 120), type := 4, pos := "laws.go:430", after := #[{ on := 2, ground := Ground.data }], guard := none }
theorem hF9_3 : opsF9[3]? = some qF9_3 := by kernel_rfl
theorem lF9_3 : (LF9 3).setIfInBounds 3 true = LF9 4 := by kernel_rfl
theorem tF9_3 {Q : Exit → Act → World → Prop} {S : World → Prop} {a : Act} {w : World} (v : Value) (hQ : ∀ c a w, Q (.panic c) (a.put (some 121) v) w → Q (.panic c) a w) (hy : YieldsIf Try.prog opsF9 S qF9_3 v a) (hS : S w)
    (h : wpAnyH Try.prog .any opsF9 Q S 39 (LF9 4) (a.put (some 121) v) w) : wpAnyH Try.prog .any opsF9 Q S 40 (LF9 3) a w :=
  wpAnyH_take (i := 3) hF9_3 noselF9 (by kernel_rfl) (by kernel_rfl) hQ hy hS (lF9_3.symm ▸ h)
def qF9_4 : Oper := { dst := some 122, op := Op.move (Operand.tmp 20), type := 4, pos := "laws.go:430", after := #[{ on := 3, ground := Ground.guard }], guard := some (3, false) }
theorem hF9_4 : opsF9[4]? = some qF9_4 := by kernel_rfl
theorem lF9_4 : (LF9 4).setIfInBounds 4 true = LF9 5 := by kernel_rfl
theorem tF9_4 {Q : Exit → Act → World → Prop} {S : World → Prop} {a : Act} {w : World} (v : Value) (hQ : ∀ c a w, Q (.panic c) (a.put (some 122) v) w → Q (.panic c) a w) (hy : YieldsIf Try.prog opsF9 S qF9_4 v a) (hS : S w)
    (h : wpAnyH Try.prog .any opsF9 Q S 38 (LF9 5) (a.put (some 122) v) w) : wpAnyH Try.prog .any opsF9 Q S 39 (LF9 4) a w :=
  wpAnyH_take (i := 4) hF9_4 noselF9 (by kernel_rfl) (by kernel_rfl) hQ hy hS (lF9_4.symm ▸ h)
def qF9_5 : Oper := { dst := some 123, op := Op.move (Operand.tmp 22), type := 4, pos := "laws.go:430", after := #[{ on := 3, ground := Ground.guard }], guard := some (3, false) }
theorem hF9_5 : opsF9[5]? = some qF9_5 := by kernel_rfl
theorem lF9_5 : (LF9 5).setIfInBounds 5 true = LF9 6 := by kernel_rfl
theorem tF9_5 {Q : Exit → Act → World → Prop} {S : World → Prop} {a : Act} {w : World} (v : Value) (hQ : ∀ c a w, Q (.panic c) (a.put (some 123) v) w → Q (.panic c) a w) (hy : YieldsIf Try.prog opsF9 S qF9_5 v a) (hS : S w)
    (h : wpAnyH Try.prog .any opsF9 Q S 37 (LF9 6) (a.put (some 123) v) w) : wpAnyH Try.prog .any opsF9 Q S 38 (LF9 5) a w :=
  wpAnyH_take (i := 5) hF9_5 noselF9 (by kernel_rfl) (by kernel_rfl) hQ hy hS (lF9_5.symm ▸ h)
def qF9_6 : Oper := { dst := some 124, op := Op.binOp BinOp.neq 4 (Operand.tmp 122) (Operand.tmp 123) 4, type := 4, pos := "laws.go:430", after := #[{ on := 4, ground := Ground.data }, { on := 5, ground := Ground.data }, { on := 3, ground := Ground.guard }], guard := some (3, false) }
theorem hF9_6 : opsF9[6]? = some qF9_6 := by kernel_rfl
theorem lF9_6 : (LF9 6).setIfInBounds 6 true = LF9 7 := by kernel_rfl
theorem tF9_6 {Q : Exit → Act → World → Prop} {S : World → Prop} {a : Act} {w : World} (v : Value) (hQ : ∀ c a w, Q (.panic c) (a.put (some 124) v) w → Q (.panic c) a w) (hy : YieldsIf Try.prog opsF9 S qF9_6 v a) (hS : S w)
    (h : wpAnyH Try.prog .any opsF9 Q S 36 (LF9 7) (a.put (some 124) v) w) : wpAnyH Try.prog .any opsF9 Q S 37 (LF9 6) a w :=
  wpAnyH_take (i := 6) hF9_6 noselF9 (by kernel_rfl) (by kernel_rfl) hQ hy hS (lF9_6.symm ▸ h)
def qF9_7 : Oper := { dst := some 125, op := Op.pick (Operand.tmp 121) (Operand.const (Value.bool true)) (Operand.tmp 124), type := 4, pos := "laws.go:430", after := #[{ on := 3, ground := Ground.data }, { on := 6, ground := Ground.data }], guard := none }
theorem hF9_7 : opsF9[7]? = some qF9_7 := by kernel_rfl
theorem lF9_7 : (LF9 7).setIfInBounds 7 true = LF9 8 := by kernel_rfl
theorem tF9_7 {Q : Exit → Act → World → Prop} {S : World → Prop} {a : Act} {w : World} (v : Value) (hQ : ∀ c a w, Q (.panic c) (a.put (some 125) v) w → Q (.panic c) a w) (hy : YieldsIf Try.prog opsF9 S qF9_7 v a) (hS : S w)
    (h : wpAnyH Try.prog .any opsF9 Q S 35 (LF9 8) (a.put (some 125) v) w) : wpAnyH Try.prog .any opsF9 Q S 36 (LF9 7) a w :=
  wpAnyH_take (i := 7) hF9_7 noselF9 (by kernel_rfl) (by kernel_rfl) hQ hy hS (lF9_7.symm ▸ h)
def qF9_8 : Oper := { dst := some 126, op := Op.move (Operand.tmp 125), type := 4, pos := "laws.go:430", after := #[{ on := 7, ground := Ground.data }, { on := 3, ground := Ground.chain }], guard := none }
theorem hF9_8 : opsF9[8]? = some qF9_8 := by kernel_rfl
theorem lF9_8 : (LF9 8).setIfInBounds 8 true = LF9 9 := by kernel_rfl
theorem tF9_8 {Q : Exit → Act → World → Prop} {S : World → Prop} {a : Act} {w : World} (v : Value) (hQ : ∀ c a w, Q (.panic c) (a.put (some 126) v) w → Q (.panic c) a w) (hy : YieldsIf Try.prog opsF9 S qF9_8 v a) (hS : S w)
    (h : wpAnyH Try.prog .any opsF9 Q S 34 (LF9 9) (a.put (some 126) v) w) : wpAnyH Try.prog .any opsF9 Q S 35 (LF9 8) a w :=
  wpAnyH_take (i := 8) hF9_8 noselF9 (by kernel_rfl) (by kernel_rfl) hQ hy hS (lF9_8.symm ▸ h)
def qF9_9 : Oper := { dst := some 127, op := Op.move (Operand.tmp 14), type := 24, pos := "laws.go:430", after := #[{ on := 8, ground := Ground.guard }], guard := some (8, false) }
theorem hF9_9 : opsF9[9]? = some qF9_9 := by kernel_rfl
theorem lF9_9 : (LF9 9).setIfInBounds 9 true = LF9 10 := by kernel_rfl
theorem tF9_9 {Q : Exit → Act → World → Prop} {S : World → Prop} {a : Act} {w : World} (v : Value) (hQ : ∀ c a w, Q (.panic c) (a.put (some 127) v) w → Q (.panic c) a w) (hy : YieldsIf Try.prog opsF9 S qF9_9 v a) (hS : S w)
    (h : wpAnyH Try.prog .any opsF9 Q S 33 (LF9 10) (a.put (some 127) v) w) : wpAnyH Try.prog .any opsF9 Q S 34 (LF9 9) a w :=
  wpAnyH_take (i := 9) hF9_9 noselF9 (by kernel_rfl) (by kernel_rfl) hQ hy hS (lF9_9.symm ▸ h)
def qF9_10 : Oper := { dst := some 128, op := Op.move (Operand.tmp 12), type := 24, pos := "laws.go:430", after := #[{ on := 8, ground := Ground.guard }], guard := some (8, false) }
theorem hF9_10 : opsF9[10]? = some qF9_10 := by kernel_rfl
theorem lF9_10 : (LF9 10).setIfInBounds 10 true = LF9 11 := by kernel_rfl
theorem tF9_10 {Q : Exit → Act → World → Prop} {S : World → Prop} {a : Act} {w : World} (v : Value) (hQ : ∀ c a w, Q (.panic c) (a.put (some 128) v) w → Q (.panic c) a w) (hy : YieldsIf Try.prog opsF9 S qF9_10 v a) (hS : S w)
    (h : wpAnyH Try.prog .any opsF9 Q S 32 (LF9 11) (a.put (some 128) v) w) : wpAnyH Try.prog .any opsF9 Q S 33 (LF9 10) a w :=
  wpAnyH_take (i := 10) hF9_10 noselF9 (by kernel_rfl) (by kernel_rfl) hQ hy hS (lF9_10.symm ▸ h)
def qF9_11 : Oper := { dst := some 129, op := Op.load 26 (Operand.tmp 13), type := 26, pos := "laws.go:430", after := #[{ on := 8, ground := Ground.guard }], guard := some (8, false) }
theorem hF9_11 : opsF9[11]? = some qF9_11 := by kernel_rfl
theorem lF9_11 : (LF9 11).setIfInBounds 11 true = LF9 12 := by kernel_rfl
theorem tF9_11 {Q : Exit → Act → World → Prop} {S : World → Prop} {a : Act} {w : World} (v : Value) (hQ : ∀ c a w, Q (.panic c) (a.put (some 129) v) w → Q (.panic c) a w) (hy : YieldsIf Try.prog opsF9 S qF9_11 v a) (hS : S w)
    (h : wpAnyH Try.prog .any opsF9 Q S 31 (LF9 12) (a.put (some 129) v) w) : wpAnyH Try.prog .any opsF9 Q S 32 (LF9 11) a w :=
  wpAnyH_take (i := 11) hF9_11 noselF9 (by kernel_rfl) (by kernel_rfl) hQ hy hS (lF9_11.symm ▸ h)
def qF9_12 : Oper := { dst := some 130, op := Op.call { callee := Callee.value (Operand.func 25), args := #[Operand.tmp 128, Operand.tmp 129], argTypes := #[24, 26] }, type := 24, pos := "laws.go:430", after := #[{ on := 10, ground := Ground.data }, { on := 11, ground := Ground.data }, { on := 8, ground := Ground.chain }, { on := 8, ground := Ground.guard }], guard := some (8, false) }
theorem hF9_12 : opsF9[12]? = some qF9_12 := by kernel_rfl
theorem lF9_12 : (LF9 12).setIfInBounds 12 true = LF9 13 := by kernel_rfl
set_option maxRecDepth 100000 in
theorem cF9_12 {Q : Exit → Act → World → Prop} {S : World → Prop} {a : Act} {w : World}
    (h : ∀ K' : Act → World → Prop, Shut (∀ a w, S w → (S w → wpAnyH Try.prog .any opsF9 Q S 30 (LF9 13) a w) → K' a w) → if Region.wanted qF9_12 (yielded opsF9 a.tmps) = true then Oper.wp Try.prog qF9_12 a w K' Q else K' (a.put (some 130) undef) w) :
    wpAnyH Try.prog .any opsF9 Q S 31 (LF9 12) a w :=
  wpAnyH_ready (rs := [12]) (by kernel_rfl) (by simp) (AllReadyH.cons hF9_12 (fun K' hK => h K' (lF9_12 ▸ hK)) AllReadyH.nil)
theorem tF9_12 {Q : Exit → Act → World → Prop} {S : World → Prop} {a : Act} {w : World} (v : Value) (hQ : ∀ c a w, Q (.panic c) (a.put (some 130) v) w → Q (.panic c) a w) (hy : YieldsIf Try.prog opsF9 S qF9_12 v a) (hS : S w)
    (h : wpAnyH Try.prog .any opsF9 Q S 30 (LF9 13) (a.put (some 130) v) w) : wpAnyH Try.prog .any opsF9 Q S 31 (LF9 12) a w :=
  wpAnyH_take (i := 12) hF9_12 noselF9 (by kernel_rfl) (by kernel_rfl) hQ hy hS (lF9_12.symm ▸ h)
def qF9_13 : Oper := { dst := some 131, op := Op.call { callee := Callee.value (Operand.func 15), args := #[Operand.tmp 127, Operand.tmp 130], argTypes := #[24, 24] }, type := 4, pos := "laws.go:430", after := #[{ on := 9, ground := Ground.data }, { on := 12, ground := Ground.data }, { on := 12, ground := Ground.chain }, { on := 8, ground := Ground.guard }], guard := some (8, false) }
theorem hF9_13 : opsF9[13]? = some qF9_13 := by kernel_rfl
theorem lF9_13 : (LF9 13).setIfInBounds 13 true = LF9 14 := by kernel_rfl
set_option maxRecDepth 100000 in
theorem cF9_13 {Q : Exit → Act → World → Prop} {S : World → Prop} {a : Act} {w : World}
    (h : ∀ K' : Act → World → Prop, Shut (∀ a w, S w → (S w → wpAnyH Try.prog .any opsF9 Q S 29 (LF9 14) a w) → K' a w) → if Region.wanted qF9_13 (yielded opsF9 a.tmps) = true then Oper.wp Try.prog qF9_13 a w K' Q else K' (a.put (some 131) undef) w) :
    wpAnyH Try.prog .any opsF9 Q S 30 (LF9 13) a w :=
  wpAnyH_ready (rs := [13]) (by kernel_rfl) (by simp) (AllReadyH.cons hF9_13 (fun K' hK => h K' (lF9_13 ▸ hK)) AllReadyH.nil)
theorem tF9_13 {Q : Exit → Act → World → Prop} {S : World → Prop} {a : Act} {w : World} (v : Value) (hQ : ∀ c a w, Q (.panic c) (a.put (some 131) v) w → Q (.panic c) a w) (hy : YieldsIf Try.prog opsF9 S qF9_13 v a) (hS : S w)
    (h : wpAnyH Try.prog .any opsF9 Q S 29 (LF9 14) (a.put (some 131) v) w) : wpAnyH Try.prog .any opsF9 Q S 30 (LF9 13) a w :=
  wpAnyH_take (i := 13) hF9_13 noselF9 (by kernel_rfl) (by kernel_rfl) hQ hy hS (lF9_13.symm ▸ h)
def qF9_14 : Oper := { dst := some 132, op := Op.unOp UnOp.not 4 (Operand.tmp 131), type := 4, pos := "laws.go:430", after := #[{ on := 13, ground := Ground.data }, { on := 8, ground := Ground.guard }], guard := some (8, false) }
theorem hF9_14 : opsF9[14]? = some qF9_14 := by kernel_rfl
theorem lF9_14 : (LF9 14).setIfInBounds 14 true = LF9 15 := by kernel_rfl
theorem tF9_14 {Q : Exit → Act → World → Prop} {S : World → Prop} {a : Act} {w : World} (v : Value) (hQ : ∀ c a w, Q (.panic c) (a.put (some 132) v) w → Q (.panic c) a w) (hy : YieldsIf Try.prog opsF9 S qF9_14 v a) (hS : S w)
    (h : wpAnyH Try.prog .any opsF9 Q S 28 (LF9 15) (a.put (some 132) v) w) : wpAnyH Try.prog .any opsF9 Q S 29 (LF9 14) a w :=
  wpAnyH_take (i := 14) hF9_14 noselF9 (by kernel_rfl) (by kernel_rfl) hQ hy hS (lF9_14.symm ▸ h)
def qF9_15 : Oper := { dst := some 133, op := Op.pick (Operand.tmp 126) (Operand.const (Value.bool true)) (Operand.tmp 132), type := 4, pos := "laws.go:430", after := #[{ on := 8, ground := Ground.data }, { on := 14, ground := Ground.data }], guard := none }
theorem hF9_15 : opsF9[15]? = some qF9_15 := by kernel_rfl
theorem lF9_15 : (LF9 15).setIfInBounds 15 true = LF9 16 := by kernel_rfl
theorem tF9_15 {Q : Exit → Act → World → Prop} {S : World → Prop} {a : Act} {w : World} (v : Value) (hQ : ∀ c a w, Q (.panic c) (a.put (some 133) v) w → Q (.panic c) a w) (hy : YieldsIf Try.prog opsF9 S qF9_15 v a) (hS : S w)
    (h : wpAnyH Try.prog .any opsF9 Q S 27 (LF9 16) (a.put (some 133) v) w) : wpAnyH Try.prog .any opsF9 Q S 28 (LF9 15) a w :=
  wpAnyH_take (i := 15) hF9_15 noselF9 (by kernel_rfl) (by kernel_rfl) hQ hy hS (lF9_15.symm ▸ h)
def qF9_16 : Oper := { dst := some 134, op := Op.move (Operand.tmp 133), type := 4, pos := "laws.go:430", after := #[{ on := 15, ground := Ground.data }, { on := 13, ground := Ground.chain }], guard := none }
theorem hF9_16 : opsF9[16]? = some qF9_16 := by kernel_rfl
theorem lF9_16 : (LF9 16).setIfInBounds 16 true = LF9 17 := by kernel_rfl
theorem tF9_16 {Q : Exit → Act → World → Prop} {S : World → Prop} {a : Act} {w : World} (v : Value) (hQ : ∀ c a w, Q (.panic c) (a.put (some 134) v) w → Q (.panic c) a w) (hy : YieldsIf Try.prog opsF9 S qF9_16 v a) (hS : S w)
    (h : wpAnyH Try.prog .any opsF9 Q S 26 (LF9 17) (a.put (some 134) v) w) : wpAnyH Try.prog .any opsF9 Q S 27 (LF9 16) a w :=
  wpAnyH_take (i := 16) hF9_16 noselF9 (by kernel_rfl) (by kernel_rfl) hQ hy hS (lF9_16.symm ▸ h)
def qF9_17 : Oper := { dst := some 135, op := Op.move (Operand.tmp 14), type := 24, pos := "laws.go:430", after := #[{ on := 16, ground := Ground.guard }], guard := some (16, false) }
theorem hF9_17 : opsF9[17]? = some qF9_17 := by kernel_rfl
theorem lF9_17 : (LF9 17).setIfInBounds 17 true = LF9 18 := by kernel_rfl
theorem tF9_17 {Q : Exit → Act → World → Prop} {S : World → Prop} {a : Act} {w : World} (v : Value) (hQ : ∀ c a w, Q (.panic c) (a.put (some 135) v) w → Q (.panic c) a w) (hy : YieldsIf Try.prog opsF9 S qF9_17 v a) (hS : S w)
    (h : wpAnyH Try.prog .any opsF9 Q S 25 (LF9 18) (a.put (some 135) v) w) : wpAnyH Try.prog .any opsF9 Q S 26 (LF9 17) a w :=
  wpAnyH_take (i := 17) hF9_17 noselF9 (by kernel_rfl) (by kernel_rfl) hQ hy hS (lF9_17.symm ▸ h)
def qF9_18 : Oper := { dst := some 136, op := Op.load 26 (Operand.tmp 13), type := 26, pos := "laws.go:430", after := #[{ on := 16, ground := Ground.guard }], guard := some (16, false) }
theorem hF9_18 : opsF9[18]? = some qF9_18 := by kernel_rfl
theorem lF9_18 : (LF9 18).setIfInBounds 18 true = LF9 19 := by kernel_rfl
theorem tF9_18 {Q : Exit → Act → World → Prop} {S : World → Prop} {a : Act} {w : World} (v : Value) (hQ : ∀ c a w, Q (.panic c) (a.put (some 136) v) w → Q (.panic c) a w) (hy : YieldsIf Try.prog opsF9 S qF9_18 v a) (hS : S w)
    (h : wpAnyH Try.prog .any opsF9 Q S 24 (LF9 19) (a.put (some 136) v) w) : wpAnyH Try.prog .any opsF9 Q S 25 (LF9 18) a w :=
  wpAnyH_take (i := 18) hF9_18 noselF9 (by kernel_rfl) (by kernel_rfl) hQ hy hS (lF9_18.symm ▸ h)
def qF9_19 : Oper := { dst := some 137, op := Op.call { callee := Callee.value (Operand.func 26), args := #[Operand.tmp 135, Operand.tmp 136], argTypes := #[24, 26] }, type := 4, pos := "laws.go:430", after := #[{ on := 17, ground := Ground.data }, { on := 18, ground := Ground.data }, { on := 16, ground := Ground.chain }, { on := 16, ground := Ground.guard }], guard := some (16, false) }
theorem hF9_19 : opsF9[19]? = some qF9_19 := by kernel_rfl
theorem lF9_19 : (LF9 19).setIfInBounds 19 true = LF9 20 := by kernel_rfl
set_option maxRecDepth 100000 in
theorem cF9_19 {Q : Exit → Act → World → Prop} {S : World → Prop} {a : Act} {w : World}
    (h : ∀ K' : Act → World → Prop, Shut (∀ a w, S w → (S w → wpAnyH Try.prog .any opsF9 Q S 23 (LF9 20) a w) → K' a w) → if Region.wanted qF9_19 (yielded opsF9 a.tmps) = true then Oper.wp Try.prog qF9_19 a w K' Q else K' (a.put (some 137) undef) w) :
    wpAnyH Try.prog .any opsF9 Q S 24 (LF9 19) a w :=
  wpAnyH_ready (rs := [19]) (by kernel_rfl) (by simp) (AllReadyH.cons hF9_19 (fun K' hK => h K' (lF9_19 ▸ hK)) AllReadyH.nil)
theorem tF9_19 {Q : Exit → Act → World → Prop} {S : World → Prop} {a : Act} {w : World} (v : Value) (hQ : ∀ c a w, Q (.panic c) (a.put (some 137) v) w → Q (.panic c) a w) (hy : YieldsIf Try.prog opsF9 S qF9_19 v a) (hS : S w)
    (h : wpAnyH Try.prog .any opsF9 Q S 23 (LF9 20) (a.put (some 137) v) w) : wpAnyH Try.prog .any opsF9 Q S 24 (LF9 19) a w :=
  wpAnyH_take (i := 19) hF9_19 noselF9 (by kernel_rfl) (by kernel_rfl) hQ hy hS (lF9_19.symm ▸ h)
def qF9_20 : Oper := { dst := some 138, op := Op.unOp UnOp.not 4 (Operand.tmp 137), type := 4, pos := "laws.go:430", after := #[{ on := 19, ground := Ground.data }, { on := 16, ground := Ground.guard }], guard := some (16, false) }
theorem hF9_20 : opsF9[20]? = some qF9_20 := by kernel_rfl
theorem lF9_20 : (LF9 20).setIfInBounds 20 true = LF9 21 := by kernel_rfl
theorem tF9_20 {Q : Exit → Act → World → Prop} {S : World → Prop} {a : Act} {w : World} (v : Value) (hQ : ∀ c a w, Q (.panic c) (a.put (some 138) v) w → Q (.panic c) a w) (hy : YieldsIf Try.prog opsF9 S qF9_20 v a) (hS : S w)
    (h : wpAnyH Try.prog .any opsF9 Q S 22 (LF9 21) (a.put (some 138) v) w) : wpAnyH Try.prog .any opsF9 Q S 23 (LF9 20) a w :=
  wpAnyH_take (i := 20) hF9_20 noselF9 (by kernel_rfl) (by kernel_rfl) hQ hy hS (lF9_20.symm ▸ h)
def qF9_21 : Oper := { dst := some 139, op := Op.pick (Operand.tmp 134) (Operand.const (Value.bool true)) (Operand.tmp 138), type := 4, pos := "laws.go:430", after := #[{ on := 16, ground := Ground.data }, { on := 20, ground := Ground.data }], guard := none }
theorem hF9_21 : opsF9[21]? = some qF9_21 := by kernel_rfl
theorem lF9_21 : (LF9 21).setIfInBounds 21 true = LF9 22 := by kernel_rfl
theorem tF9_21 {Q : Exit → Act → World → Prop} {S : World → Prop} {a : Act} {w : World} (v : Value) (hQ : ∀ c a w, Q (.panic c) (a.put (some 139) v) w → Q (.panic c) a w) (hy : YieldsIf Try.prog opsF9 S qF9_21 v a) (hS : S w)
    (h : wpAnyH Try.prog .any opsF9 Q S 21 (LF9 22) (a.put (some 139) v) w) : wpAnyH Try.prog .any opsF9 Q S 22 (LF9 21) a w :=
  wpAnyH_take (i := 21) hF9_21 noselF9 (by kernel_rfl) (by kernel_rfl) hQ hy hS (lF9_21.symm ▸ h)
def qF9_22 : Oper := { dst := some 140, op := Op.move (Operand.tmp 139), type := 4, pos := "laws.go:430", after := #[{ on := 21, ground := Ground.data }, { on := 19, ground := Ground.chain }], guard := none }
theorem hF9_22 : opsF9[22]? = some qF9_22 := by kernel_rfl
theorem lF9_22 : (LF9 22).setIfInBounds 22 true = LF9 23 := by kernel_rfl
theorem tF9_22 {Q : Exit → Act → World → Prop} {S : World → Prop} {a : Act} {w : World} (v : Value) (hQ : ∀ c a w, Q (.panic c) (a.put (some 140) v) w → Q (.panic c) a w) (hy : YieldsIf Try.prog opsF9 S qF9_22 v a) (hS : S w)
    (h : wpAnyH Try.prog .any opsF9 Q S 20 (LF9 23) (a.put (some 140) v) w) : wpAnyH Try.prog .any opsF9 Q S 21 (LF9 22) a w :=
  wpAnyH_take (i := 22) hF9_22 noselF9 (by kernel_rfl) (by kernel_rfl) hQ hy hS (lF9_22.symm ▸ h)
def qF9_23 : Oper := { dst := some 141, op := Op.move (Operand.tmp 23), type := 24, pos := "laws.go:430", after := #[{ on := 22, ground := Ground.guard }], guard := some (22, false) }
theorem hF9_23 : opsF9[23]? = some qF9_23 := by kernel_rfl
theorem lF9_23 : (LF9 23).setIfInBounds 23 true = LF9 24 := by kernel_rfl
theorem tF9_23 {Q : Exit → Act → World → Prop} {S : World → Prop} {a : Act} {w : World} (v : Value) (hQ : ∀ c a w, Q (.panic c) (a.put (some 141) v) w → Q (.panic c) a w) (hy : YieldsIf Try.prog opsF9 S qF9_23 v a) (hS : S w)
    (h : wpAnyH Try.prog .any opsF9 Q S 19 (LF9 24) (a.put (some 141) v) w) : wpAnyH Try.prog .any opsF9 Q S 20 (LF9 23) a w :=
  wpAnyH_take (i := 23) hF9_23 noselF9 (by kernel_rfl) (by kernel_rfl) hQ hy hS (lF9_23.symm ▸ h)
def qF9_24 : Oper := { dst := some 142, op := Op.move (Operand.tmp 24), type := 3, pos := "laws.go:430", after := #[{ on := 22, ground := Ground.guard }], guard := some (22, false) }
theorem hF9_24 : opsF9[24]? = some qF9_24 := by kernel_rfl
theorem lF9_24 : (LF9 24).setIfInBounds 24 true = LF9 25 := by kernel_rfl
theorem tF9_24 {Q : Exit → Act → World → Prop} {S : World → Prop} {a : Act} {w : World} (v : Value) (hQ : ∀ c a w, Q (.panic c) (a.put (some 142) v) w → Q (.panic c) a w) (hy : YieldsIf Try.prog opsF9 S qF9_24 v a) (hS : S w)
    (h : wpAnyH Try.prog .any opsF9 Q S 18 (LF9 25) (a.put (some 142) v) w) : wpAnyH Try.prog .any opsF9 Q S 19 (LF9 24) a w :=
  wpAnyH_take (i := 24) hF9_24 noselF9 (by kernel_rfl) (by kernel_rfl) hQ hy hS (lF9_24.symm ▸ h)
def qF9_25 : Oper := { dst := some 143, op := Op.move (Operand.tmp 25), type := 3, pos := "laws.go:430", after := #[{ on := 22, ground := Ground.guard }], guard := some (22, false) }
theorem hF9_25 : opsF9[25]? = some qF9_25 := by kernel_rfl
theorem lF9_25 : (LF9 25).setIfInBounds 25 true = LF9 26 := by kernel_rfl
theorem tF9_25 {Q : Exit → Act → World → Prop} {S : World → Prop} {a : Act} {w : World} (v : Value) (hQ : ∀ c a w, Q (.panic c) (a.put (some 143) v) w → Q (.panic c) a w) (hy : YieldsIf Try.prog opsF9 S qF9_25 v a) (hS : S w)
    (h : wpAnyH Try.prog .any opsF9 Q S 17 (LF9 26) (a.put (some 143) v) w) : wpAnyH Try.prog .any opsF9 Q S 18 (LF9 25) a w :=
  wpAnyH_take (i := 25) hF9_25 noselF9 (by kernel_rfl) (by kernel_rfl) hQ hy hS (lF9_25.symm ▸ h)
def qF9_27 : Oper := { dst := some 145, op := Op.move (Operand.tmp 23), type := 24, pos := "laws.go:430", after := #[{ on := 22, ground := Ground.guard }], guard := some (22, false) }
theorem hF9_27 : opsF9[27]? = some qF9_27 := by kernel_rfl
theorem lF9_26 : (LF9 26).setIfInBounds 27 true = LF9 27 := by kernel_rfl
theorem tF9_26 {Q : Exit → Act → World → Prop} {S : World → Prop} {a : Act} {w : World} (v : Value) (hQ : ∀ c a w, Q (.panic c) (a.put (some 145) v) w → Q (.panic c) a w) (hy : YieldsIf Try.prog opsF9 S qF9_27 v a) (hS : S w)
    (h : wpAnyH Try.prog .any opsF9 Q S 16 (LF9 27) (a.put (some 145) v) w) : wpAnyH Try.prog .any opsF9 Q S 17 (LF9 26) a w :=
  wpAnyH_take (i := 27) hF9_27 noselF9 (by kernel_rfl) (by kernel_rfl) hQ hy hS (lF9_26.symm ▸ h)
def qF9_28 : Oper := { dst := some 146, op := Op.move (Operand.tmp 24), type := 3, pos := "laws.go:430", after := #[{ on := 22, ground := Ground.guard }], guard := some (22, false) }
theorem hF9_28 : opsF9[28]? = some qF9_28 := by kernel_rfl
theorem lF9_27 : (LF9 27).setIfInBounds 28 true = LF9 28 := by kernel_rfl
theorem tF9_27 {Q : Exit → Act → World → Prop} {S : World → Prop} {a : Act} {w : World} (v : Value) (hQ : ∀ c a w, Q (.panic c) (a.put (some 146) v) w → Q (.panic c) a w) (hy : YieldsIf Try.prog opsF9 S qF9_28 v a) (hS : S w)
    (h : wpAnyH Try.prog .any opsF9 Q S 15 (LF9 28) (a.put (some 146) v) w) : wpAnyH Try.prog .any opsF9 Q S 16 (LF9 27) a w :=
  wpAnyH_take (i := 28) hF9_28 noselF9 (by kernel_rfl) (by kernel_rfl) hQ hy hS (lF9_27.symm ▸ h)
def qF9_29 : Oper := { dst := some 147, op := Op.move (Operand.tmp 25), type := 3, pos := "laws.go:430", after := #[{ on := 22, ground := Ground.guard }], guard := some (22, false) }
theorem hF9_29 : opsF9[29]? = some qF9_29 := by kernel_rfl
theorem lF9_28 : (LF9 28).setIfInBounds 29 true = LF9 29 := by kernel_rfl
theorem tF9_28 {Q : Exit → Act → World → Prop} {S : World → Prop} {a : Act} {w : World} (v : Value) (hQ : ∀ c a w, Q (.panic c) (a.put (some 147) v) w → Q (.panic c) a w) (hy : YieldsIf Try.prog opsF9 S qF9_29 v a) (hS : S w)
    (h : wpAnyH Try.prog .any opsF9 Q S 14 (LF9 29) (a.put (some 147) v) w) : wpAnyH Try.prog .any opsF9 Q S 15 (LF9 28) a w :=
  wpAnyH_take (i := 29) hF9_29 noselF9 (by kernel_rfl) (by kernel_rfl) hQ hy hS (lF9_28.symm ▸ h)
def qF9_26 : Oper := { dst := some 144, op := Op.call { callee := Callee.value (Operand.func 27), args := #[Operand.tmp 141, Operand.tmp 142, Operand.tmp 143], argTypes := #[24, 3, 3] }, type := 24, pos := "laws.go:430", after := #[{ on := 23, ground := Ground.data }, { on := 24, ground := Ground.data }, { on := 25, ground := Ground.data }, { on := 22, ground := Ground.chain }, { on := 22, ground := Ground.guard }], guard := some (22, false) }
theorem hF9_26 : opsF9[26]? = some qF9_26 := by kernel_rfl
theorem lF9_29 : (LF9 29).setIfInBounds 26 true = LF9 30 := by kernel_rfl
set_option maxRecDepth 100000 in
theorem cF9_29 {Q : Exit → Act → World → Prop} {S : World → Prop} {a : Act} {w : World}
    (h : ∀ K' : Act → World → Prop, Shut (∀ a w, S w → (S w → wpAnyH Try.prog .any opsF9 Q S 13 (LF9 30) a w) → K' a w) → if Region.wanted qF9_26 (yielded opsF9 a.tmps) = true then Oper.wp Try.prog qF9_26 a w K' Q else K' (a.put (some 144) undef) w) :
    wpAnyH Try.prog .any opsF9 Q S 14 (LF9 29) a w :=
  wpAnyH_ready (rs := [26]) (by kernel_rfl) (by simp) (AllReadyH.cons hF9_26 (fun K' hK => h K' (lF9_29 ▸ hK)) AllReadyH.nil)
theorem tF9_29 {Q : Exit → Act → World → Prop} {S : World → Prop} {a : Act} {w : World} (v : Value) (hQ : ∀ c a w, Q (.panic c) (a.put (some 144) v) w → Q (.panic c) a w) (hy : YieldsIf Try.prog opsF9 S qF9_26 v a) (hS : S w)
    (h : wpAnyH Try.prog .any opsF9 Q S 13 (LF9 30) (a.put (some 144) v) w) : wpAnyH Try.prog .any opsF9 Q S 14 (LF9 29) a w :=
  wpAnyH_take (i := 26) hF9_26 noselF9 (by kernel_rfl) (by kernel_rfl) hQ hy hS (lF9_29.symm ▸ h)
def qF9_30 : Oper := { dst := some 148, op := Op.call { callee := Callee.value (Operand.func 28), args := #[Operand.tmp 145, Operand.tmp 146, Operand.tmp 147], argTypes := #[24, 3, 3] }, type := 24, pos := "laws.go:430", after := #[{ on := 27, ground := Ground.data }, { on := 28, ground := Ground.data }, { on := 29, ground := Ground.data }, { on := 26, ground := Ground.chain }, { on := 22, ground := Ground.guard }], guard := some (22, false) }
theorem hF9_30 : opsF9[30]? = some qF9_30 := by kernel_rfl
theorem lF9_30 : (LF9 30).setIfInBounds 30 true = LF9 31 := by kernel_rfl
set_option maxRecDepth 100000 in
theorem cF9_30 {Q : Exit → Act → World → Prop} {S : World → Prop} {a : Act} {w : World}
    (h : ∀ K' : Act → World → Prop, Shut (∀ a w, S w → (S w → wpAnyH Try.prog .any opsF9 Q S 12 (LF9 31) a w) → K' a w) → if Region.wanted qF9_30 (yielded opsF9 a.tmps) = true then Oper.wp Try.prog qF9_30 a w K' Q else K' (a.put (some 148) undef) w) :
    wpAnyH Try.prog .any opsF9 Q S 13 (LF9 30) a w :=
  wpAnyH_ready (rs := [30]) (by kernel_rfl) (by simp) (AllReadyH.cons hF9_30 (fun K' hK => h K' (lF9_30 ▸ hK)) AllReadyH.nil)
theorem tF9_30 {Q : Exit → Act → World → Prop} {S : World → Prop} {a : Act} {w : World} (v : Value) (hQ : ∀ c a w, Q (.panic c) (a.put (some 148) v) w → Q (.panic c) a w) (hy : YieldsIf Try.prog opsF9 S qF9_30 v a) (hS : S w)
    (h : wpAnyH Try.prog .any opsF9 Q S 12 (LF9 31) (a.put (some 148) v) w) : wpAnyH Try.prog .any opsF9 Q S 13 (LF9 30) a w :=
  wpAnyH_take (i := 30) hF9_30 noselF9 (by kernel_rfl) (by kernel_rfl) hQ hy hS (lF9_30.symm ▸ h)
def qF9_31 : Oper := { dst := some 149, op := Op.call { callee := Callee.value (Operand.func 15), args := #[Operand.tmp 144, Operand.tmp 148], argTypes := #[24, 24] }, type := 4, pos := "laws.go:430", after := #[{ on := 26, ground := Ground.data }, { on := 30, ground := Ground.data }, { on := 30, ground := Ground.chain }, { on := 22, ground := Ground.guard }], guard := some (22, false) }
theorem hF9_31 : opsF9[31]? = some qF9_31 := by kernel_rfl
theorem lF9_31 : (LF9 31).setIfInBounds 31 true = LF9 32 := by kernel_rfl
set_option maxRecDepth 100000 in
theorem cF9_31 {Q : Exit → Act → World → Prop} {S : World → Prop} {a : Act} {w : World}
    (h : ∀ K' : Act → World → Prop, Shut (∀ a w, S w → (S w → wpAnyH Try.prog .any opsF9 Q S 11 (LF9 32) a w) → K' a w) → if Region.wanted qF9_31 (yielded opsF9 a.tmps) = true then Oper.wp Try.prog qF9_31 a w K' Q else K' (a.put (some 149) undef) w) :
    wpAnyH Try.prog .any opsF9 Q S 12 (LF9 31) a w :=
  wpAnyH_ready (rs := [31]) (by kernel_rfl) (by simp) (AllReadyH.cons hF9_31 (fun K' hK => h K' (lF9_31 ▸ hK)) AllReadyH.nil)
theorem tF9_31 {Q : Exit → Act → World → Prop} {S : World → Prop} {a : Act} {w : World} (v : Value) (hQ : ∀ c a w, Q (.panic c) (a.put (some 149) v) w → Q (.panic c) a w) (hy : YieldsIf Try.prog opsF9 S qF9_31 v a) (hS : S w)
    (h : wpAnyH Try.prog .any opsF9 Q S 11 (LF9 32) (a.put (some 149) v) w) : wpAnyH Try.prog .any opsF9 Q S 12 (LF9 31) a w :=
  wpAnyH_take (i := 31) hF9_31 noselF9 (by kernel_rfl) (by kernel_rfl) hQ hy hS (lF9_31.symm ▸ h)
def qF9_32 : Oper := { dst := some 150, op := Op.unOp UnOp.not 4 (Operand.tmp 149), type := 4, pos := "laws.go:430", after := #[{ on := 31, ground := Ground.data }, { on := 22, ground := Ground.guard }], guard := some (22, false) }
theorem hF9_32 : opsF9[32]? = some qF9_32 := by kernel_rfl
theorem lF9_32 : (LF9 32).setIfInBounds 32 true = LF9 33 := by kernel_rfl
theorem tF9_32 {Q : Exit → Act → World → Prop} {S : World → Prop} {a : Act} {w : World} (v : Value) (hQ : ∀ c a w, Q (.panic c) (a.put (some 150) v) w → Q (.panic c) a w) (hy : YieldsIf Try.prog opsF9 S qF9_32 v a) (hS : S w)
    (h : wpAnyH Try.prog .any opsF9 Q S 10 (LF9 33) (a.put (some 150) v) w) : wpAnyH Try.prog .any opsF9 Q S 11 (LF9 32) a w :=
  wpAnyH_take (i := 32) hF9_32 noselF9 (by kernel_rfl) (by kernel_rfl) hQ hy hS (lF9_32.symm ▸ h)
def qF9_33 : Oper := { dst := some 151, op := Op.pick (Operand.tmp 140) (Operand.const (Value.bool true)) (Operand.tmp 150), type := 4, pos := "laws.go:430", after := #[{ on := 22, ground := Ground.data }, { on := 32, ground := Ground.data }], guard := none }
theorem hF9_33 : opsF9[33]? = some qF9_33 := by kernel_rfl
theorem lF9_33 : (LF9 33).setIfInBounds 33 true = LF9 34 := by kernel_rfl
theorem tF9_33 {Q : Exit → Act → World → Prop} {S : World → Prop} {a : Act} {w : World} (v : Value) (hQ : ∀ c a w, Q (.panic c) (a.put (some 151) v) w → Q (.panic c) a w) (hy : YieldsIf Try.prog opsF9 S qF9_33 v a) (hS : S w)
    (h : wpAnyH Try.prog .any opsF9 Q S 9 (LF9 34) (a.put (some 151) v) w) : wpAnyH Try.prog .any opsF9 Q S 10 (LF9 33) a w :=
  wpAnyH_take (i := 33) hF9_33 noselF9 (by kernel_rfl) (by kernel_rfl) hQ hy hS (lF9_33.symm ▸ h)
def qF9_34 : Oper := { dst := some 152, op := Op.move (Operand.tmp 151), type := 4, pos := "laws.go:430", after := #[{ on := 33, ground := Ground.data }, { on := 31, ground := Ground.chain }], guard := none }
theorem hF9_34 : opsF9[34]? = some qF9_34 := by kernel_rfl
theorem lF9_34 : (LF9 34).setIfInBounds 34 true = LF9 35 := by kernel_rfl
theorem tF9_34 {Q : Exit → Act → World → Prop} {S : World → Prop} {a : Act} {w : World} (v : Value) (hQ : ∀ c a w, Q (.panic c) (a.put (some 152) v) w → Q (.panic c) a w) (hy : YieldsIf Try.prog opsF9 S qF9_34 v a) (hS : S w)
    (h : wpAnyH Try.prog .any opsF9 Q S 8 (LF9 35) (a.put (some 152) v) w) : wpAnyH Try.prog .any opsF9 Q S 9 (LF9 34) a w :=
  wpAnyH_take (i := 34) hF9_34 noselF9 (by kernel_rfl) (by kernel_rfl) hQ hy hS (lF9_34.symm ▸ h)
def qF9_35 : Oper := { dst := some 153, op := Op.load 26 (Operand.tmp 26), type := 26, pos := "laws.go:430", after := #[{ on := 34, ground := Ground.guard }], guard := some (34, false) }
theorem hF9_35 : opsF9[35]? = some qF9_35 := by kernel_rfl
theorem lF9_35 : (LF9 35).setIfInBounds 35 true = LF9 36 := by kernel_rfl
theorem tF9_35 {Q : Exit → Act → World → Prop} {S : World → Prop} {a : Act} {w : World} (v : Value) (hQ : ∀ c a w, Q (.panic c) (a.put (some 153) v) w → Q (.panic c) a w) (hy : YieldsIf Try.prog opsF9 S qF9_35 v a) (hS : S w)
    (h : wpAnyH Try.prog .any opsF9 Q S 7 (LF9 36) (a.put (some 153) v) w) : wpAnyH Try.prog .any opsF9 Q S 8 (LF9 35) a w :=
  wpAnyH_take (i := 35) hF9_35 noselF9 (by kernel_rfl) (by kernel_rfl) hQ hy hS (lF9_35.symm ▸ h)
def qF9_36 : Oper := { dst := some 154, op := Op.load 26 (Operand.tmp 27), type := 26, pos := "laws.go:430", after := #[{ on := 34, ground := Ground.guard }], guard := some (34, false) }
theorem hF9_36 : opsF9[36]? = some qF9_36 := by kernel_rfl
theorem lF9_36 : (LF9 36).setIfInBounds 36 true = LF9 37 := by kernel_rfl
theorem tF9_36 {Q : Exit → Act → World → Prop} {S : World → Prop} {a : Act} {w : World} (v : Value) (hQ : ∀ c a w, Q (.panic c) (a.put (some 154) v) w → Q (.panic c) a w) (hy : YieldsIf Try.prog opsF9 S qF9_36 v a) (hS : S w)
    (h : wpAnyH Try.prog .any opsF9 Q S 6 (LF9 37) (a.put (some 154) v) w) : wpAnyH Try.prog .any opsF9 Q S 7 (LF9 36) a w :=
  wpAnyH_take (i := 36) hF9_36 noselF9 (by kernel_rfl) (by kernel_rfl) hQ hy hS (lF9_36.symm ▸ h)
def qF9_38 : Oper := { dst := some 156, op := Op.load 26 (Operand.tmp 26), type := 26, pos := "laws.go:430", after := #[{ on := 34, ground := Ground.guard }], guard := some (34, false) }
theorem hF9_38 : opsF9[38]? = some qF9_38 := by kernel_rfl
theorem lF9_37 : (LF9 37).setIfInBounds 38 true = LF9 38 := by kernel_rfl
theorem tF9_37 {Q : Exit → Act → World → Prop} {S : World → Prop} {a : Act} {w : World} (v : Value) (hQ : ∀ c a w, Q (.panic c) (a.put (some 156) v) w → Q (.panic c) a w) (hy : YieldsIf Try.prog opsF9 S qF9_38 v a) (hS : S w)
    (h : wpAnyH Try.prog .any opsF9 Q S 5 (LF9 38) (a.put (some 156) v) w) : wpAnyH Try.prog .any opsF9 Q S 6 (LF9 37) a w :=
  wpAnyH_take (i := 38) hF9_38 noselF9 (by kernel_rfl) (by kernel_rfl) hQ hy hS (lF9_37.symm ▸ h)
def qF9_39 : Oper := { dst := some 157, op := Op.load 26 (Operand.tmp 27), type := 26, pos := "laws.go:430", after := #[{ on := 34, ground := Ground.guard }], guard := some (34, false) }
theorem hF9_39 : opsF9[39]? = some qF9_39 := by kernel_rfl
theorem lF9_38 : (LF9 38).setIfInBounds 39 true = LF9 39 := by kernel_rfl
theorem tF9_38 {Q : Exit → Act → World → Prop} {S : World → Prop} {a : Act} {w : World} (v : Value) (hQ : ∀ c a w, Q (.panic c) (a.put (some 157) v) w → Q (.panic c) a w) (hy : YieldsIf Try.prog opsF9 S qF9_39 v a) (hS : S w)
    (h : wpAnyH Try.prog .any opsF9 Q S 4 (LF9 39) (a.put (some 157) v) w) : wpAnyH Try.prog .any opsF9 Q S 5 (LF9 38) a w :=
  wpAnyH_take (i := 39) hF9_39 noselF9 (by kernel_rfl) (by kernel_rfl) hQ hy hS (lF9_38.symm ▸ h)
def qF9_37 : Oper := { dst := some 155, op := Op.call { callee := Callee.value (Operand.func 29), args := #[Operand.tmp 153, Operand.tmp 154], argTypes := #[26, 26] }, type := 3, pos := "laws.go:430", after := #[{ on := 35, ground := Ground.data }, { on := 36, ground := Ground.data }, { on := 34, ground := Ground.chain }, { on := 34, ground := Ground.guard }], guard := some (34, false) }
theorem hF9_37 : opsF9[37]? = some qF9_37 := by kernel_rfl
theorem lF9_39 : (LF9 39).setIfInBounds 37 true = LF9 40 := by kernel_rfl
set_option maxRecDepth 100000 in
theorem cF9_39 {Q : Exit → Act → World → Prop} {S : World → Prop} {a : Act} {w : World}
    (h : ∀ K' : Act → World → Prop, Shut (∀ a w, S w → (S w → wpAnyH Try.prog .any opsF9 Q S 3 (LF9 40) a w) → K' a w) → if Region.wanted qF9_37 (yielded opsF9 a.tmps) = true then Oper.wp Try.prog qF9_37 a w K' Q else K' (a.put (some 155) undef) w) :
    wpAnyH Try.prog .any opsF9 Q S 4 (LF9 39) a w :=
  wpAnyH_ready (rs := [37]) (by kernel_rfl) (by simp) (AllReadyH.cons hF9_37 (fun K' hK => h K' (lF9_39 ▸ hK)) AllReadyH.nil)
theorem tF9_39 {Q : Exit → Act → World → Prop} {S : World → Prop} {a : Act} {w : World} (v : Value) (hQ : ∀ c a w, Q (.panic c) (a.put (some 155) v) w → Q (.panic c) a w) (hy : YieldsIf Try.prog opsF9 S qF9_37 v a) (hS : S w)
    (h : wpAnyH Try.prog .any opsF9 Q S 3 (LF9 40) (a.put (some 155) v) w) : wpAnyH Try.prog .any opsF9 Q S 4 (LF9 39) a w :=
  wpAnyH_take (i := 37) hF9_37 noselF9 (by kernel_rfl) (by kernel_rfl) hQ hy hS (lF9_39.symm ▸ h)
def qF9_40 : Oper := { dst := some 158, op := Op.call { callee := Callee.value (Operand.func 30), args := #[Operand.tmp 156, Operand.tmp 157], argTypes := #[26, 26] }, type := 3, pos := "laws.go:430", after := #[{ on := 38, ground := Ground.data }, { on := 39, ground := Ground.data }, { on := 37, ground := Ground.chain }, { on := 34, ground := Ground.guard }], guard := some (34, false) }
theorem hF9_40 : opsF9[40]? = some qF9_40 := by kernel_rfl
theorem lF9_40 : (LF9 40).setIfInBounds 40 true = LF9 41 := by kernel_rfl
set_option maxRecDepth 100000 in
theorem cF9_40 {Q : Exit → Act → World → Prop} {S : World → Prop} {a : Act} {w : World}
    (h : ∀ K' : Act → World → Prop, Shut (∀ a w, S w → (S w → wpAnyH Try.prog .any opsF9 Q S 2 (LF9 41) a w) → K' a w) → if Region.wanted qF9_40 (yielded opsF9 a.tmps) = true then Oper.wp Try.prog qF9_40 a w K' Q else K' (a.put (some 158) undef) w) :
    wpAnyH Try.prog .any opsF9 Q S 3 (LF9 40) a w :=
  wpAnyH_ready (rs := [40]) (by kernel_rfl) (by simp) (AllReadyH.cons hF9_40 (fun K' hK => h K' (lF9_40 ▸ hK)) AllReadyH.nil)
theorem tF9_40 {Q : Exit → Act → World → Prop} {S : World → Prop} {a : Act} {w : World} (v : Value) (hQ : ∀ c a w, Q (.panic c) (a.put (some 158) v) w → Q (.panic c) a w) (hy : YieldsIf Try.prog opsF9 S qF9_40 v a) (hS : S w)
    (h : wpAnyH Try.prog .any opsF9 Q S 2 (LF9 41) (a.put (some 158) v) w) : wpAnyH Try.prog .any opsF9 Q S 3 (LF9 40) a w :=
  wpAnyH_take (i := 40) hF9_40 noselF9 (by kernel_rfl) (by kernel_rfl) hQ hy hS (lF9_40.symm ▸ h)
def qF9_41 : Oper := { dst := some 159, op := Op.binOp BinOp.neq 3 (Operand.tmp 155) (Operand.tmp 158) 3, type := 4, pos := "laws.go:430", after := #[{ on := 37, ground := Ground.data }, { on := 40, ground := Ground.data }, { on := 34, ground := Ground.guard }], guard := some (34, false) }
theorem hF9_41 : opsF9[41]? = some qF9_41 := by kernel_rfl
theorem lF9_41 : (LF9 41).setIfInBounds 41 true = LF9 42 := by kernel_rfl
theorem tF9_41 {Q : Exit → Act → World → Prop} {S : World → Prop} {a : Act} {w : World} (v : Value) (hQ : ∀ c a w, Q (.panic c) (a.put (some 159) v) w → Q (.panic c) a w) (hy : YieldsIf Try.prog opsF9 S qF9_41 v a) (hS : S w)
    (h : wpAnyH Try.prog .any opsF9 Q S 1 (LF9 42) (a.put (some 159) v) w) : wpAnyH Try.prog .any opsF9 Q S 2 (LF9 41) a w :=
  wpAnyH_take (i := 41) hF9_41 noselF9 (by kernel_rfl) (by kernel_rfl) hQ hy hS (lF9_41.symm ▸ h)
def qF9_42 : Oper := { dst := some 160, op := Op.pick (Operand.tmp 152) (Operand.const (Value.bool true)) (Operand.tmp 159), type := 4, pos := "laws.go:430", after := #[{ on := 34, ground := Ground.data }, { on := 41, ground := Ground.data }], guard := none }
theorem hF9_42 : opsF9[42]? = some qF9_42 := by kernel_rfl
theorem lF9_42 : (LF9 42).setIfInBounds 42 true = LF9 43 := by kernel_rfl
theorem tF9_42 {Q : Exit → Act → World → Prop} {S : World → Prop} {a : Act} {w : World} (v : Value) (hQ : ∀ c a w, Q (.panic c) (a.put (some 160) v) w → Q (.panic c) a w) (hy : YieldsIf Try.prog opsF9 S qF9_42 v a) (hS : S w)
    (h : wpAnyH Try.prog .any opsF9 Q S 0 (LF9 43) (a.put (some 160) v) w) : wpAnyH Try.prog .any opsF9 Q S 1 (LF9 42) a w :=
  wpAnyH_take (i := 42) hF9_42 noselF9 (by kernel_rfl) (by kernel_rfl) hQ hy hS (lF9_42.symm ▸ h)
end Go.Proofs.Ytlmjmhdmhpkkkaa.hexes
