/-
  A statement of spec.Minimal: its operations, and a theorem a step.
-/
import Derived.Test.YtiehpniogehkmaaProg
import Derived.WalkKit
import Derived.Deep.RegionHeld3
namespace Go.Proofs.Ytiehpniogehkmaa.hexes
open Go.RowKit

def findM14 (n : Nat) : Code → Option Code
  | .region id ops d => if id = n then some (.region id ops d) else none
  | .seq a b => match findM14 n a with
    | some c => some c
    | none => findM14 n b
  | .block _ c => findM14 n c
  | .scope c => findM14 n c
  | .loop c => findM14 n c
  | .cond _ a b => match findM14 n a with
    | some c => some c
    | none => findM14 n b
  | _ => none
def opsOfM14 : Option Code → Array Oper
  | some (.region _ ops _) => ops
  | _ => #[]
noncomputable def opsM14 : Array Oper := opsOfM14 (Try.f57.body.bind (findM14 14))
def schM14 : List Nat := [0, 1, 2, 3, 4, 5, 6, 7, 8, 9, 10, 11, 12, 13, 14]
def LM14 (k : Nat) : Array Bool := ((List.range 15).map fun i => (schM14.take k).contains i).toArray
theorem noselM14 : Region.noSelect opsM14 = true := by kernel_rfl
def qM14_0 : Oper := { dst := some 66, op := Op.move (Operand.tmp 7), type := 3, pos := "l03_frontiers.go:19", after := #[], guard := none }
theorem hM14_0 : opsM14[0]? = some qM14_0 := by kernel_rfl
theorem lM14_0 : (LM14 0).setIfInBounds 0 true = LM14 1 := by kernel_rfl
theorem tM14_0 {Q : Exit → Act → World → Prop} {S : World → Prop} {a : Act} {w : World} (v : Value) (hQ : ∀ c a w, Q (.panic c) (a.put (some 66) v) w → Q (.panic c) a w) (hy : YieldsIf Try.prog opsM14 S qM14_0 v a) (hS : S w)
    (h : wpAnyH Try.prog .any opsM14 Q S 14 (LM14 1) (a.put (some 66) v) w) : wpAnyH Try.prog .any opsM14 Q S 15 (LM14 0) a w :=
  wpAnyH_take (i := 0) hM14_0 noselM14 (by kernel_rfl) (by kernel_rfl) hQ hy hS (lM14_0.symm ▸ h)
def qM14_1 : Oper := { dst := some 67, op := Op.move (Operand.tmp 3), type := 38, pos := "l03_frontiers.go:19", after := #[], guard := none }
theorem hM14_1 : opsM14[1]? = some qM14_1 := by kernel_rfl
theorem lM14_1 : (LM14 1).setIfInBounds 1 true = LM14 2 := by kernel_rfl
theorem tM14_1 {Q : Exit → Act → World → Prop} {S : World → Prop} {a : Act} {w : World} (v : Value) (hQ : ∀ c a w, Q (.panic c) (a.put (some 67) v) w → Q (.panic c) a w) (hy : YieldsIf Try.prog opsM14 S qM14_1 v a) (hS : S w)
    (h : wpAnyH Try.prog .any opsM14 Q S 13 (LM14 2) (a.put (some 67) v) w) : wpAnyH Try.prog .any opsM14 Q S 14 (LM14 1) a w :=
  wpAnyH_take (i := 1) hM14_1 noselM14 (by kernel_rfl) (by kernel_rfl) hQ hy hS (lM14_1.symm ▸ h)
def qM14_2 : Oper := { dst := some 68, op := Op.call { callee := Callee.builtin Builtin.len, args := #[Operand.tmp 67], argTypes := #[38] }, type := 3, pos := "l03_frontiers.go:19", after := #[{ on := 1, ground := Ground.data }], guard := none }
theorem hM14_2 : opsM14[2]? = some qM14_2 := by kernel_rfl
theorem lM14_2 : (LM14 2).setIfInBounds 2 true = LM14 3 := by kernel_rfl
theorem tM14_2 {Q : Exit → Act → World → Prop} {S : World → Prop} {a : Act} {w : World} (v : Value) (hQ : ∀ c a w, Q (.panic c) (a.put (some 68) v) w → Q (.panic c) a w) (hy : YieldsIf Try.prog opsM14 S qM14_2 v a) (hS : S w)
    (h : wpAnyH Try.prog .any opsM14 Q S 12 (LM14 3) (a.put (some 68) v) w) : wpAnyH Try.prog .any opsM14 Q S 13 (LM14 2) a w :=
  wpAnyH_take (i := 2) hM14_2 noselM14 (by kernel_rfl) (by kernel_rfl) hQ hy hS (lM14_2.symm ▸ h)
def qM14_3 : Oper := { dst := some 69, op := Op.binOp BinOp.lss 3 (Operand.tmp 66) (Operand.tmp 68) 3, type := 4, pos := "l03_frontiers.go:19", after := #[{ on := 0, ground := Ground.data }, { on := 2, ground := Ground.data }], guard := none }
theorem hM14_3 : opsM14[3]? = some qM14_3 := by kernel_rfl
theorem lM14_3 : (LM14 3).setIfInBounds 3 true = LM14 4 := by kernel_rfl
theorem tM14_3 {Q : Exit → Act → World → Prop} {S : World → Prop} {a : Act} {w : World} (v : Value) (hQ : ∀ c a w, Q (.panic c) (a.put (some 69) v) w → Q (.panic c) a w) (hy : YieldsIf Try.prog opsM14 S qM14_3 v a) (hS : S w)
    (h : wpAnyH Try.prog .any opsM14 Q S 11 (LM14 4) (a.put (some 69) v) w) : wpAnyH Try.prog .any opsM14 Q S 12 (LM14 3) a w :=
  wpAnyH_take (i := 3) hM14_3 noselM14 (by kernel_rfl) (by kernel_rfl) hQ hy hS (lM14_3.symm ▸ h)
def qM14_4 : Oper := { dst := some 70, op := Op.move (Operand.tmp 69), type := 4, pos := "l03_frontiers.go:19", after := #[{ on := 3, ground := Ground.data }], guard := none }
theorem hM14_4 : opsM14[4]? = some qM14_4 := by kernel_rfl
theorem lM14_4 : (LM14 4).setIfInBounds 4 true = LM14 5 := by kernel_rfl
theorem tM14_4 {Q : Exit → Act → World → Prop} {S : World → Prop} {a : Act} {w : World} (v : Value) (hQ : ∀ c a w, Q (.panic c) (a.put (some 70) v) w → Q (.panic c) a w) (hy : YieldsIf Try.prog opsM14 S qM14_4 v a) (hS : S w)
    (h : wpAnyH Try.prog .any opsM14 Q S 10 (LM14 5) (a.put (some 70) v) w) : wpAnyH Try.prog .any opsM14 Q S 11 (LM14 4) a w :=
  wpAnyH_take (i := 4) hM14_4 noselM14 (by kernel_rfl) (by kernel_rfl) hQ hy hS (lM14_4.symm ▸ h)
def qM14_5 : Oper := { dst := some 71, op := Op.move (Operand.tmp 3), type := 38, pos := "l03_frontiers.go:19", after := #[{ on := 4, ground := Ground.guard }], guard := some (4, true) }
theorem hM14_5 : opsM14[5]? = some qM14_5 := by kernel_rfl
theorem lM14_5 : (LM14 5).setIfInBounds 5 true = LM14 6 := by kernel_rfl
theorem tM14_5 {Q : Exit → Act → World → Prop} {S : World → Prop} {a : Act} {w : World} (v : Value) (hQ : ∀ c a w, Q (.panic c) (a.put (some 71) v) w → Q (.panic c) a w) (hy : YieldsIf Try.prog opsM14 S qM14_5 v a) (hS : S w)
    (h : wpAnyH Try.prog .any opsM14 Q S 9 (LM14 6) (a.put (some 71) v) w) : wpAnyH Try.prog .any opsM14 Q S 10 (LM14 5) a w :=
  wpAnyH_take (i := 5) hM14_5 noselM14 (by kernel_rfl) (by kernel_rfl) hQ hy hS (lM14_5.symm ▸ h)
def qM14_6 : Oper := { dst := some 72, op := Op.move (Operand.tmp 7), type := 3, pos := "l03_frontiers.go:19", after := #[{ on := 4, ground := Ground.guard }], guard := some (4, true) }
theorem hM14_6 : opsM14[6]? = some qM14_6 := by kernel_rfl
theorem lM14_6 : (LM14 6).setIfInBounds 6 true = LM14 7 := by kernel_rfl
theorem tM14_6 {Q : Exit → Act → World → Prop} {S : World → Prop} {a : Act} {w : World} (v : Value) (hQ : ∀ c a w, Q (.panic c) (a.put (some 72) v) w → Q (.panic c) a w) (hy : YieldsIf Try.prog opsM14 S qM14_6 v a) (hS : S w)
    (h : wpAnyH Try.prog .any opsM14 Q S 8 (LM14 7) (a.put (some 72) v) w) : wpAnyH Try.prog .any opsM14 Q S 9 (LM14 6) a w :=
  wpAnyH_take (i := 6) hM14_6 noselM14 (by kernel_rfl) (by kernel_rfl) hQ hy hS (lM14_6.symm ▸ h)
def qM14_7 : Oper := { dst := some 73, op := Op.indexAddr 38 (Operand.tmp 71) (Operand.tmp 72), type := 0, pos := "l03_frontiers.go:19", after := #[{ on := 5, ground := Ground.data }, { on := 6, ground := Ground.data }, { on := 4, ground := Ground.guard }], guard := some (4, true) }
theorem hM14_7 : opsM14[7]? = some qM14_7 := by kernel_rfl
theorem lM14_7 : (LM14 7).setIfInBounds 7 true = LM14 8 := by kernel_rfl
theorem tM14_7 {Q : Exit → Act → World → Prop} {S : World → Prop} {a : Act} {w : World} (v : Value) (hQ : ∀ c a w, Q (.panic c) (a.put (some 73) v) w → Q (.panic c) a w) (hy : YieldsIf Try.prog opsM14 S qM14_7 v a) (hS : S w)
    (h : wpAnyH Try.prog .any opsM14 Q S 7 (LM14 8) (a.put (some 73) v) w) : wpAnyH Try.prog .any opsM14 Q S 8 (LM14 7) a w :=
  wpAnyH_take (i := 7) hM14_7 noselM14 (by kernel_rfl) (by kernel_rfl) hQ hy hS (lM14_7.symm ▸ h)
def qM14_8 : Oper := { dst := some 74, op := Op.load 26 (Operand.tmp 73), type := 26, pos := "l03_frontiers.go:19", after := #[{ on := 7, ground := Ground.data }, { on := 4, ground := Ground.guard }], guard := some (4, true) }
theorem hM14_8 : opsM14[8]? = some qM14_8 := by kernel_rfl
theorem lM14_8 : (LM14 8).setIfInBounds 8 true = LM14 9 := by kernel_rfl
theorem tM14_8 {Q : Exit → Act → World → Prop} {S : World → Prop} {a : Act} {w : World} (v : Value) (hQ : ∀ c a w, Q (.panic c) (a.put (some 74) v) w → Q (.panic c) a w) (hy : YieldsIf Try.prog opsM14 S qM14_8 v a) (hS : S w)
    (h : wpAnyH Try.prog .any opsM14 Q S 6 (LM14 9) (a.put (some 74) v) w) : wpAnyH Try.prog .any opsM14 Q S 7 (LM14 8) a w :=
  wpAnyH_take (i := 8) hM14_8 noselM14 (by kernel_rfl) (by kernel_rfl) hQ hy hS (lM14_8.symm ▸ h)
def qM14_9 : Oper := { dst := some 75, op := Op.move (Operand.tmp 0), type := 38, pos := "l03_frontiers.go:19", after := #[{ on := 4, ground := Ground.guard }], guard := some (4, true) }
theorem hM14_9 : opsM14[9]? = some qM14_9 := by kernel_rfl
theorem lM14_9 : (LM14 9).setIfInBounds 9 true = LM14 10 := by kernel_rfl
theorem tM14_9 {Q : Exit → Act → World → Prop} {S : World → Prop} {a : Act} {w : World} (v : Value) (hQ : ∀ c a w, Q (.panic c) (a.put (some 75) v) w → Q (.panic c) a w) (hy : YieldsIf Try.prog opsM14 S qM14_9 v a) (hS : S w)
    (h : wpAnyH Try.prog .any opsM14 Q S 5 (LM14 10) (a.put (some 75) v) w) : wpAnyH Try.prog .any opsM14 Q S 6 (LM14 9) a w :=
  wpAnyH_take (i := 9) hM14_9 noselM14 (by kernel_rfl) (by kernel_rfl) hQ hy hS (lM14_9.symm ▸ h)
def qM14_10 : Oper := { dst := some 76, op := Op.move (Operand.tmp 4), type := 3, pos := "l03_frontiers.go:19", after := #[{ on := 4, ground := Ground.guard }], guard := some (4, true) }
theorem hM14_10 : opsM14[10]? = some qM14_10 := by kernel_rfl
theorem lM14_10 : (LM14 10).setIfInBounds 10 true = LM14 11 := by kernel_rfl
theorem tM14_10 {Q : Exit → Act → World → Prop} {S : World → Prop} {a : Act} {w : World} (v : Value) (hQ : ∀ c a w, Q (.panic c) (a.put (some 76) v) w → Q (.panic c) a w) (hy : YieldsIf Try.prog opsM14 S qM14_10 v a) (hS : S w)
    (h : wpAnyH Try.prog .any opsM14 Q S 4 (LM14 11) (a.put (some 76) v) w) : wpAnyH Try.prog .any opsM14 Q S 5 (LM14 10) a w :=
  wpAnyH_take (i := 10) hM14_10 noselM14 (by kernel_rfl) (by kernel_rfl) hQ hy hS (lM14_10.symm ▸ h)
def qM14_11 : Oper := { dst := some 77, op := Op.indexAddr 38 (Operand.tmp 75) (Operand.tmp 76), type := 0, pos := "l03_frontiers.go:19", after := #[{ on := 9, ground := Ground.data }, { on := 10, ground := Ground.data }, { on := 4, ground := Ground.guard }], guard := some (4, true) }
theorem hM14_11 : opsM14[11]? = some qM14_11 := by kernel_rfl
theorem lM14_11 : (LM14 11).setIfInBounds 11 true = LM14 12 := by kernel_rfl
theorem tM14_11 {Q : Exit → Act → World → Prop} {S : World → Prop} {a : Act} {w : World} (v : Value) (hQ : ∀ c a w, Q (.panic c) (a.put (some 77) v) w → Q (.panic c) a w) (hy : YieldsIf Try.prog opsM14 S qM14_11 v a) (hS : S w)
    (h : wpAnyH Try.prog .any opsM14 Q S 3 (LM14 12) (a.put (some 77) v) w) : wpAnyH Try.prog .any opsM14 Q S 4 (LM14 11) a w :=
  wpAnyH_take (i := 11) hM14_11 noselM14 (by kernel_rfl) (by kernel_rfl) hQ hy hS (lM14_11.symm ▸ h)
def qM14_12 : Oper := { dst := some 78, op := Op.load 26 (Operand.tmp 77), type := 26, pos := "l03_frontiers.go:19", after := #[{ on := 11, ground := Ground.data }, { on := 4, ground := Ground.guard }], guard := some (4, true) }
theorem hM14_12 : opsM14[12]? = some qM14_12 := by kernel_rfl
theorem lM14_12 : (LM14 12).setIfInBounds 12 true = LM14 13 := by kernel_rfl
theorem tM14_12 {Q : Exit → Act → World → Prop} {S : World → Prop} {a : Act} {w : World} (v : Value) (hQ : ∀ c a w, Q (.panic c) (a.put (some 78) v) w → Q (.panic c) a w) (hy : YieldsIf Try.prog opsM14 S qM14_12 v a) (hS : S w)
    (h : wpAnyH Try.prog .any opsM14 Q S 2 (LM14 13) (a.put (some 78) v) w) : wpAnyH Try.prog .any opsM14 Q S 3 (LM14 12) a w :=
  wpAnyH_take (i := 12) hM14_12 noselM14 (by kernel_rfl) (by kernel_rfl) hQ hy hS (lM14_12.symm ▸ h)
def qM14_13 : Oper := { dst := some 79, op := Op.binOp BinOp.eql 26 (Operand.tmp 74) (Operand.tmp 78) 26, type := 4, pos := "l03_frontiers.go:19", after := #[{ on := 8, ground := Ground.data }, { on := 12, ground := Ground.data }, { on := 4, ground := Ground.guard }], guard := some (4, true) }
theorem hM14_13 : opsM14[13]? = some qM14_13 := by kernel_rfl
theorem lM14_13 : (LM14 13).setIfInBounds 13 true = LM14 14 := by kernel_rfl
theorem tM14_13 {Q : Exit → Act → World → Prop} {S : World → Prop} {a : Act} {w : World} (v : Value) (hQ : ∀ c a w, Q (.panic c) (a.put (some 79) v) w → Q (.panic c) a w) (hy : YieldsIf Try.prog opsM14 S qM14_13 v a) (hS : S w)
    (h : wpAnyH Try.prog .any opsM14 Q S 1 (LM14 14) (a.put (some 79) v) w) : wpAnyH Try.prog .any opsM14 Q S 2 (LM14 13) a w :=
  wpAnyH_take (i := 13) hM14_13 noselM14 (by kernel_rfl) (by kernel_rfl) hQ hy hS (lM14_13.symm ▸ h)
def qM14_14 : Oper := { dst := some 80, op := Op.pick (Operand.tmp 70) (Operand.tmp 79) (Operand.const (Value.bool false)), type := 4, pos := "l03_frontiers.go:19", after := #[{ on := 4, ground := Ground.data }, { on := 13, ground := Ground.data }], guard := none }
theorem hM14_14 : opsM14[14]? = some qM14_14 := by kernel_rfl
theorem lM14_14 : (LM14 14).setIfInBounds 14 true = LM14 15 := by kernel_rfl
theorem tM14_14 {Q : Exit → Act → World → Prop} {S : World → Prop} {a : Act} {w : World} (v : Value) (hQ : ∀ c a w, Q (.panic c) (a.put (some 80) v) w → Q (.panic c) a w) (hy : YieldsIf Try.prog opsM14 S qM14_14 v a) (hS : S w)
    (h : wpAnyH Try.prog .any opsM14 Q S 0 (LM14 15) (a.put (some 80) v) w) : wpAnyH Try.prog .any opsM14 Q S 1 (LM14 14) a w :=
  wpAnyH_take (i := 14) hM14_14 noselM14 (by kernel_rfl) (by kernel_rfl) hQ hy hS (lM14_14.symm ▸ h)
end Go.Proofs.Ytiehpniogehkmaa.hexes
