/-
  A statement of spec.Minimal: its operations, and a theorem a step.
-/
import Derived.Test.YtiehpniogehkmaaProg
import Derived.WalkKit
import Derived.Deep.RegionHeld3
namespace Go.Proofs.Ytiehpniogehkmaa.hexes
open Go.RowKit

def findM9 (n : Nat) : Code → Option Code
  | .region id ops d => if id = n then some (.region id ops d) else none
  | .seq a b => match findM9 n a with
    | some c => some c
    | none => findM9 n b
  | .block _ c => findM9 n c
  | .scope c => findM9 n c
  | .loop c => findM9 n c
  | .cond _ a b => match findM9 n a with
    | some c => some c
    | none => findM9 n b
  | _ => none
def opsOfM9 : Option Code → Array Oper
  | some (.region _ ops _) => ops
  | _ => #[]
noncomputable def opsM9 : Array Oper := opsOfM9 (Try.f57.body.bind (findM9 9))
def schM9 : List Nat := [0, 1, 2, 3, 4, 5, 6, 7, 8, 9, 10, 11, 12, 13, 14, 15, 16, 17, 18, 19, 20, 21, 22, 23, 24]
def LM9 (k : Nat) : Array Bool := ((List.range 25).map fun i => (schM9.take k).contains i).toArray
theorem noselM9 : Region.noSelect opsM9 = true := by kernel_rfl
def qM9_0 : Oper := { dst := some 22, op := Op.move (Operand.tmp 5), type := 4, pos := "l03_frontiers.go:10", after := #[], guard := none }
theorem hM9_0 : opsM9[0]? = some qM9_0 := by kernel_rfl
theorem lM9_0 : (LM9 0).setIfInBounds 0 true = LM9 1 := by kernel_rfl
theorem tM9_0 {Q : Exit → Act → World → Prop} {S : World → Prop} {a : Act} {w : World} (v : Value) (hQ : ∀ c a w, Q (.panic c) (a.put (some 22) v) w → Q (.panic c) a w) (hy : YieldsIf Try.prog opsM9 S qM9_0 v a) (hS : S w)
    (h : wpAnyH Try.prog .any opsM9 Q S 24 (LM9 1) (a.put (some 22) v) w) : wpAnyH Try.prog .any opsM9 Q S 25 (LM9 0) a w :=
  wpAnyH_take (i := 0) hM9_0 noselM9 (by kernel_rfl) (by kernel_rfl) hQ hy hS (lM9_0.symm ▸ h)
def qM9_1 : Oper := { dst := some 23, op := Op.move (Operand.tmp 22), type := 4, pos := "l03_frontiers.go:10", after := #[{ on := 0, ground := Ground.data }], guard := none }
theorem hM9_1 : opsM9[1]? = some qM9_1 := by kernel_rfl
theorem lM9_1 : (LM9 1).setIfInBounds 1 true = LM9 2 := by kernel_rfl
theorem tM9_1 {Q : Exit → Act → World → Prop} {S : World → Prop} {a : Act} {w : World} (v : Value) (hQ : ∀ c a w, Q (.panic c) (a.put (some 23) v) w → Q (.panic c) a w) (hy : YieldsIf Try.prog opsM9 S qM9_1 v a) (hS : S w)
    (h : wpAnyH Try.prog .any opsM9 Q S 23 (LM9 2) (a.put (some 23) v) w) : wpAnyH Try.prog .any opsM9 Q S 24 (LM9 1) a w :=
  wpAnyH_take (i := 1) hM9_1 noselM9 (by kernel_rfl) (by kernel_rfl) hQ hy hS (lM9_1.symm ▸ h)
def qM9_2 : Oper := { dst := some 24, op := Op.move (Operand.tmp 0), type := 38, pos := "l03_frontiers.go:10", after := #[{ on := 1, ground := Ground.guard }], guard := some (1, true) }
theorem hM9_2 : opsM9[2]? = some qM9_2 := by kernel_rfl
theorem lM9_2 : (LM9 2).setIfInBounds 2 true = LM9 3 := by kernel_rfl
theorem tM9_2 {Q : Exit → Act → World → Prop} {S : World → Prop} {a : Act} {w : World} (v : Value) (hQ : ∀ c a w, Q (.panic c) (a.put (some 24) v) w → Q (.panic c) a w) (hy : YieldsIf Try.prog opsM9 S qM9_2 v a) (hS : S w)
    (h : wpAnyH Try.prog .any opsM9 Q S 22 (LM9 3) (a.put (some 24) v) w) : wpAnyH Try.prog .any opsM9 Q S 23 (LM9 2) a w :=
  wpAnyH_take (i := 2) hM9_2 noselM9 (by kernel_rfl) (by kernel_rfl) hQ hy hS (lM9_2.symm ▸ h)
def qM9_3 : Oper := { dst := some 25, op := Op.move (Operand.tmp 6), type := 3, pos := "l03_frontiers.go:10", after := #[{ on := 1, ground := Ground.guard }], guard := some (1, true) }
theorem hM9_3 : opsM9[3]? = some qM9_3 := by kernel_rfl
theorem lM9_3 : (LM9 3).setIfInBounds 3 true = LM9 4 := by kernel_rfl
theorem tM9_3 {Q : Exit → Act → World → Prop} {S : World → Prop} {a : Act} {w : World} (v : Value) (hQ : ∀ c a w, Q (.panic c) (a.put (some 25) v) w → Q (.panic c) a w) (hy : YieldsIf Try.prog opsM9 S qM9_3 v a) (hS : S w)
    (h : wpAnyH Try.prog .any opsM9 Q S 21 (LM9 4) (a.put (some 25) v) w) : wpAnyH Try.prog .any opsM9 Q S 22 (LM9 3) a w :=
  wpAnyH_take (i := 3) hM9_3 noselM9 (by kernel_rfl) (by kernel_rfl) hQ hy hS (lM9_3.symm ▸ h)
def qM9_4 : Oper := { dst := some 26, op := Op.indexAddr 38 (Operand.tmp 24) (Operand.tmp 25), type := 0, pos := "l03_frontiers.go:10", after := #[{ on := 2, ground := Ground.data }, { on := 3, ground := Ground.data }, { on := 1, ground := Ground.guard }], guard := some (1, true) }
theorem hM9_4 : opsM9[4]? = some qM9_4 := by kernel_rfl
theorem lM9_4 : (LM9 4).setIfInBounds 4 true = LM9 5 := by kernel_rfl
theorem tM9_4 {Q : Exit → Act → World → Prop} {S : World → Prop} {a : Act} {w : World} (v : Value) (hQ : ∀ c a w, Q (.panic c) (a.put (some 26) v) w → Q (.panic c) a w) (hy : YieldsIf Try.prog opsM9 S qM9_4 v a) (hS : S w)
    (h : wpAnyH Try.prog .any opsM9 Q S 20 (LM9 5) (a.put (some 26) v) w) : wpAnyH Try.prog .any opsM9 Q S 21 (LM9 4) a w :=
  wpAnyH_take (i := 4) hM9_4 noselM9 (by kernel_rfl) (by kernel_rfl) hQ hy hS (lM9_4.symm ▸ h)
def qM9_5 : Oper := { dst := some 27, op := Op.load 26 (Operand.tmp 26), type := 26, pos := "l03_frontiers.go:10", after := #[{ on := 4, ground := Ground.data }, { on := 1, ground := Ground.guard }], guard := some (1, true) }
theorem hM9_5 : opsM9[5]? = some qM9_5 := by kernel_rfl
theorem lM9_5 : (LM9 5).setIfInBounds 5 true = LM9 6 := by kernel_rfl
theorem tM9_5 {Q : Exit → Act → World → Prop} {S : World → Prop} {a : Act} {w : World} (v : Value) (hQ : ∀ c a w, Q (.panic c) (a.put (some 27) v) w → Q (.panic c) a w) (hy : YieldsIf Try.prog opsM9 S qM9_5 v a) (hS : S w)
    (h : wpAnyH Try.prog .any opsM9 Q S 19 (LM9 6) (a.put (some 27) v) w) : wpAnyH Try.prog .any opsM9 Q S 20 (LM9 5) a w :=
  wpAnyH_take (i := 5) hM9_5 noselM9 (by kernel_rfl) (by kernel_rfl) hQ hy hS (lM9_5.symm ▸ h)
def qM9_6 : Oper := { dst := some 28, op := Op.move (Operand.tmp 0), type := 38, pos := "l03_frontiers.go:10", after := #[{ on := 1, ground := Ground.guard }], guard := some (1, true) }
theorem hM9_6 : opsM9[6]? = some qM9_6 := by kernel_rfl
theorem lM9_6 : (LM9 6).setIfInBounds 6 true = LM9 7 := by kernel_rfl
theorem tM9_6 {Q : Exit → Act → World → Prop} {S : World → Prop} {a : Act} {w : World} (v : Value) (hQ : ∀ c a w, Q (.panic c) (a.put (some 28) v) w → Q (.panic c) a w) (hy : YieldsIf Try.prog opsM9 S qM9_6 v a) (hS : S w)
    (h : wpAnyH Try.prog .any opsM9 Q S 18 (LM9 7) (a.put (some 28) v) w) : wpAnyH Try.prog .any opsM9 Q S 19 (LM9 6) a w :=
  wpAnyH_take (i := 6) hM9_6 noselM9 (by kernel_rfl) (by kernel_rfl) hQ hy hS (lM9_6.symm ▸ h)
def qM9_7 : Oper := { dst := some 29, op := Op.move (Operand.tmp 4), type := 3, pos := "l03_frontiers.go:10", after := #[{ on := 1, ground := Ground.guard }], guard := some (1, true) }
theorem hM9_7 : opsM9[7]? = some qM9_7 := by kernel_rfl
theorem lM9_7 : (LM9 7).setIfInBounds 7 true = LM9 8 := by kernel_rfl
theorem tM9_7 {Q : Exit → Act → World → Prop} {S : World → Prop} {a : Act} {w : World} (v : Value) (hQ : ∀ c a w, Q (.panic c) (a.put (some 29) v) w → Q (.panic c) a w) (hy : YieldsIf Try.prog opsM9 S qM9_7 v a) (hS : S w)
    (h : wpAnyH Try.prog .any opsM9 Q S 17 (LM9 8) (a.put (some 29) v) w) : wpAnyH Try.prog .any opsM9 Q S 18 (LM9 7) a w :=
  wpAnyH_take (i := 7) hM9_7 noselM9 (by kernel_rfl) (by kernel_rfl) hQ hy hS (lM9_7.symm ▸ h)
def qM9_8 : Oper := { dst := some 30, op := Op.indexAddr 38 (Operand.tmp 28) (Operand.tmp 29), type := 0, pos := "l03_frontiers.go:10", after := #[{ on := 6, ground := Ground.data }, { on := 7, ground := Ground.data }, { on := 1, ground := Ground.guard }], guard := some (1, true) }
theorem hM9_8 : opsM9[8]? = some qM9_8 := by kernel_rfl
theorem lM9_8 : (LM9 8).setIfInBounds 8 true = LM9 9 := by kernel_rfl
theorem tM9_8 {Q : Exit → Act → World → Prop} {S : World → Prop} {a : Act} {w : World} (v : Value) (hQ : ∀ c a w, Q (.panic c) (a.put (some 30) v) w → Q (.panic c) a w) (hy : YieldsIf Try.prog opsM9 S qM9_8 v a) (hS : S w)
    (h : wpAnyH Try.prog .any opsM9 Q S 16 (LM9 9) (a.put (some 30) v) w) : wpAnyH Try.prog .any opsM9 Q S 17 (LM9 8) a w :=
  wpAnyH_take (i := 8) hM9_8 noselM9 (by kernel_rfl) (by kernel_rfl) hQ hy hS (lM9_8.symm ▸ h)
def qM9_9 : Oper := { dst := some 31, op := Op.load 26 (Operand.tmp 30), type := 26, pos := "l03_frontiers.go:10", after := #[{ on := 8, ground := Ground.data }, { on := 1, ground := Ground.guard }], guard := some (1, true) }
theorem hM9_9 : opsM9[9]? = some qM9_9 := by kernel_rfl
theorem lM9_9 : (LM9 9).setIfInBounds 9 true = LM9 10 := by kernel_rfl
theorem tM9_9 {Q : Exit → Act → World → Prop} {S : World → Prop} {a : Act} {w : World} (v : Value) (hQ : ∀ c a w, Q (.panic c) (a.put (some 31) v) w → Q (.panic c) a w) (hy : YieldsIf Try.prog opsM9 S qM9_9 v a) (hS : S w)
    (h : wpAnyH Try.prog .any opsM9 Q S 15 (LM9 10) (a.put (some 31) v) w) : wpAnyH Try.prog .any opsM9 Q S 16 (LM9 9) a w :=
  wpAnyH_take (i := 9) hM9_9 noselM9 (by kernel_rfl) (by kernel_rfl) hQ hy hS (lM9_9.symm ▸ h)
def qM9_10 : Oper := { dst := some 32, op := Op.binOp BinOp.eql 26 (Operand.tmp 27) (Operand.tmp 31) 26, type := 4, pos := "l03_frontiers.go:10", after := #[{ on := 5, ground := Ground.data }, { on := 9, ground := Ground.data }, { on := 1, ground := Ground.guard }], guard := some (1, true) }
theorem hM9_10 : opsM9[10]? = some qM9_10 := by kernel_rfl
theorem lM9_10 : (LM9 10).setIfInBounds 10 true = LM9 11 := by kernel_rfl
theorem tM9_10 {Q : Exit → Act → World → Prop} {S : World → Prop} {a : Act} {w : World} (v : Value) (hQ : ∀ c a w, Q (.panic c) (a.put (some 32) v) w → Q (.panic c) a w) (hy : YieldsIf Try.prog opsM9 S qM9_10 v a) (hS : S w)
    (h : wpAnyH Try.prog .any opsM9 Q S 14 (LM9 11) (a.put (some 32) v) w) : wpAnyH Try.prog .any opsM9 Q S 15 (LM9 10) a w :=
  wpAnyH_take (i := 10) hM9_10 noselM9 (by kernel_rfl) (by kernel_rfl) hQ hy hS (lM9_10.symm ▸ h)
def qM9_11 : Oper := { dst := some 33, op := Op.move (Operand.tmp 32), type := 4, pos := "l03_frontiers.go:10", after := #[{ on := 10, ground := Ground.data }, { on := 1, ground := Ground.chain }, { on := 1, ground := Ground.guard }], guard := some (1, true) }
theorem hM9_11 : opsM9[11]? = some qM9_11 := by kernel_rfl
theorem lM9_11 : (LM9 11).setIfInBounds 11 true = LM9 12 := by kernel_rfl
theorem tM9_11 {Q : Exit → Act → World → Prop} {S : World → Prop} {a : Act} {w : World} (v : Value) (hQ : ∀ c a w, Q (.panic c) (a.put (some 33) v) w → Q (.panic c) a w) (hy : YieldsIf Try.prog opsM9 S qM9_11 v a) (hS : S w)
    (h : wpAnyH Try.prog .any opsM9 Q S 13 (LM9 12) (a.put (some 33) v) w) : wpAnyH Try.prog .any opsM9 Q S 14 (LM9 11) a w :=
  wpAnyH_take (i := 11) hM9_11 noselM9 (by kernel_rfl) (by kernel_rfl) hQ hy hS (lM9_11.symm ▸ h)
def qM9_12 : Oper := { dst := some 34, op := Op.move (Operand.tmp 0), type := 38, pos := "l03_frontiers.go:10", after := #[{ on := 11, ground := Ground.guard }], guard := some (11, false) }
theorem hM9_12 : opsM9[12]? = some qM9_12 := by kernel_rfl
theorem lM9_12 : (LM9 12).setIfInBounds 12 true = LM9 13 := by kernel_rfl
theorem tM9_12 {Q : Exit → Act → World → Prop} {S : World → Prop} {a : Act} {w : World} (v : Value) (hQ : ∀ c a w, Q (.panic c) (a.put (some 34) v) w → Q (.panic c) a w) (hy : YieldsIf Try.prog opsM9 S qM9_12 v a) (hS : S w)
    (h : wpAnyH Try.prog .any opsM9 Q S 12 (LM9 13) (a.put (some 34) v) w) : wpAnyH Try.prog .any opsM9 Q S 13 (LM9 12) a w :=
  wpAnyH_take (i := 12) hM9_12 noselM9 (by kernel_rfl) (by kernel_rfl) hQ hy hS (lM9_12.symm ▸ h)
def qM9_13 : Oper := { dst := some 35, op := Op.move (Operand.tmp 6), type := 3, pos := "l03_frontiers.go:10", after := #[{ on := 11, ground := Ground.guard }], guard := some (11, false) }
theorem hM9_13 : opsM9[13]? = some qM9_13 := by kernel_rfl
theorem lM9_13 : (LM9 13).setIfInBounds 13 true = LM9 14 := by kernel_rfl
theorem tM9_13 {Q : Exit → Act → World → Prop} {S : World → Prop} {a : Act} {w : World} (v : Value) (hQ : ∀ c a w, Q (.panic c) (a.put (some 35) v) w → Q (.panic c) a w) (hy : YieldsIf Try.prog opsM9 S qM9_13 v a) (hS : S w)
    (h : wpAnyH Try.prog .any opsM9 Q S 11 (LM9 14) (a.put (some 35) v) w) : wpAnyH Try.prog .any opsM9 Q S 12 (LM9 13) a w :=
  wpAnyH_take (i := 13) hM9_13 noselM9 (by kernel_rfl) (by kernel_rfl) hQ hy hS (lM9_13.symm ▸ h)
def qM9_14 : Oper := { dst := some 36, op := Op.indexAddr 38 (Operand.tmp 34) (Operand.tmp 35), type := 0, pos := "l03_frontiers.go:10", after := #[{ on := 12, ground := Ground.data }, { on := 13, ground := Ground.data }, { on := 11, ground := Ground.guard }], guard := some (11, false) }
theorem hM9_14 : opsM9[14]? = some qM9_14 := by kernel_rfl
theorem lM9_14 : (LM9 14).setIfInBounds 14 true = LM9 15 := by kernel_rfl
theorem tM9_14 {Q : Exit → Act → World → Prop} {S : World → Prop} {a : Act} {w : World} (v : Value) (hQ : ∀ c a w, Q (.panic c) (a.put (some 36) v) w → Q (.panic c) a w) (hy : YieldsIf Try.prog opsM9 S qM9_14 v a) (hS : S w)
    (h : wpAnyH Try.prog .any opsM9 Q S 10 (LM9 15) (a.put (some 36) v) w) : wpAnyH Try.prog .any opsM9 Q S 11 (LM9 14) a w :=
  wpAnyH_take (i := 14) hM9_14 noselM9 (by kernel_rfl) (by kernel_rfl) hQ hy hS (lM9_14.symm ▸ h)
def qM9_15 : Oper := { dst := some 37, op := Op.load 26 (Operand.tmp 36), type := 26, pos := "l03_frontiers.go:10", after := #[{ on := 14, ground := Ground.data }, { on := 11, ground := Ground.guard }], guard := some (11, false) }
theorem hM9_15 : opsM9[15]? = some qM9_15 := by kernel_rfl
theorem lM9_15 : (LM9 15).setIfInBounds 15 true = LM9 16 := by kernel_rfl
theorem tM9_15 {Q : Exit → Act → World → Prop} {S : World → Prop} {a : Act} {w : World} (v : Value) (hQ : ∀ c a w, Q (.panic c) (a.put (some 37) v) w → Q (.panic c) a w) (hy : YieldsIf Try.prog opsM9 S qM9_15 v a) (hS : S w)
    (h : wpAnyH Try.prog .any opsM9 Q S 9 (LM9 16) (a.put (some 37) v) w) : wpAnyH Try.prog .any opsM9 Q S 10 (LM9 15) a w :=
  wpAnyH_take (i := 15) hM9_15 noselM9 (by kernel_rfl) (by kernel_rfl) hQ hy hS (lM9_15.symm ▸ h)
def qM9_16 : Oper := { dst := some 38, op := Op.move (Operand.tmp 0), type := 38, pos := "l03_frontiers.go:10", after := #[{ on := 11, ground := Ground.guard }], guard := some (11, false) }
theorem hM9_16 : opsM9[16]? = some qM9_16 := by kernel_rfl
theorem lM9_16 : (LM9 16).setIfInBounds 16 true = LM9 17 := by kernel_rfl
theorem tM9_16 {Q : Exit → Act → World → Prop} {S : World → Prop} {a : Act} {w : World} (v : Value) (hQ : ∀ c a w, Q (.panic c) (a.put (some 38) v) w → Q (.panic c) a w) (hy : YieldsIf Try.prog opsM9 S qM9_16 v a) (hS : S w)
    (h : wpAnyH Try.prog .any opsM9 Q S 8 (LM9 17) (a.put (some 38) v) w) : wpAnyH Try.prog .any opsM9 Q S 9 (LM9 16) a w :=
  wpAnyH_take (i := 16) hM9_16 noselM9 (by kernel_rfl) (by kernel_rfl) hQ hy hS (lM9_16.symm ▸ h)
def qM9_17 : Oper := { dst := some 39, op := Op.move (Operand.tmp 4), type := 3, pos := "l03_frontiers.go:10", after := #[{ on := 11, ground := Ground.guard }], guard := some (11, false) }
theorem hM9_17 : opsM9[17]? = some qM9_17 := by kernel_rfl
theorem lM9_17 : (LM9 17).setIfInBounds 17 true = LM9 18 := by kernel_rfl
theorem tM9_17 {Q : Exit → Act → World → Prop} {S : World → Prop} {a : Act} {w : World} (v : Value) (hQ : ∀ c a w, Q (.panic c) (a.put (some 39) v) w → Q (.panic c) a w) (hy : YieldsIf Try.prog opsM9 S qM9_17 v a) (hS : S w)
    (h : wpAnyH Try.prog .any opsM9 Q S 7 (LM9 18) (a.put (some 39) v) w) : wpAnyH Try.prog .any opsM9 Q S 8 (LM9 17) a w :=
  wpAnyH_take (i := 17) hM9_17 noselM9 (by kernel_rfl) (by kernel_rfl) hQ hy hS (lM9_17.symm ▸ h)
def qM9_18 : Oper := { dst := some 40, op := Op.indexAddr 38 (Operand.tmp 38) (Operand.tmp 39), type := 0, pos := "l03_frontiers.go:10", after := #[{ on := 16, ground := Ground.data }, { on := 17, ground := Ground.data }, { on := 11, ground := Ground.guard }], guard := some (11, false) }
theorem hM9_18 : opsM9[18]? = some qM9_18 := by kernel_rfl
theorem lM9_18 : (LM9 18).setIfInBounds 18 true = LM9 19 := by kernel_rfl
theorem tM9_18 {Q : Exit → Act → World → Prop} {S : World → Prop} {a : Act} {w : World} (v : Value) (hQ : ∀ c a w, Q (.panic c) (a.put (some 40) v) w → Q (.panic c) a w) (hy : YieldsIf Try.prog opsM9 S qM9_18 v a) (hS : S w)
    (h : wpAnyH Try.prog .any opsM9 Q S 6 (LM9 19) (a.put (some 40) v) w) : wpAnyH Try.prog .any opsM9 Q S 7 (LM9 18) a w :=
  wpAnyH_take (i := 18) hM9_18 noselM9 (by kernel_rfl) (by kernel_rfl) hQ hy hS (lM9_18.symm ▸ h)
def qM9_19 : Oper := { dst := some 41, op := Op.load 26 (Operand.tmp 40), type := 26, pos := "l03_frontiers.go:10", after := #[{ on := 18, ground := Ground.data }, { on := 11, ground := Ground.guard }], guard := some (11, false) }
theorem hM9_19 : opsM9[19]? = some qM9_19 := by kernel_rfl
theorem lM9_19 : (LM9 19).setIfInBounds 19 true = LM9 20 := by kernel_rfl
theorem tM9_19 {Q : Exit → Act → World → Prop} {S : World → Prop} {a : Act} {w : World} (v : Value) (hQ : ∀ c a w, Q (.panic c) (a.put (some 41) v) w → Q (.panic c) a w) (hy : YieldsIf Try.prog opsM9 S qM9_19 v a) (hS : S w)
    (h : wpAnyH Try.prog .any opsM9 Q S 5 (LM9 20) (a.put (some 41) v) w) : wpAnyH Try.prog .any opsM9 Q S 6 (LM9 19) a w :=
  wpAnyH_take (i := 19) hM9_19 noselM9 (by kernel_rfl) (by kernel_rfl) hQ hy hS (lM9_19.symm ▸ h)
def qM9_20 : Oper := { dst := some 42, op := Op.call { callee := Callee.value (Operand.func 68), args := #[Operand.tmp 37, Operand.tmp 41], argTypes := #[26, 26] }, type := 4, pos := "l03_frontiers.go:10", after := #[{ on := 15, ground := Ground.data }, { on := 19, ground := Ground.data }, { on := 11, ground := Ground.chain }, { on := 11, ground := Ground.guard }], guard := some (11, false) }
theorem hM9_20 : opsM9[20]? = some qM9_20 := by kernel_rfl
theorem lM9_20 : (LM9 20).setIfInBounds 20 true = LM9 21 := by kernel_rfl
theorem cM9_20 {Q : Exit → Act → World → Prop} {S : World → Prop} {a : Act} {w : World}
    (h : ∀ K' : Act → World → Prop, Shut (∀ a w, S w → (S w → wpAnyH Try.prog .any opsM9 Q S 4 (LM9 21) a w) → K' a w) → if Region.wanted qM9_20 (yielded opsM9 a.tmps) = true then Oper.wp Try.prog qM9_20 a w K' Q else K' (a.put (some 42) undef) w) :
    wpAnyH Try.prog .any opsM9 Q S 5 (LM9 20) a w :=
  wpAnyH_ready (rs := [20]) (by kernel_rfl) (by simp) (AllReadyH.cons hM9_20 (fun K' hK => h K' (lM9_20 ▸ hK)) AllReadyH.nil)
theorem tM9_20 {Q : Exit → Act → World → Prop} {S : World → Prop} {a : Act} {w : World} (v : Value) (hQ : ∀ c a w, Q (.panic c) (a.put (some 42) v) w → Q (.panic c) a w) (hy : YieldsIf Try.prog opsM9 S qM9_20 v a) (hS : S w)
    (h : wpAnyH Try.prog .any opsM9 Q S 4 (LM9 21) (a.put (some 42) v) w) : wpAnyH Try.prog .any opsM9 Q S 5 (LM9 20) a w :=
  wpAnyH_take (i := 20) hM9_20 noselM9 (by kernel_rfl) (by kernel_rfl) hQ hy hS (lM9_20.symm ▸ h)
def qM9_21 : Oper := { dst := some 43, op := Op.unOp UnOp.not 4 (Operand.tmp 42), type := 4, pos := "l03_frontiers.go:10", after := #[{ on := 20, ground := Ground.data }, { on := 11, ground := Ground.guard }], guard := some (11, false) }
theorem hM9_21 : opsM9[21]? = some qM9_21 := by kernel_rfl
theorem lM9_21 : (LM9 21).setIfInBounds 21 true = LM9 22 := by kernel_rfl
theorem tM9_21 {Q : Exit → Act → World → Prop} {S : World → Prop} {a : Act} {w : World} (v : Value) (hQ : ∀ c a w, Q (.panic c) (a.put (some 43) v) w → Q (.panic c) a w) (hy : YieldsIf Try.prog opsM9 S qM9_21 v a) (hS : S w)
    (h : wpAnyH Try.prog .any opsM9 Q S 3 (LM9 22) (a.put (some 43) v) w) : wpAnyH Try.prog .any opsM9 Q S 4 (LM9 21) a w :=
  wpAnyH_take (i := 21) hM9_21 noselM9 (by kernel_rfl) (by kernel_rfl) hQ hy hS (lM9_21.symm ▸ h)
def qM9_22 : Oper := { dst := some 44, op := Op.pick (Operand.tmp 33) (Operand.const (Value.bool true)) (Operand.tmp 43), type := 4, pos := "l03_frontiers.go:10", after := #[{ on := 11, ground := Ground.data }, { on := 21, ground := Ground.data }, { on := 1, ground := Ground.guard }], guard := some (1, true) }
theorem hM9_22 : opsM9[22]? = some qM9_22 := by kernel_rfl
theorem lM9_22 : (LM9 22).setIfInBounds 22 true = LM9 23 := by kernel_rfl
theorem tM9_22 {Q : Exit → Act → World → Prop} {S : World → Prop} {a : Act} {w : World} (v : Value) (hQ : ∀ c a w, Q (.panic c) (a.put (some 44) v) w → Q (.panic c) a w) (hy : YieldsIf Try.prog opsM9 S qM9_22 v a) (hS : S w)
    (h : wpAnyH Try.prog .any opsM9 Q S 2 (LM9 23) (a.put (some 44) v) w) : wpAnyH Try.prog .any opsM9 Q S 3 (LM9 22) a w :=
  wpAnyH_take (i := 22) hM9_22 noselM9 (by kernel_rfl) (by kernel_rfl) hQ hy hS (lM9_22.symm ▸ h)
def qM9_23 : Oper := { dst := some 45, op := Op.pick (Operand.tmp 23) (Operand.tmp 44) (Operand.const (Value.bool false)), type := 4, pos := "l03_frontiers.go:10", after := #[{ on := 1, ground := Ground.data }, { on := 22, ground := Ground.data }], guard := none }
theorem hM9_23 : opsM9[23]? = some qM9_23 := by kernel_rfl
theorem lM9_23 : (LM9 23).setIfInBounds 23 true = LM9 24 := by kernel_rfl
theorem tM9_23 {Q : Exit → Act → World → Prop} {S : World → Prop} {a : Act} {w : World} (v : Value) (hQ : ∀ c a w, Q (.panic c) (a.put (some 45) v) w → Q (.panic c) a w) (hy : YieldsIf Try.prog opsM9 S qM9_23 v a) (hS : S w)
    (h : wpAnyH Try.prog .any opsM9 Q S 1 (LM9 24) (a.put (some 45) v) w) : wpAnyH Try.prog .any opsM9 Q S 2 (LM9 23) a w :=
  wpAnyH_take (i := 23) hM9_23 noselM9 (by kernel_rfl) (by kernel_rfl) hQ hy hS (lM9_23.symm ▸ h)
def qM9_24 : Oper := { dst := some 5, op := Op.assign (Operand.tmp 45), type := 4, pos := "l03_frontiers.go:10", after := #[{ on := 23, ground := Ground.data }, { on := 20, ground := Ground.chain }, { on := 0, ground := Ground.phase }, { on := 1, ground := Ground.phase }, { on := 2, ground := Ground.phase }, { on := 3, ground := Ground.phase }, { on := 4, ground := Ground.phase }, { on := 5, ground := Ground.phase }, { on := 6, ground := Ground.phase }, { on := 7, ground := Ground.phase }, { on := 8, ground := Ground.phase }, { on := 9, ground := Ground.phase }, { on := 10, ground := Ground.phase }, { on := 11, ground := Ground.phase }, { on := 12, ground := Ground.phase }, { on := 13, ground := Ground.phase }, { on := 14, ground := Ground.phase }, { on := 15, ground := Ground.phase }, { on := 16, ground := Ground.phase }, { on := 17, ground := Ground.phase }, { on := 18, ground := Ground.phase }, { on := 19, ground := Ground.phase }, { on := 20, ground := Ground.phase }, { on := 21, ground := Ground.phase }, { on := 22, ground := Ground.phase }, { on := 23, ground := Ground.phase }], guard := none }
theorem hM9_24 : opsM9[24]? = some qM9_24 := by kernel_rfl
theorem lM9_24 : (LM9 24).setIfInBounds 24 true = LM9 25 := by kernel_rfl
theorem tM9_24 {Q : Exit → Act → World → Prop} {S : World → Prop} {a : Act} {w : World} (v : Value) (hQ : ∀ c a w, Q (.panic c) (a.put (some 5) v) w → Q (.panic c) a w) (hy : YieldsIf Try.prog opsM9 S qM9_24 v a) (hS : S w)
    (h : wpAnyH Try.prog .any opsM9 Q S 0 (LM9 25) (a.put (some 5) v) w) : wpAnyH Try.prog .any opsM9 Q S 1 (LM9 24) a w :=
  wpAnyH_take (i := 24) hM9_24 noselM9 (by kernel_rfl) (by kernel_rfl) hQ hy hS (lM9_24.symm ▸ h)
end Go.Proofs.Ytiehpniogehkmaa.hexes
