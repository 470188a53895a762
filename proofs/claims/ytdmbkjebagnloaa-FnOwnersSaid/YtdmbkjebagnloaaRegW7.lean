/-
  A statement of laws.FnOwners: its operations, and a theorem a step.
-/
import Derived.Test.YtdmbkjebagnloaaProg
import Derived.WalkKit
import Derived.Deep.RegionHeld3
namespace Go.Proofs.Ytdmbkjebagnloaa.hexes
open Go.RowKit

def findW7 (n : Nat) : Code → Option Code
  | .region id ops d => if id = n then some (.region id ops d) else none
  | .seq a b => match findW7 n a with
    | some c => some c
    | none => findW7 n b
  | .block _ c => findW7 n c
  | .scope c => findW7 n c
  | .loop c => findW7 n c
  | .cond _ a b => match findW7 n a with
    | some c => some c
    | none => findW7 n b
  | _ => none
def opsOfW7 : Option Code → Array Oper
  | some (.region _ ops _) => ops
  | _ => #[]
noncomputable def opsW7 : Array Oper := opsOfW7 (Try.f3.body.bind (findW7 7))
def schW7 : List Nat := [0, 1, 2, 3, 4, 5, 6, 7, 8, 9, 10, 11, 12, 13, 14, 15, 16, 17, 18, 19, 20, 21, 22, 24, 25, 26, 27, 28, 23, 29, 30, 31, 32, 33, 34, 35]
def LW7 (k : Nat) : Array Bool := ((List.range 36).map fun i => (schW7.take k).contains i).toArray
theorem noselW7 : Region.noSelect opsW7 = true := by kernel_rfl
def qW7_0 : Oper := { dst := some 25, op := Op.move (Operand.tmp 5), type := 3, pos := "laws.go:315", after := #[], guard := none }
theorem hW7_0 : opsW7[0]? = some qW7_0 := by kernel_rfl
theorem lW7_0 : (LW7 0).setIfInBounds 0 true = LW7 1 := by kernel_rfl
theorem tW7_0 {Q : Exit → Act → World → Prop} {S : World → Prop} {a : Act} {w : World} (v : Value) (hQ : ∀ c a w, Q (.panic c) (a.put (some 25) v) w → Q (.panic c) a w) (hy : YieldsIf Try.prog opsW7 S qW7_0 v a) (hS : S w)
    (h : wpAnyH Try.prog .any opsW7 Q S 35 (LW7 1) (a.put (some 25) v) w) : wpAnyH Try.prog .any opsW7 Q S 36 (LW7 0) a w :=
  wpAnyH_take (i := 0) hW7_0 noselW7 (by kernel_rfl) (by kernel_rfl) hQ hy hS (lW7_0.symm ▸ h)
def qW7_1 : Oper := { dst := some 26, op := Op.move (Operand.tmp 3), type := 3, pos := "laws.go:315", after := #[], guard := none }
theorem hW7_1 : opsW7[1]? = some qW7_1 := by kernel_rfl
theorem lW7_1 : (LW7 1).setIfInBounds 1 true = LW7 2 := by kernel_rfl
theorem tW7_1 {Q : Exit → Act → World → Prop} {S : World → Prop} {a : Act} {w : World} (v : Value) (hQ : ∀ c a w, Q (.panic c) (a.put (some 26) v) w → Q (.panic c) a w) (hy : YieldsIf Try.prog opsW7 S qW7_1 v a) (hS : S w)
    (h : wpAnyH Try.prog .any opsW7 Q S 34 (LW7 2) (a.put (some 26) v) w) : wpAnyH Try.prog .any opsW7 Q S 35 (LW7 1) a w :=
  wpAnyH_take (i := 1) hW7_1 noselW7 (by kernel_rfl) (by kernel_rfl) hQ hy hS (lW7_1.symm ▸ h)
def qW7_2 : Oper := { dst := some 27, op := Op.move (Operand.tmp 4), type := 3, pos := "laws.go:315", after := #[], guard := none }
theorem hW7_2 : opsW7[2]? = some qW7_2 := by kernel_rfl
theorem lW7_2 : (LW7 2).setIfInBounds 2 true = LW7 3 := by kernel_rfl
theorem tW7_2 {Q : Exit → Act → World → Prop} {S : World → Prop} {a : Act} {w : World} (v : Value) (hQ : ∀ c a w, Q (.panic c) (a.put (some 27) v) w → Q (.panic c) a w) (hy : YieldsIf Try.prog opsW7 S qW7_2 v a) (hS : S w)
    (h : wpAnyH Try.prog .any opsW7 Q S 33 (LW7 3) (a.put (some 27) v) w) : wpAnyH Try.prog .any opsW7 Q S 34 (LW7 2) a w :=
  wpAnyH_take (i := 2) hW7_2 noselW7 (by kernel_rfl) (by kernel_rfl) hQ hy hS (lW7_2.symm ▸ h)
def qW7_3 : Oper := { dst := some 28, op := Op.call { callee := Callee.value (Operand.func 15), args := #[Operand.tmp 26, Operand.tmp 27], argTypes := #[3, 3] }, type := 3, pos := "laws.go:315", after := #[{ on := 1, ground := Ground.data }, { on := 2, ground := Ground.data }], guard := none }
theorem hW7_3 : opsW7[3]? = some qW7_3 := by kernel_rfl
theorem lW7_3 : (LW7 3).setIfInBounds 3 true = LW7 4 := by kernel_rfl
set_option maxRecDepth 100000 in
theorem cW7_3 {Q : Exit → Act → World → Prop} {S : World → Prop} {a : Act} {w : World}
    (h : ∀ K' : Act → World → Prop, Shut (∀ a w, S w → (S w → wpAnyH Try.prog .any opsW7 Q S 32 (LW7 4) a w) → K' a w) → if Region.wanted qW7_3 (yielded opsW7 a.tmps) = true then Oper.wp Try.prog qW7_3 a w K' Q else K' (a.put (some 28) undef) w) :
    wpAnyH Try.prog .any opsW7 Q S 33 (LW7 3) a w :=
  wpAnyH_ready (rs := [3]) (by kernel_rfl) (by simp) (AllReadyH.cons hW7_3 (fun K' hK => h K' (lW7_3 ▸ hK)) AllReadyH.nil)
theorem tW7_3 {Q : Exit → Act → World → Prop} {S : World → Prop} {a : Act} {w : World} (v : Value) (hQ : ∀ c a w, Q (.panic c) (a.put (some 28) v) w → Q (.panic c) a w) (hy : YieldsIf Try.prog opsW7 S qW7_3 v a) (hS : S w)
    (h : wpAnyH Try.prog .any opsW7 Q S 32 (LW7 4) (a.put (some 28) v) w) : wpAnyH Try.prog .any opsW7 Q S 33 (LW7 3) a w :=
  wpAnyH_take (i := 3) hW7_3 noselW7 (by kernel_rfl) (by kernel_rfl) hQ hy hS (lW7_3.symm ▸ h)
def qW7_4 : Oper := { dst := some 29, op := Op.binOp BinOp.eql 3 (Operand.tmp 25) (Operand.tmp 28) 3, type := 4, pos := "laws.go:315", after := #[{ on := 0, ground := Ground.data }, { on := 3, ground := Ground.data }], guard := none }
theorem hW7_4 : opsW7[4]? = some qW7_4 := by kernel_rfl
theorem lW7_4 : (LW7 4).setIfInBounds 4 true = LW7 5 := by kernel_rfl
theorem tW7_4 {Q : Exit → Act → World → Prop} {S : World → Prop} {a : Act} {w : World} (v : Value) (hQ : ∀ c a w, Q (.panic c) (a.put (some 29) v) w → Q (.panic c) a w) (hy : YieldsIf Try.prog opsW7 S qW7_4 v a) (hS : S w)
    (h : wpAnyH Try.prog .any opsW7 Q S 31 (LW7 5) (a.put (some 29) v) w) : wpAnyH Try.prog .any opsW7 Q S 32 (LW7 4) a w :=
  wpAnyH_take (i := 4) hW7_4 noselW7 (by kernel_rfl) (by kernel_rfl) hQ hy hS (lW7_4.symm ▸ h)
def qW7_5 : Oper := { dst := some 30, op := Op.move (Operand.tmp 29), type := 4, pos := "laws.go:315", after := #[{ on := 4, ground := Ground.data }, { on := 3, ground := Ground.chain }], guard := none }
theorem hW7_5 : opsW7[5]? = some qW7_5 := by kernel_rfl
theorem lW7_5 : (LW7 5).setIfInBounds 5 true = LW7 6 := by kernel_rfl
theorem tW7_5 {Q : Exit → Act → World → Prop} {S : World → Prop} {a : Act} {w : World} (v : Value) (hQ : ∀ c a w, Q (.panic c) (a.put (some 30) v) w → Q (.panic c) a w) (hy : YieldsIf Try.prog opsW7 S qW7_5 v a) (hS : S w)
    (h : wpAnyH Try.prog .any opsW7 Q S 30 (LW7 6) (a.put (some 30) v) w) : wpAnyH Try.prog .any opsW7 Q S 31 (LW7 5) a w :=
  wpAnyH_take (i := 5) hW7_5 noselW7 (by kernel_rfl) (by kernel_rfl) hQ hy hS (lW7_5.symm ▸ h)
def qW7_6 : Oper := { dst := some 31, op := Op.move (Operand.tmp 5), type := 3, pos := "laws.go:315", after := #[{ on := 5, ground := Ground.guard }], guard := some (5, true) }
theorem hW7_6 : opsW7[6]? = some qW7_6 := by kernel_rfl
theorem lW7_6 : (LW7 6).setIfInBounds 6 true = LW7 7 := by kernel_rfl
theorem tW7_6 {Q : Exit → Act → World → Prop} {S : World → Prop} {a : Act} {w : World} (v : Value) (hQ : ∀ c a w, Q (.panic c) (a.put (some 31) v) w → Q (.panic c) a w) (hy : YieldsIf Try.prog opsW7 S qW7_6 v a) (hS : S w)
    (h : wpAnyH Try.prog .any opsW7 Q S 29 (LW7 7) (a.put (some 31) v) w) : wpAnyH Try.prog .any opsW7 Q S 30 (LW7 6) a w :=
  wpAnyH_take (i := 6) hW7_6 noselW7 (by kernel_rfl) (by kernel_rfl) hQ hy hS (lW7_6.symm ▸ h)
def qW7_7 : Oper := { dst := some 32, op := Op.binOp BinOp.geq 3 (Operand.tmp 31) (Operand.const (Value.int IntKind.i64 0)) 3, type := 4, pos := "laws.go:315", after := #[{ on := 6, ground := Ground.data }, { on := 5, ground := Ground.guard }], guard := some (5, true) }
theorem hW7_7 : opsW7[7]? = some qW7_7 := by kernel_rfl
theorem lW7_7 : (LW7 7).setIfInBounds 7 true = LW7 8 := by kernel_rfl
theorem tW7_7 {Q : Exit → Act → World → Prop} {S : World → Prop} {a : Act} {w : World} (v : Value) (hQ : ∀ c a w, Q (.panic c) (a.put (some 32) v) w → Q (.panic c) a w) (hy : YieldsIf Try.prog opsW7 S qW7_7 v a) (hS : S w)
    (h : wpAnyH Try.prog .any opsW7 Q S 28 (LW7 8) (a.put (some 32) v) w) : wpAnyH Try.prog .any opsW7 Q S 29 (LW7 7) a w :=
  wpAnyH_take (i := 7) hW7_7 noselW7 (by kernel_rfl) (by kernel_rfl) hQ hy hS (lW7_7.symm ▸ h)
def qW7_8 : Oper := { dst := some 33, op := Op.pick (Operand.tmp 30) (Operand.tmp 32) (Operand.const (Value.bool false)), type := 4, pos := "laws.go:315", after := #[{ on := 5, ground := Ground.data }, { on := 7, ground := Ground.data }], guard := none }
theorem hW7_8 : opsW7[8]? = some qW7_8 := by kernel_rfl
theorem lW7_8 : (LW7 8).setIfInBounds 8 true = LW7 9 := by kernel_rfl
theorem tW7_8 {Q : Exit → Act → World → Prop} {S : World → Prop} {a : Act} {w : World} (v : Value) (hQ : ∀ c a w, Q (.panic c) (a.put (some 33) v) w → Q (.panic c) a w) (hy : YieldsIf Try.prog opsW7 S qW7_8 v a) (hS : S w)
    (h : wpAnyH Try.prog .any opsW7 Q S 27 (LW7 9) (a.put (some 33) v) w) : wpAnyH Try.prog .any opsW7 Q S 28 (LW7 8) a w :=
  wpAnyH_take (i := 8) hW7_8 noselW7 (by kernel_rfl) (by kernel_rfl) hQ hy hS (lW7_8.symm ▸ h)
def qW7_9 : Oper := { dst := some 34, op := Op.move (Operand.tmp 33), type := 4, pos := "laws.go:315", after := #[{ on := 8, ground := Ground.data }, { on := 5, ground := Ground.chain }], guard := none }
theorem hW7_9 : opsW7[9]? = some qW7_9 := by kernel_rfl
theorem lW7_9 : (LW7 9).setIfInBounds 9 true = LW7 10 := by kernel_rfl
theorem tW7_9 {Q : Exit → Act → World → Prop} {S : World → Prop} {a : Act} {w : World} (v : Value) (hQ : ∀ c a w, Q (.panic c) (a.put (some 34) v) w → Q (.panic c) a w) (hy : YieldsIf Try.prog opsW7 S qW7_9 v a) (hS : S w)
    (h : wpAnyH Try.prog .any opsW7 Q S 26 (LW7 10) (a.put (some 34) v) w) : wpAnyH Try.prog .any opsW7 Q S 27 (LW7 9) a w :=
  wpAnyH_take (i := 9) hW7_9 noselW7 (by kernel_rfl) (by kernel_rfl) hQ hy hS (lW7_9.symm ▸ h)
def qW7_10 : Oper := { dst := some 35, op := Op.move (Operand.tmp 4), type := 3, pos := "laws.go:315", after := #[{ on := 9, ground := Ground.guard }], guard := some (9, true) }
theorem hW7_10 : opsW7[10]? = some qW7_10 := by kernel_rfl
theorem lW7_10 : (LW7 10).setIfInBounds 10 true = LW7 11 := by kernel_rfl
theorem tW7_10 {Q : Exit → Act → World → Prop} {S : World → Prop} {a : Act} {w : World} (v : Value) (hQ : ∀ c a w, Q (.panic c) (a.put (some 35) v) w → Q (.panic c) a w) (hy : YieldsIf Try.prog opsW7 S qW7_10 v a) (hS : S w)
    (h : wpAnyH Try.prog .any opsW7 Q S 25 (LW7 11) (a.put (some 35) v) w) : wpAnyH Try.prog .any opsW7 Q S 26 (LW7 10) a w :=
  wpAnyH_take (i := 10) hW7_10 noselW7 (by kernel_rfl) (by kernel_rfl) hQ hy hS (lW7_10.symm ▸ h)
def qW7_11 : Oper := { dst := some 36, op := Op.binOp BinOp.lss 3 (Operand.tmp 35) (Operand.const (Value.int IntKind.i64 1)) 3, type := 4, pos := "laws.go:315", after := #[{ on := 10, ground := Ground.data }, { on := 9, ground := Ground.guard }], guard := some (9, true) }
theorem hW7_11 : opsW7[11]? = some qW7_11 := by kernel_rfl
theorem lW7_11 : (LW7 11).setIfInBounds 11 true = LW7 12 := by kernel_rfl
theorem tW7_11 {Q : Exit → Act → World → Prop} {S : World → Prop} {a : Act} {w : World} (v : Value) (hQ : ∀ c a w, Q (.panic c) (a.put (some 36) v) w → Q (.panic c) a w) (hy : YieldsIf Try.prog opsW7 S qW7_11 v a) (hS : S w)
    (h : wpAnyH Try.prog .any opsW7 Q S 24 (LW7 12) (a.put (some 36) v) w) : wpAnyH Try.prog .any opsW7 Q S 25 (LW7 11) a w :=
  wpAnyH_take (i := 11) hW7_11 noselW7 (by kernel_rfl) (by kernel_rfl) hQ hy hS (lW7_11.symm ▸ h)
def qW7_12 : Oper := { dst := some 37, op := Op.move (Operand.tmp 36), type := 4, pos := "laws.go:315", after := #[{ on := 11, ground := Ground.data }, { on := 9, ground := Ground.chain }, { on := 9, ground := Ground.guard }], guard := some (9, true) }
theorem hW7_12 : opsW7[12]? = some qW7_12 := by kernel_rfl
theorem lW7_12 : (LW7 12).setIfInBounds 12 true = LW7 13 := by kernel_rfl
theorem tW7_12 {Q : Exit → Act → World → Prop} {S : World → Prop} {a : Act} {w : World} (v : Value) (hQ : ∀ c a w, Q (.panic c) (a.put (some 37) v) w → Q (.panic c) a w) (hy : YieldsIf Try.prog opsW7 S qW7_12 v a) (hS : S w)
    (h : wpAnyH Try.prog .any opsW7 Q S 23 (LW7 13) (a.put (some 37) v) w) : wpAnyH Try.prog .any opsW7 Q S 24 (LW7 12) a w :=
  wpAnyH_take (i := 12) hW7_12 noselW7 (by kernel_rfl) (by kernel_rfl) hQ hy hS (lW7_12.symm ▸ h)
def qW7_13 : Oper := { dst := some 38, op := Op.move (Operand.tmp 5), type := 3, pos := "laws.go:315", after := #[{ on := 12, ground := Ground.guard }], guard := some (12, false) }
theorem hW7_13 : opsW7[13]? = some qW7_13 := by kernel_rfl
theorem lW7_13 : (LW7 13).setIfInBounds 13 true = LW7 14 := by kernel_rfl
theorem tW7_13 {Q : Exit → Act → World → Prop} {S : World → Prop} {a : Act} {w : World} (v : Value) (hQ : ∀ c a w, Q (.panic c) (a.put (some 38) v) w → Q (.panic c) a w) (hy : YieldsIf Try.prog opsW7 S qW7_13 v a) (hS : S w)
    (h : wpAnyH Try.prog .any opsW7 Q S 22 (LW7 14) (a.put (some 38) v) w) : wpAnyH Try.prog .any opsW7 Q S 23 (LW7 13) a w :=
  wpAnyH_take (i := 13) hW7_13 noselW7 (by kernel_rfl) (by kernel_rfl) hQ hy hS (lW7_13.symm ▸ h)
def qW7_14 : Oper := { dst := some 39, op := Op.move (Operand.tmp 4), type := 3, pos := "laws.go:315", after := #[{ on := 12, ground := Ground.guard }], guard := some (12, false) }
theorem hW7_14 : opsW7[14]? = some qW7_14 := by kernel_rfl
theorem lW7_14 : (LW7 14).setIfInBounds 14 true = LW7 15 := by kernel_rfl
theorem tW7_14 {Q : Exit → Act → World → Prop} {S : World → Prop} {a : Act} {w : World} (v : Value) (hQ : ∀ c a w, Q (.panic c) (a.put (some 39) v) w → Q (.panic c) a w) (hy : YieldsIf Try.prog opsW7 S qW7_14 v a) (hS : S w)
    (h : wpAnyH Try.prog .any opsW7 Q S 21 (LW7 15) (a.put (some 39) v) w) : wpAnyH Try.prog .any opsW7 Q S 22 (LW7 14) a w :=
  wpAnyH_take (i := 14) hW7_14 noselW7 (by kernel_rfl) (by kernel_rfl) hQ hy hS (lW7_14.symm ▸ h)
def qW7_15 : Oper := { dst := some 40, op := Op.binOp BinOp.lss 3 (Operand.tmp 38) (Operand.tmp 39) 3, type := 4, pos := "laws.go:315", after := #[{ on := 13, ground := Ground.data }, { on := 14, ground := Ground.data }, { on := 12, ground := Ground.guard }], guard := some (12, false) }
theorem hW7_15 : opsW7[15]? = some qW7_15 := by kernel_rfl
theorem lW7_15 : (LW7 15).setIfInBounds 15 true = LW7 16 := by kernel_rfl
theorem tW7_15 {Q : Exit → Act → World → Prop} {S : World → Prop} {a : Act} {w : World} (v : Value) (hQ : ∀ c a w, Q (.panic c) (a.put (some 40) v) w → Q (.panic c) a w) (hy : YieldsIf Try.prog opsW7 S qW7_15 v a) (hS : S w)
    (h : wpAnyH Try.prog .any opsW7 Q S 20 (LW7 16) (a.put (some 40) v) w) : wpAnyH Try.prog .any opsW7 Q S 21 (LW7 15) a w :=
  wpAnyH_take (i := 15) hW7_15 noselW7 (by kernel_rfl) (by kernel_rfl) hQ hy hS (lW7_15.symm ▸ h)
def qW7_16 : Oper := { dst := some 41, op := Op.pick (Operand.tmp 37) (Operand.const (Value.bool true)) (Operand.tmp 40), type := 4, pos := "laws.go:315", after := #[{ on := 12, ground := Ground.data }, { on := 15, ground := Ground.data }, { on := 9, ground := Ground.guard }], guard := some (9, true) }
theorem hW7_16 : opsW7[16]? = some qW7_16 := by kernel_rfl
theorem lW7_16 : (LW7 16).setIfInBounds 16 true = LW7 17 := by kernel_rfl
theorem tW7_16 {Q : Exit → Act → World → Prop} {S : World → Prop} {a : Act} {w : World} (v : Value) (hQ : ∀ c a w, Q (.panic c) (a.put (some 41) v) w → Q (.panic c) a w) (hy : YieldsIf Try.prog opsW7 S qW7_16 v a) (hS : S w)
    (h : wpAnyH Try.prog .any opsW7 Q S 19 (LW7 17) (a.put (some 41) v) w) : wpAnyH Try.prog .any opsW7 Q S 20 (LW7 16) a w :=
  wpAnyH_take (i := 16) hW7_16 noselW7 (by kernel_rfl) (by kernel_rfl) hQ hy hS (lW7_16.symm ▸ h)
def qW7_17 : Oper := { dst := some 42, op := Op.pick (Operand.tmp 34) (Operand.tmp 41) (Operand.const (Value.bool false)), type := 4, pos := "laws.go:315", after := #[{ on := 9, ground := Ground.data }, { on := 16, ground := Ground.data }], guard := none }
theorem hW7_17 : opsW7[17]? = some qW7_17 := by kernel_rfl
theorem lW7_17 : (LW7 17).setIfInBounds 17 true = LW7 18 := by kernel_rfl
theorem tW7_17 {Q : Exit → Act → World → Prop} {S : World → Prop} {a : Act} {w : World} (v : Value) (hQ : ∀ c a w, Q (.panic c) (a.put (some 42) v) w → Q (.panic c) a w) (hy : YieldsIf Try.prog opsW7 S qW7_17 v a) (hS : S w)
    (h : wpAnyH Try.prog .any opsW7 Q S 18 (LW7 18) (a.put (some 42) v) w) : wpAnyH Try.prog .any opsW7 Q S 19 (LW7 17) a w :=
  wpAnyH_take (i := 17) hW7_17 noselW7 (by kernel_rfl) (by kernel_rfl) hQ hy hS (lW7_17.symm ▸ h)
def qW7_18 : Oper := { dst := some 43, op := Op.move (Operand.tmp 42), type := 4, pos := "laws.go:315", after := #[{ on := 17, ground := Ground.data }, { on := 12, ground := Ground.chain }], guard := none }
theorem hW7_18 : opsW7[18]? = some qW7_18 := by kernel_rfl
theorem lW7_18 : (LW7 18).setIfInBounds 18 true = LW7 19 := by kernel_rfl
theorem tW7_18 {Q : Exit → Act → World → Prop} {S : World → Prop} {a : Act} {w : World} (v : Value) (hQ : ∀ c a w, Q (.panic c) (a.put (some 43) v) w → Q (.panic c) a w) (hy : YieldsIf Try.prog opsW7 S qW7_18 v a) (hS : S w)
    (h : wpAnyH Try.prog .any opsW7 Q S 17 (LW7 19) (a.put (some 43) v) w) : wpAnyH Try.prog .any opsW7 Q S 18 (LW7 18) a w :=
  wpAnyH_take (i := 18) hW7_18 noselW7 (by kernel_rfl) (by kernel_rfl) hQ hy hS (lW7_18.symm ▸ h)
def qW7_19 : Oper := { dst := some 44, op := Op.move (Operand.tmp 6), type := 27, pos := "laws.go:315", after := #[{ on := 18, ground := Ground.guard }], guard := some (18, true) }
theorem hW7_19 : opsW7[19]? = some qW7_19 := by kernel_rfl
theorem lW7_19 : (LW7 19).setIfInBounds 19 true = LW7 20 := by kernel_rfl
theorem tW7_19 {Q : Exit → Act → World → Prop} {S : World → Prop} {a : Act} {w : World} (v : Value) (hQ : ∀ c a w, Q (.panic c) (a.put (some 44) v) w → Q (.panic c) a w) (hy : YieldsIf Try.prog opsW7 S qW7_19 v a) (hS : S w)
    (h : wpAnyH Try.prog .any opsW7 Q S 16 (LW7 20) (a.put (some 44) v) w) : wpAnyH Try.prog .any opsW7 Q S 17 (LW7 19) a w :=
  wpAnyH_take (i := 19) hW7_19 noselW7 (by kernel_rfl) (by kernel_rfl) hQ hy hS (lW7_19.symm ▸ h)
def qW7_20 : Oper := { dst := some 45, op := Op.indexAddr 27 (Operand.tmp 44) (Operand.const (Value.int IntKind.i64 1)), type := 0, pos := "laws.go:315", after := #[{ on := 19, ground := Ground.data }, { on := 18, ground := Ground.guard }], guard := some (18, true) }
theorem hW7_20 : opsW7[20]? = some qW7_20 := by kernel_rfl
theorem lW7_20 : (LW7 20).setIfInBounds 20 true = LW7 21 := by kernel_rfl
theorem tW7_20 {Q : Exit → Act → World → Prop} {S : World → Prop} {a : Act} {w : World} (v : Value) (hQ : ∀ c a w, Q (.panic c) (a.put (some 45) v) w → Q (.panic c) a w) (hy : YieldsIf Try.prog opsW7 S qW7_20 v a) (hS : S w)
    (h : wpAnyH Try.prog .any opsW7 Q S 15 (LW7 21) (a.put (some 45) v) w) : wpAnyH Try.prog .any opsW7 Q S 16 (LW7 20) a w :=
  wpAnyH_take (i := 20) hW7_20 noselW7 (by kernel_rfl) (by kernel_rfl) hQ hy hS (lW7_20.symm ▸ h)
def qW7_21 : Oper := { dst := some 46, op := Op.load 3 (Operand.tmp 45), type := 3, pos := "laws.go:315", after := #[{ on := 20, ground := Ground.data }, { on := 18, ground := Ground.guard }], guard := some (18, true) }
theorem hW7_21 : opsW7[21]? = some qW7_21 := by kernel_rfl
theorem lW7_21 : (LW7 21).setIfInBounds 21 true = LW7 22 := by kernel_rfl
theorem tW7_21 {Q : Exit → Act → World → Prop} {S : World → Prop} {a : Act} {w : World} (v : Value) (hQ : ∀ c a w, Q (.panic c) (a.put (some 46) v) w → Q (.panic c) a w) (hy : YieldsIf Try.prog opsW7 S qW7_21 v a) (hS : S w)
    (h : wpAnyH Try.prog .any opsW7 Q S 14 (LW7 22) (a.put (some 46) v) w) : wpAnyH Try.prog .any opsW7 Q S 15 (LW7 21) a w :=
  wpAnyH_take (i := 21) hW7_21 noselW7 (by kernel_rfl) (by kernel_rfl) hQ hy hS (lW7_21.symm ▸ h)
def qW7_22 : Oper := { dst := some 47, op := Op.move (Operand.tmp 7), type := 3, pos := "laws.go:315", after := #[{ on := 18, ground := Ground.guard }], guard := some (18, true) }
theorem hW7_22 : opsW7[22]? = some qW7_22 := by kernel_rfl
theorem lW7_22 : (LW7 22).setIfInBounds 22 true = LW7 23 := by kernel_rfl
theorem tW7_22 {Q : Exit → Act → World → Prop} {S : World → Prop} {a : Act} {w : World} (v : Value) (hQ : ∀ c a w, Q (.panic c) (a.put (some 47) v) w → Q (.panic c) a w) (hy : YieldsIf Try.prog opsW7 S qW7_22 v a) (hS : S w)
    (h : wpAnyH Try.prog .any opsW7 Q S 13 (LW7 23) (a.put (some 47) v) w) : wpAnyH Try.prog .any opsW7 Q S 14 (LW7 22) a w :=
  wpAnyH_take (i := 22) hW7_22 noselW7 (by kernel_rfl) (by kernel_rfl) hQ hy hS (lW7_22.symm ▸ h)
def qW7_24 : Oper := { dst := some 49, op := Op.move (Operand.tmp 6), type := 27, pos := "laws.go:315", after := #[{ on := 18, ground := Ground.guard }], guard := some (18, true) }
theorem hW7_24 : opsW7[24]? = some qW7_24 := by kernel_rfl
theorem lW7_23 : (LW7 23).setIfInBounds 24 true = LW7 24 := by kernel_rfl
theorem tW7_23 {Q : Exit → Act → World → Prop} {S : World → Prop} {a : Act} {w : World} (v : Value) (hQ : ∀ c a w, Q (.panic c) (a.put (some 49) v) w → Q (.panic c) a w) (hy : YieldsIf Try.prog opsW7 S qW7_24 v a) (hS : S w)
    (h : wpAnyH Try.prog .any opsW7 Q S 12 (LW7 24) (a.put (some 49) v) w) : wpAnyH Try.prog .any opsW7 Q S 13 (LW7 23) a w :=
  wpAnyH_take (i := 24) hW7_24 noselW7 (by kernel_rfl) (by kernel_rfl) hQ hy hS (lW7_23.symm ▸ h)
def qW7_25 : Oper := { dst := some 50, op := Op.indexAddr 27 (Operand.tmp 49) (Operand.const (Value.int IntKind.i64 1)), type := 0, pos := "laws.go:315", after := #[{ on := 24, ground := Ground.data }, { on := 18, ground := Ground.guard }], guard := some (18, true) }
theorem hW7_25 : opsW7[25]? = some qW7_25 := by kernel_rfl
theorem lW7_24 : (LW7 24).setIfInBounds 25 true = LW7 25 := by kernel_rfl
theorem tW7_24 {Q : Exit → Act → World → Prop} {S : World → Prop} {a : Act} {w : World} (v : Value) (hQ : ∀ c a w, Q (.panic c) (a.put (some 50) v) w → Q (.panic c) a w) (hy : YieldsIf Try.prog opsW7 S qW7_25 v a) (hS : S w)
    (h : wpAnyH Try.prog .any opsW7 Q S 11 (LW7 25) (a.put (some 50) v) w) : wpAnyH Try.prog .any opsW7 Q S 12 (LW7 24) a w :=
  wpAnyH_take (i := 25) hW7_25 noselW7 (by kernel_rfl) (by kernel_rfl) hQ hy hS (lW7_24.symm ▸ h)
def qW7_26 : Oper := { dst := some 51, op := Op.load 3 (Operand.tmp 50), type := 3, pos := "laws.go:315", after := #[{ on := 25, ground := Ground.data }, { on := 18, ground := Ground.guard }], guard := some (18, true) }
theorem hW7_26 : opsW7[26]? = some qW7_26 := by kernel_rfl
theorem lW7_25 : (LW7 25).setIfInBounds 26 true = LW7 26 := by kernel_rfl
theorem tW7_25 {Q : Exit → Act → World → Prop} {S : World → Prop} {a : Act} {w : World} (v : Value) (hQ : ∀ c a w, Q (.panic c) (a.put (some 51) v) w → Q (.panic c) a w) (hy : YieldsIf Try.prog opsW7 S qW7_26 v a) (hS : S w)
    (h : wpAnyH Try.prog .any opsW7 Q S 10 (LW7 26) (a.put (some 51) v) w) : wpAnyH Try.prog .any opsW7 Q S 11 (LW7 25) a w :=
  wpAnyH_take (i := 26) hW7_26 noselW7 (by kernel_rfl) (by kernel_rfl) hQ hy hS (lW7_25.symm ▸ h)
def qW7_27 : Oper := { dst := some 52, op := Op.move (Operand.tmp 7), type := 3, pos := "laws.go:315", after := #[{ on := 18, ground := Ground.guard }], guard := some (18, true) }
theorem hW7_27 : opsW7[27]? = some qW7_27 := by kernel_rfl
theorem lW7_26 : (LW7 26).setIfInBounds 27 true = LW7 27 := by kernel_rfl
theorem tW7_26 {Q : Exit → Act → World → Prop} {S : World → Prop} {a : Act} {w : World} (v : Value) (hQ : ∀ c a w, Q (.panic c) (a.put (some 52) v) w → Q (.panic c) a w) (hy : YieldsIf Try.prog opsW7 S qW7_27 v a) (hS : S w)
    (h : wpAnyH Try.prog .any opsW7 Q S 9 (LW7 27) (a.put (some 52) v) w) : wpAnyH Try.prog .any opsW7 Q S 10 (LW7 26) a w :=
  wpAnyH_take (i := 27) hW7_27 noselW7 (by kernel_rfl) (by kernel_rfl) hQ hy hS (lW7_26.symm ▸ h)
def qW7_28 : Oper := { dst := some 53, op := Op.binOp BinOp.rem 3 (Operand.tmp 51) (Operand.tmp 52) 3, type := 3, pos := "laws.go:315", after := #[{ on := 26, ground := Ground.data }, { on := 27, ground := Ground.data }, { on := 18, ground := Ground.guard }], guard := some (18, true) }
theorem hW7_28 : opsW7[28]? = some qW7_28 := by kernel_rfl
theorem lW7_27 : (LW7 27).setIfInBounds 28 true = LW7 28 := by kernel_rfl
theorem tW7_27 {Q : Exit → Act → World → Prop} {S : World → Prop} {a : Act} {w : World} (v : Value) (hQ : ∀ c a w, Q (.panic c) (a.put (some 53) v) w → Q (.panic c) a w) (hy : YieldsIf Try.prog opsW7 S qW7_28 v a) (hS : S w)
    (h : wpAnyH Try.prog .any opsW7 Q S 8 (LW7 28) (a.put (some 53) v) w) : wpAnyH Try.prog .any opsW7 Q S 9 (LW7 27) a w :=
  wpAnyH_take (i := 28) hW7_28 noselW7 (by kernel_rfl) (by kernel_rfl) hQ hy hS (lW7_27.symm ▸ h)
def qW7_23 : Oper := { dst := some 48, op := Op.call { callee := Callee.value (Operand.func 13), args := #[Operand.tmp 46, Operand.tmp 47], argTypes := #[3, 3] }, type := 3, pos := "laws.go:315", after := #[{ on := 21, ground := Ground.data }, { on := 22, ground := Ground.data }, { on := 18, ground := Ground.chain }, { on := 18, ground := Ground.guard }], guard := some (18, true) }
theorem hW7_23 : opsW7[23]? = some qW7_23 := by kernel_rfl
theorem lW7_28 : (LW7 28).setIfInBounds 23 true = LW7 29 := by kernel_rfl
set_option maxRecDepth 100000 in
theorem cW7_28 {Q : Exit → Act → World → Prop} {S : World → Prop} {a : Act} {w : World}
    (h : ∀ K' : Act → World → Prop, Shut (∀ a w, S w → (S w → wpAnyH Try.prog .any opsW7 Q S 7 (LW7 29) a w) → K' a w) → if Region.wanted qW7_23 (yielded opsW7 a.tmps) = true then Oper.wp Try.prog qW7_23 a w K' Q else K' (a.put (some 48) undef) w) :
    wpAnyH Try.prog .any opsW7 Q S 8 (LW7 28) a w :=
  wpAnyH_ready (rs := [23]) (by kernel_rfl) (by simp) (AllReadyH.cons hW7_23 (fun K' hK => h K' (lW7_28 ▸ hK)) AllReadyH.nil)
theorem tW7_28 {Q : Exit → Act → World → Prop} {S : World → Prop} {a : Act} {w : World} (v : Value) (hQ : ∀ c a w, Q (.panic c) (a.put (some 48) v) w → Q (.panic c) a w) (hy : YieldsIf Try.prog opsW7 S qW7_23 v a) (hS : S w)
    (h : wpAnyH Try.prog .any opsW7 Q S 7 (LW7 29) (a.put (some 48) v) w) : wpAnyH Try.prog .any opsW7 Q S 8 (LW7 28) a w :=
  wpAnyH_take (i := 23) hW7_23 noselW7 (by kernel_rfl) (by kernel_rfl) hQ hy hS (lW7_28.symm ▸ h)
def qW7_29 : Oper := { dst := some 54, op := Op.binOp BinOp.eql 3 (Operand.tmp 48) (Operand.tmp 53) 3, type := 4, pos := "laws.go:315", after := #[{ on := 23, ground := Ground.data }, { on := 28, ground := Ground.data }, { on := 18, ground := Ground.guard }], guard := some (18, true) }
theorem hW7_29 : opsW7[29]? = some qW7_29 := by kernel_rfl
theorem lW7_29 : (LW7 29).setIfInBounds 29 true = LW7 30 := by kernel_rfl
theorem tW7_29 {Q : Exit → Act → World → Prop} {S : World → Prop} {a : Act} {w : World} (v : Value) (hQ : ∀ c a w, Q (.panic c) (a.put (some 54) v) w → Q (.panic c) a w) (hy : YieldsIf Try.prog opsW7 S qW7_29 v a) (hS : S w)
    (h : wpAnyH Try.prog .any opsW7 Q S 6 (LW7 30) (a.put (some 54) v) w) : wpAnyH Try.prog .any opsW7 Q S 7 (LW7 29) a w :=
  wpAnyH_take (i := 29) hW7_29 noselW7 (by kernel_rfl) (by kernel_rfl) hQ hy hS (lW7_29.symm ▸ h)
def qW7_30 : Oper := { dst := some 55, op := Op.pick (Operand.tmp 43) (Operand.tmp 54) (Operand.const (Value.bool false)), type := 4, pos := "laws.go:315", after := #[{ on := 18, ground := Ground.data }, { on := 29, ground := Ground.data }], guard := none }
theorem hW7_30 : opsW7[30]? = some qW7_30 := by kernel_rfl
theorem lW7_30 : (LW7 30).setIfInBounds 30 true = LW7 31 := by kernel_rfl
theorem tW7_30 {Q : Exit → Act → World → Prop} {S : World → Prop} {a : Act} {w : World} (v : Value) (hQ : ∀ c a w, Q (.panic c) (a.put (some 55) v) w → Q (.panic c) a w) (hy : YieldsIf Try.prog opsW7 S qW7_30 v a) (hS : S w)
    (h : wpAnyH Try.prog .any opsW7 Q S 5 (LW7 31) (a.put (some 55) v) w) : wpAnyH Try.prog .any opsW7 Q S 6 (LW7 30) a w :=
  wpAnyH_take (i := 30) hW7_30 noselW7 (by kernel_rfl) (by kernel_rfl) hQ hy hS (lW7_30.symm ▸ h)
def qW7_31 : Oper := { dst := some 56, op := Op.move (Operand.tmp 55), type := 4, pos := "laws.go:315", after := #[{ on := 30, ground := Ground.data }, { on := 23, ground := Ground.chain }], guard := none }
theorem hW7_31 : opsW7[31]? = some qW7_31 := by kernel_rfl
theorem lW7_31 : (LW7 31).setIfInBounds 31 true = LW7 32 := by kernel_rfl
theorem tW7_31 {Q : Exit → Act → World → Prop} {S : World → Prop} {a : Act} {w : World} (v : Value) (hQ : ∀ c a w, Q (.panic c) (a.put (some 56) v) w → Q (.panic c) a w) (hy : YieldsIf Try.prog opsW7 S qW7_31 v a) (hS : S w)
    (h : wpAnyH Try.prog .any opsW7 Q S 4 (LW7 32) (a.put (some 56) v) w) : wpAnyH Try.prog .any opsW7 Q S 5 (LW7 31) a w :=
  wpAnyH_take (i := 31) hW7_31 noselW7 (by kernel_rfl) (by kernel_rfl) hQ hy hS (lW7_31.symm ▸ h)
def qW7_32 : Oper := { dst := some 57, op := Op.call { callee := Callee.value (Operand.func 13), args := #[Operand.const (Value.int IntKind.i64 (-1)), Operand.const (Value.int IntKind.i64 3)], argTypes := #[3, 3] }, type := 3, pos := "laws.go:315", after := #[{ on := 31, ground := Ground.chain }, { on := 31, ground := Ground.guard }], guard := some (31, true) }
theorem hW7_32 : opsW7[32]? = some qW7_32 := by kernel_rfl
theorem lW7_32 : (LW7 32).setIfInBounds 32 true = LW7 33 := by kernel_rfl
set_option maxRecDepth 100000 in
theorem cW7_32 {Q : Exit → Act → World → Prop} {S : World → Prop} {a : Act} {w : World}
    (h : ∀ K' : Act → World → Prop, Shut (∀ a w, S w → (S w → wpAnyH Try.prog .any opsW7 Q S 3 (LW7 33) a w) → K' a w) → if Region.wanted qW7_32 (yielded opsW7 a.tmps) = true then Oper.wp Try.prog qW7_32 a w K' Q else K' (a.put (some 57) undef) w) :
    wpAnyH Try.prog .any opsW7 Q S 4 (LW7 32) a w :=
  wpAnyH_ready (rs := [32]) (by kernel_rfl) (by simp) (AllReadyH.cons hW7_32 (fun K' hK => h K' (lW7_32 ▸ hK)) AllReadyH.nil)
theorem tW7_32 {Q : Exit → Act → World → Prop} {S : World → Prop} {a : Act} {w : World} (v : Value) (hQ : ∀ c a w, Q (.panic c) (a.put (some 57) v) w → Q (.panic c) a w) (hy : YieldsIf Try.prog opsW7 S qW7_32 v a) (hS : S w)
    (h : wpAnyH Try.prog .any opsW7 Q S 3 (LW7 33) (a.put (some 57) v) w) : wpAnyH Try.prog .any opsW7 Q S 4 (LW7 32) a w :=
  wpAnyH_take (i := 32) hW7_32 noselW7 (by kernel_rfl) (by kernel_rfl) hQ hy hS (lW7_32.symm ▸ h)
def qW7_33 : Oper := { dst := some 58, op := Op.binOp BinOp.eql 3 (Operand.tmp 57) (Operand.const (Value.int IntKind.i64 2)) 3, type := 4, pos := "laws.go:315", after := #[{ on := 32, ground := Ground.data }, { on := 31, ground := Ground.guard }], guard := some (31, true) }
theorem hW7_33 : opsW7[33]? = some qW7_33 := by kernel_rfl
theorem lW7_33 : (LW7 33).setIfInBounds 33 true = LW7 34 := by kernel_rfl
theorem tW7_33 {Q : Exit → Act → World → Prop} {S : World → Prop} {a : Act} {w : World} (v : Value) (hQ : ∀ c a w, Q (.panic c) (a.put (some 58) v) w → Q (.panic c) a w) (hy : YieldsIf Try.prog opsW7 S qW7_33 v a) (hS : S w)
    (h : wpAnyH Try.prog .any opsW7 Q S 2 (LW7 34) (a.put (some 58) v) w) : wpAnyH Try.prog .any opsW7 Q S 3 (LW7 33) a w :=
  wpAnyH_take (i := 33) hW7_33 noselW7 (by kernel_rfl) (by kernel_rfl) hQ hy hS (lW7_33.symm ▸ h)
def qW7_34 : Oper := { dst := some 59, op := Op.pick (Operand.tmp 56) (Operand.tmp 58) (Operand.const (Value.bool false)), type := 4, pos := "laws.go:315", after := #[{ on := 31, ground := Ground.data }, { on := 33, ground := Ground.data }], guard := none }
theorem hW7_34 : opsW7[34]? = some qW7_34 := by kernel_rfl
theorem lW7_34 : (LW7 34).setIfInBounds 34 true = LW7 35 := by kernel_rfl
theorem tW7_34 {Q : Exit → Act → World → Prop} {S : World → Prop} {a : Act} {w : World} (v : Value) (hQ : ∀ c a w, Q (.panic c) (a.put (some 59) v) w → Q (.panic c) a w) (hy : YieldsIf Try.prog opsW7 S qW7_34 v a) (hS : S w)
    (h : wpAnyH Try.prog .any opsW7 Q S 1 (LW7 35) (a.put (some 59) v) w) : wpAnyH Try.prog .any opsW7 Q S 2 (LW7 34) a w :=
  wpAnyH_take (i := 34) hW7_34 noselW7 (by kernel_rfl) (by kernel_rfl) hQ hy hS (lW7_34.symm ▸ h)
def qW7_35 : Oper := { dst := some 2, op := Op.assign (Operand.tmp 59), type := 4, pos := "laws.go:315", after := #[{ on := 34, ground := Ground.data }, { on := 32, ground := Ground.chain }, { on := 0, ground := Ground.phase }, { on := 1, ground := Ground.phase }, { on := 2, ground := Ground.phase }, { on := 3, ground := Ground.phase }, { on := 4, ground := Ground.phase }, { on := 5, ground := Ground.phase }, { on := 6, ground := Ground.phase }, { on := 7, ground := Ground.phase }, { on := 8, ground := Ground.phase }, { on := 9, ground := Ground.phase }, { on := 10, ground := Ground.phase }, { on := 11, ground := Ground.phase }, { on := 12, ground := Ground.phase }, { on := 13, ground := Ground.phase }, { on := 14, ground := Ground.phase }, { on := 15, ground := Ground.phase }, { on := 16, ground := Ground.phase }, { on := 17, ground := Ground.phase }, { on := 18, ground := Ground.phase }, { on := 19, ground := Ground.phase }, { on := 20, ground := Ground.phase }, { on := 21, ground := Ground.phase }, { on := 22, ground := Ground.phase }, { on := 23, ground := Ground.phase }, { on := 24, ground := Ground.phase }, { on := 25, ground := Ground.phase }, { on := 26, ground := Ground.phase }, { on := 27, ground := Ground.phase }, { on := 28, ground := Ground.phase }, { on := 29, ground := Ground.phase }, { on := 30, ground := Ground.phase }, { on := 31, ground := Ground.phase }, { on := 32, ground := Ground.phase }, { on := 33, ground := Ground.phase }, { on := 34, ground := Ground.phase }], guard := none }
theorem hW7_35 : opsW7[35]? = some qW7_35 := by kernel_rfl
theorem lW7_35 : (LW7 35).setIfInBounds 35 true = LW7 36 := by kernel_rfl
theorem tW7_35 {Q : Exit → Act → World → Prop} {S : World → Prop} {a : Act} {w : World} (v : Value) (hQ : ∀ c a w, Q (.panic c) (a.put (some 2) v) w → Q (.panic c) a w) (hy : YieldsIf Try.prog opsW7 S qW7_35 v a) (hS : S w)
    (h : wpAnyH Try.prog .any opsW7 Q S 0 (LW7 36) (a.put (some 2) v) w) : wpAnyH Try.prog .any opsW7 Q S 1 (LW7 35) a w :=
  wpAnyH_take (i := 35) hW7_35 noselW7 (by kernel_rfl) (by kernel_rfl) hQ hy hS (lW7_35.symm ▸ h)
end Go.Proofs.Ytdmbkjebagnloaa.hexes
