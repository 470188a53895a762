/-
  A statement of laws.FnLinks: its operations, and a theorem a step.
-/
import Derived.Test.YthkkleicekhelaaProg
import Derived.WalkKit
import Derived.Deep.RegionHeld3
namespace Go.Proofs.Ythkkleicekhelaa.hexes
open Go.RowKit

def findZ25 (n : Nat) : Code → Option Code
  | .region id ops d => if id = n then some (.region id ops d) else none
  | .seq a b => match findZ25 n a with
    | some c => some c
    | none => findZ25 n b
  | .block _ c => findZ25 n c
  | .scope c => findZ25 n c
  | .loop c => findZ25 n c
  | .cond _ a b => match findZ25 n a with
    | some c => some c
    | none => findZ25 n b
  | _ => none
def opsOfZ25 : Option Code → Array Oper
  | some (.region _ ops _) => ops
  | _ => #[]
noncomputable def opsZ25 : Array Oper := opsOfZ25 (Try.f3.body.bind (findZ25 25))
def schZ25 : List Nat := [0, 1, 2, 3, 4, 5, 6, 7, 8, 9, 10, 11, 12, 13, 14, 15, 16, 17, 18, 19, 20, 21, 22, 23, 24, 26, 27, 25, 28, 29, 30, 31, 32, 33, 35, 36, 34, 37, 38, 39, 40, 41, 42, 43, 44, 45, 46, 47, 48, 49, 50, 51, 52, 53, 54, 55]
def LZ25 (k : Nat) : Array Bool := ((List.range 56).map fun i => (schZ25.take k).contains i).toArray
theorem noselZ25 : Region.noSelect opsZ25 = true := by kernel_rfl
def qZ25_0 : Oper := { dst := some 180, op := Op.move (Operand.tmp 6), type := 4, pos := "laws.go:348", after := #[], guard := none }
theorem hZ25_0 : opsZ25[0]? = some qZ25_0 := by kernel_rfl
theorem lZ25_0 : (LZ25 0).setIfInBounds 0 true = LZ25 1 := by kernel_rfl
theorem tZ25_0 {Q : Exit → Act → World → Prop} {S : World → Prop} {a : Act} {w : World} (v : Value) (hQ : ∀ c a w, Q (.panic c) (a.put (some 180) v) w → Q (.panic c) a w) (hy : YieldsIf Try.prog opsZ25 S qZ25_0 v a) (hS : S w)
    (h : wpAnyH Try.prog .any opsZ25 Q S 55 (LZ25 1) (a.put (some 180) v) w) : wpAnyH Try.prog .any opsZ25 Q S 56 (LZ25 0) a w :=
  wpAnyH_take (i := 0) hZ25_0 noselZ25 (by kernel_rfl) (by kernel_rfl) hQ hy hS (lZ25_0.symm ▸ h)
def qZ25_1 : Oper := { dst := some 181, op := Op.unOp UnOp.not 4 (Operand.tmp 180), type := 4, pos := "laws.go:348", after := #[{ on := 0, ground := Ground.data }], guard := none }
theorem hZ25_1 : opsZ25[1]? = some qZ25_1 := by kernel_rfl
theorem lZ25_1 : (LZ25 1).setIfInBounds 1 true = LZ25 2 := by kernel_rfl
theorem tZ25_1 {Q : Exit → Act → World → Prop} {S : World → Prop} {a : Act} {w : World} (v : Value) (hQ : ∀ c a w, Q (.panic c) (a.put (some 181) v) w → Q (.panic c) a w) (hy : YieldsIf Try.prog opsZ25 S qZ25_1 v a) (hS : S w)
    (h : wpAnyH Try.prog .any opsZ25 Q S 54 (LZ25 2) (a.put (some 181) v) w) : wpAnyH Try.prog .any opsZ25 Q S 55 (LZ25 1) a w :=
  wpAnyH_take (i := 1) hZ25_1 noselZ25 (by kernel_rfl) (by kernel_rfl) hQ hy hS (lZ25_1.symm ▸ h)
def qZ25_2 : Oper := { dst := some 182, op := Op.move (Operand.tmp 181), type := 4, pos := "laws.go:348", after := #[{ on := 1, ground := Ground.data }], guard := none }
theorem hZ25_2 : opsZ25[2]? = some qZ25_2 := by kernel_rfl
theorem lZ25_2 : (LZ25 2).setIfInBounds 2 true = LZ25 3 := by kernel_rfl
theorem tZ25_2 {Q : Exit → Act → World → Prop} {S : World → Prop} {a : Act} {w : World} (v : Value) (hQ : ∀ c a w, Q (.panic c) (a.put (some 182) v) w → Q (.panic c) a w) (hy : YieldsIf Try.prog opsZ25 S qZ25_2 v a) (hS : S w)
    (h : wpAnyH Try.prog .any opsZ25 Q S 53 (LZ25 3) (a.put (some 182) v) w) : wpAnyH Try.prog .any opsZ25 Q S 54 (LZ25 2) a w :=
  wpAnyH_take (i := 2) hZ25_2 noselZ25 (by kernel_rfl) (by kernel_rfl) hQ hy hS (lZ25_2.symm ▸ h)
def qZ25_3 : Oper := { dst := some 183, op := Op.load 26 (Operand.tmp 5), type := 26, pos := "laws.go:348", after := #[{ on := 2, ground := Ground.guard }], guard := some (2, false) }
theorem hZ25_3 : opsZ25[3]? = some qZ25_3 := by kernel_rfl
theorem lZ25_3 : (LZ25 3).setIfInBounds 3 true = LZ25 4 := by kernel_rfl
theorem tZ25_3 {Q : Exit → Act → World → Prop} {S : World → Prop} {a : Act} {w : World} (v : Value) (hQ : ∀ c a w, Q (.panic c) (a.put (some 183) v) w → Q (.panic c) a w) (hy : YieldsIf Try.prog opsZ25 S qZ25_3 v a) (hS : S w)
    (h : wpAnyH Try.prog .any opsZ25 Q S 52 (LZ25 4) (a.put (some 183) v) w) : wpAnyH Try.prog .any opsZ25 Q S 53 (LZ25 3) a w :=
  wpAnyH_take (i := 3) hZ25_3 noselZ25 (by kernel_rfl) (by kernel_rfl) hQ hy hS (lZ25_3.symm ▸ h)
def qZ25_4 : Oper := { dst := some 184, op := Op.call { callee := Callee.value (Operand.func 15), args := #[Operand.tmp 183], argTypes := #[26] }, type := 4, pos := "laws.go:348", after := #[{ on := 3, ground := Ground.data }, { on := 2, ground := Ground.chain }, { on := 2, ground := Ground.guard }], guard := some (2, false) }
theorem hZ25_4 : opsZ25[4]? = some qZ25_4 := by kernel_rfl
theorem lZ25_4 : (LZ25 4).setIfInBounds 4 true = LZ25 5 := by kernel_rfl
set_option maxRecDepth 100000 in
theorem cZ25_4 {Q : Exit → Act → World → Prop} {S : World → Prop} {a : Act} {w : World}
    (h : ∀ K' : Act → World → Prop, Shut (∀ a w, S w → (S w → wpAnyH Try.prog .any opsZ25 Q S 51 (LZ25 5) a w) → K' a w) → if Region.wanted qZ25_4 (yielded opsZ25 a.tmps) = true then Oper.wp Try.prog qZ25_4 a w K' Q else K' (a.put (some 184) undef) w) :
    wpAnyH Try.prog .any opsZ25 Q S 52 (LZ25 4) a w :=
  wpAnyH_ready (rs := [4]) (by kernel_rfl) (by simp) (AllReadyH.cons hZ25_4 (fun K' hK => h K' (lZ25_4 ▸ hK)) AllReadyH.nil)
theorem tZ25_4 {Q : Exit → Act → World → Prop} {S : World → Prop} {a : Act} {w : World} (v : Value) (hQ : ∀ c a w, Q (.panic c) (a.put (some 184) v) w → Q (.panic c) a w) (hy : YieldsIf Try.prog opsZ25 S qZ25_4 v a) (hS : S w)
    (h : wpAnyH Try.prog .any opsZ25 Q S 51 (LZ25 5) (a.put (some 184) v) w) : wpAnyH Try.prog .any opsZ25 Q S 52 (LZ25 4) a w :=
  wpAnyH_take (i := 4) hZ25_4 noselZ25 (by kernel_rfl) (by kernel_rfl) hQ hy hS (lZ25_4.symm ▸ h)
def qZ25_5 : Oper := { dst := some 185, op := Op.move (Operand.tmp 184), type := 4, pos := "laws.go:348", after := #[{ on := 4, ground := Ground.data }, { on := 4, ground := Ground.chain }, { on := 2, ground := Ground.guard }], guard := some (2, false) }
theorem hZ25_5 : opsZ25[5]? = some qZ25_5 := by kernel_rfl
theorem lZ25_5 : (LZ25 5).setIfInBounds 5 true = LZ25 6 := by kernel_rfl
theorem tZ25_5 {Q : Exit → Act → World → Prop} {S : World → Prop} {a : Act} {w : World} (v : Value) (hQ : ∀ c a w, Q (.panic c) (a.put (some 185) v) w → Q (.panic c) a w) (hy : YieldsIf Try.prog opsZ25 S qZ25_5 v a) (hS : S w)
    (h : wpAnyH Try.prog .any opsZ25 Q S 50 (LZ25 6) (a.put (some 185) v) w) : wpAnyH Try.prog .any opsZ25 Q S 51 (LZ25 5) a w :=
  wpAnyH_take (i := 5) hZ25_5 noselZ25 (by kernel_rfl) (by kernel_rfl) hQ hy hS (lZ25_5.symm ▸ h)
def qZ25_6 : Oper := { dst := some 186, op := Op.fieldAddr 26 (Operand.tmp 5) 2, type := 0, pos := "laws.go:348", after := #[{ on := 5, ground := Ground.guard }], guard := some (5, true) }
theorem hZ25_6 : opsZ25[6]? = some qZ25_6 := by kernel_rfl
theorem lZ25_6 : (LZ25 6).setIfInBounds 6 true = LZ25 7 := by kernel_rfl
theorem tZ25_6 {Q : Exit → Act → World → Prop} {S : World → Prop} {a : Act} {w : World} (v : Value) (hQ : ∀ c a w, Q (.panic c) (a.put (some 186) v) w → Q (.panic c) a w) (hy : YieldsIf Try.prog opsZ25 S qZ25_6 v a) (hS : S w)
    (h : wpAnyH Try.prog .any opsZ25 Q S 49 (LZ25 7) (a.put (some 186) v) w) : wpAnyH Try.prog .any opsZ25 Q S 50 (LZ25 6) a w :=
  wpAnyH_take (i := 6) hZ25_6 noselZ25 (by kernel_rfl) (by kernel_rfl) hQ hy hS (lZ25_6.symm ▸ h)
def qZ25_7 : Oper := { dst := some 187, op := Op.load 3 (Operand.tmp 186), type := 3, pos := "laws.go:348", after := #[{ on := 6, ground := Ground.data }, { on := 5, ground := Ground.guard }], guard := some (5, true) }
theorem hZ25_7 : opsZ25[7]? = some qZ25_7 := by kernel_rfl
theorem lZ25_7 : (LZ25 7).setIfInBounds 7 true = LZ25 8 := by kernel_rfl
theorem tZ25_7 {Q : Exit → Act → World → Prop} {S : World → Prop} {a : Act} {w : World} (v : Value) (hQ : ∀ c a w, Q (.panic c) (a.put (some 187) v) w → Q (.panic c) a w) (hy : YieldsIf Try.prog opsZ25 S qZ25_7 v a) (hS : S w)
    (h : wpAnyH Try.prog .any opsZ25 Q S 48 (LZ25 8) (a.put (some 187) v) w) : wpAnyH Try.prog .any opsZ25 Q S 49 (LZ25 7) a w :=
  wpAnyH_take (i := 7) hZ25_7 noselZ25 (by kernel_rfl) (by kernel_rfl) hQ hy hS (lZ25_7.symm ▸ h)
def qZ25_8 : Oper := { dst := some 188, op := Op.fieldAddr 26 (Operand.tmp 3) 2, type := 0, pos := "laws.go:348", after := #[{ on := 5, ground := Ground.guard }], guard := some (5, true) }
theorem hZ25_8 : opsZ25[8]? = some qZ25_8 := by kernel_rfl
theorem lZ25_8 : (LZ25 8).setIfInBounds 8 true = LZ25 9 := by kernel_rfl
theorem tZ25_8 {Q : Exit → Act → World → Prop} {S : World → Prop} {a : Act} {w : World} (v : Value) (hQ : ∀ c a w, Q (.panic c) (a.put (some 188) v) w → Q (.panic c) a w) (hy : YieldsIf Try.prog opsZ25 S qZ25_8 v a) (hS : S w)
    (h : wpAnyH Try.prog .any opsZ25 Q S 47 (LZ25 9) (a.put (some 188) v) w) : wpAnyH Try.prog .any opsZ25 Q S 48 (LZ25 8) a w :=
  wpAnyH_take (i := 8) hZ25_8 noselZ25 (by kernel_rfl) (by kernel_rfl) hQ hy hS (lZ25_8.symm ▸ h)
def qZ25_9 : Oper := { dst := some 189, op := Op.load 3 (Operand.tmp 188), type := 3, pos := "laws.go:348", after := #[{ on := 8, ground := Ground.data }, { on := 5, ground := Ground.guard }], guard := some (5, true) }
theorem hZ25_9 : opsZ25[9]? = some qZ25_9 := by kernel_rfl
theorem lZ25_9 : (LZ25 9).setIfInBounds 9 true = LZ25 10 := by kernel_rfl
theorem tZ25_9 {Q : Exit → Act → World → Prop} {S : World → Prop} {a : Act} {w : World} (v : Value) (hQ : ∀ c a w, Q (.panic c) (a.put (some 189) v) w → Q (.panic c) a w) (hy : YieldsIf Try.prog opsZ25 S qZ25_9 v a) (hS : S w)
    (h : wpAnyH Try.prog .any opsZ25 Q S 46 (LZ25 10) (a.put (some 189) v) w) : wpAnyH Try.prog .any opsZ25 Q S 47 (LZ25 9) a w :=
  wpAnyH_take (i := 9) hZ25_9 noselZ25 (by kernel_rfl) (by kernel_rfl) hQ hy hS (lZ25_9.symm ▸ h)
def qZ25_10 : Oper := { dst := some 190, op := Op.binOp BinOp.sub 3 (Operand.tmp 189) (Operand.const (Value.int IntKind.i64 1)) 3, type := 3, pos := "laws.go:348", after := #[{ on := 9, ground := Ground.data }, { on := 5, ground := Ground.guard }], guard := some (5, true) }
theorem hZ25_10 : opsZ25[10]? = some qZ25_10 := by kernel_rfl
theorem lZ25_10 : (LZ25 10).setIfInBounds 10 true = LZ25 11 := by kernel_rfl
theorem tZ25_10 {Q : Exit → Act → World → Prop} {S : World → Prop} {a : Act} {w : World} (v : Value) (hQ : ∀ c a w, Q (.panic c) (a.put (some 190) v) w → Q (.panic c) a w) (hy : YieldsIf Try.prog opsZ25 S qZ25_10 v a) (hS : S w)
    (h : wpAnyH Try.prog .any opsZ25 Q S 45 (LZ25 11) (a.put (some 190) v) w) : wpAnyH Try.prog .any opsZ25 Q S 46 (LZ25 10) a w :=
  wpAnyH_take (i := 10) hZ25_10 noselZ25 (by kernel_rfl) (by kernel_rfl) hQ hy hS (lZ25_10.symm ▸ h)
def qZ25_11 : Oper := { dst := some 191, op := Op.binOp BinOp.eql 3 (Operand.tmp 187) (Operand.tmp 190) 3, type := 4, pos := "laws.go:348", after := #[{ on := 7, ground := Ground.data }, { on := 10, ground := Ground.data }, { on := 5, ground := Ground.guard }], guard := some (5, true) }
theorem hZ25_11 : opsZ25[11]? = some qZ25_11 := by kernel_rfl
theorem lZ25_11 : (LZ25 11).setIfInBounds 11 true = LZ25 12 := by kernel_rfl
theorem tZ25_11 {Q : Exit → Act → World → Prop} {S : World → Prop} {a : Act} {w : World} (v : Value) (hQ : ∀ c a w, Q (.panic c) (a.put (some 191) v) w → Q (.panic c) a w) (hy : YieldsIf Try.prog opsZ25 S qZ25_11 v a) (hS : S w)
    (h : wpAnyH Try.prog .any opsZ25 Q S 44 (LZ25 12) (a.put (some 191) v) w) : wpAnyH Try.prog .any opsZ25 Q S 45 (LZ25 11) a w :=
  wpAnyH_take (i := 11) hZ25_11 noselZ25 (by kernel_rfl) (by kernel_rfl) hQ hy hS (lZ25_11.symm ▸ h)
def qZ25_12 : Oper := { dst := some 192, op := Op.pick (Operand.tmp 185) (Operand.tmp 191) (Operand.const (Value.bool false)), type := 4, pos := "laws.go:348", after := #[{ on := 5, ground := Ground.data }, { on := 11, ground := Ground.data }, { on := 2, ground := Ground.guard }], guard := some (2, false) }
theorem hZ25_12 : opsZ25[12]? = some qZ25_12 := by kernel_rfl
theorem lZ25_12 : (LZ25 12).setIfInBounds 12 true = LZ25 13 := by kernel_rfl
theorem tZ25_12 {Q : Exit → Act → World → Prop} {S : World → Prop} {a : Act} {w : World} (v : Value) (hQ : ∀ c a w, Q (.panic c) (a.put (some 192) v) w → Q (.panic c) a w) (hy : YieldsIf Try.prog opsZ25 S qZ25_12 v a) (hS : S w)
    (h : wpAnyH Try.prog .any opsZ25 Q S 43 (LZ25 13) (a.put (some 192) v) w) : wpAnyH Try.prog .any opsZ25 Q S 44 (LZ25 12) a w :=
  wpAnyH_take (i := 12) hZ25_12 noselZ25 (by kernel_rfl) (by kernel_rfl) hQ hy hS (lZ25_12.symm ▸ h)
def qZ25_13 : Oper := { dst := some 193, op := Op.pick (Operand.tmp 182) (Operand.const (Value.bool true)) (Operand.tmp 192), type := 4, pos := "laws.go:348", after := #[{ on := 2, ground := Ground.data }, { on := 12, ground := Ground.data }], guard := none }
theorem hZ25_13 : opsZ25[13]? = some qZ25_13 := by kernel_rfl
theorem lZ25_13 : (LZ25 13).setIfInBounds 13 true = LZ25 14 := by kernel_rfl
theorem tZ25_13 {Q : Exit → Act → World → Prop} {S : World → Prop} {a : Act} {w : World} (v : Value) (hQ : ∀ c a w, Q (.panic c) (a.put (some 193) v) w → Q (.panic c) a w) (hy : YieldsIf Try.prog opsZ25 S qZ25_13 v a) (hS : S w)
    (h : wpAnyH Try.prog .any opsZ25 Q S 42 (LZ25 14) (a.put (some 193) v) w) : wpAnyH Try.prog .any opsZ25 Q S 43 (LZ25 13) a w :=
  wpAnyH_take (i := 13) hZ25_13 noselZ25 (by kernel_rfl) (by kernel_rfl) hQ hy hS (lZ25_13.symm ▸ h)
def qZ25_14 : Oper := { dst := some 194, op := Op.move (Operand.tmp 193), type := 4, pos := "laws.go:348", after := #[{ on := 13, ground := Ground.data }, { on := 5, ground := Ground.chain }], guard := none }
theorem hZ25_14 : opsZ25[14]? = some qZ25_14 := by kernel_rfl
theorem lZ25_14 : (LZ25 14).setIfInBounds 14 true = LZ25 15 := by kernel_rfl
theorem tZ25_14 {Q : Exit → Act → World → Prop} {S : World → Prop} {a : Act} {w : World} (v : Value) (hQ : ∀ c a w, Q (.panic c) (a.put (some 194) v) w → Q (.panic c) a w) (hy : YieldsIf Try.prog opsZ25 S qZ25_14 v a) (hS : S w)
    (h : wpAnyH Try.prog .any opsZ25 Q S 41 (LZ25 15) (a.put (some 194) v) w) : wpAnyH Try.prog .any opsZ25 Q S 42 (LZ25 14) a w :=
  wpAnyH_take (i := 14) hZ25_14 noselZ25 (by kernel_rfl) (by kernel_rfl) hQ hy hS (lZ25_14.symm ▸ h)
def qZ25_15 : Oper := { dst := some 195, op := Op.move (Operand.tmp 6), type := 4, pos := "laws.go:348", after := #[{ on := 14, ground := Ground.guard }], guard := some (14, true) }
theorem hZ25_15 : opsZ25[15]? = some qZ25_15 := by kernel_rfl
theorem lZ25_15 : (LZ25 15).setIfInBounds 15 true = LZ25 16 := by kernel_rfl
theorem tZ25_15 {Q : Exit → Act → World → Prop} {S : World → Prop} {a : Act} {w : World} (v : Value) (hQ : ∀ c a w, Q (.panic c) (a.put (some 195) v) w → Q (.panic c) a w) (hy : YieldsIf Try.prog opsZ25 S qZ25_15 v a) (hS : S w)
    (h : wpAnyH Try.prog .any opsZ25 Q S 40 (LZ25 16) (a.put (some 195) v) w) : wpAnyH Try.prog .any opsZ25 Q S 41 (LZ25 15) a w :=
  wpAnyH_take (i := 15) hZ25_15 noselZ25 (by kernel_rfl) (by kernel_rfl) hQ hy hS (lZ25_15.symm ▸ h)
def qZ25_16 : Oper := { dst := some 196, op := Op.move (Operand.tmp 195), type := 4, pos := "laws.go:348", after := #[{ on := 15, ground := Ground.data }, { on := 14, ground := Ground.chain }, { on := 14, ground := Ground.guard }], guard := some (14, true) }
theorem hZ25_16 : opsZ25[16]? = some qZ25_16 := by kernel_rfl
theorem lZ25_16 : (LZ25 16).setIfInBounds 16 true = LZ25 17 := by kernel_rfl
theorem tZ25_16 {Q : Exit → Act → World → Prop} {S : World → Prop} {a : Act} {w : World} (v : Value) (hQ : ∀ c a w, Q (.panic c) (a.put (some 196) v) w → Q (.panic c) a w) (hy : YieldsIf Try.prog opsZ25 S qZ25_16 v a) (hS : S w)
    (h : wpAnyH Try.prog .any opsZ25 Q S 39 (LZ25 17) (a.put (some 196) v) w) : wpAnyH Try.prog .any opsZ25 Q S 40 (LZ25 16) a w :=
  wpAnyH_take (i := 16) hZ25_16 noselZ25 (by kernel_rfl) (by kernel_rfl) hQ hy hS (lZ25_16.symm ▸ h)
def qZ25_17 : Oper := { dst := some 197, op := Op.load 26 (Operand.tmp 5), type := 26, pos := "laws.go:348", after := #[{ on := 16, ground := Ground.guard }], guard := some (16, false) }
theorem hZ25_17 : opsZ25[17]? = some qZ25_17 := by kernel_rfl
theorem lZ25_17 : (LZ25 17).setIfInBounds 17 true = LZ25 18 := by kernel_rfl
theorem tZ25_17 {Q : Exit → Act → World → Prop} {S : World → Prop} {a : Act} {w : World} (v : Value) (hQ : ∀ c a w, Q (.panic c) (a.put (some 197) v) w → Q (.panic c) a w) (hy : YieldsIf Try.prog opsZ25 S qZ25_17 v a) (hS : S w)
    (h : wpAnyH Try.prog .any opsZ25 Q S 38 (LZ25 18) (a.put (some 197) v) w) : wpAnyH Try.prog .any opsZ25 Q S 39 (LZ25 17) a w :=
  wpAnyH_take (i := 17) hZ25_17 noselZ25 (by kernel_rfl) (by kernel_rfl) hQ hy hS (lZ25_17.symm ▸ h)
def qZ25_18 : Oper := { dst := some 198, op := Op.load 26 (Operand.tmp 3), type := 26, pos := "laws.go:348", after := #[{ on := 16, ground := Ground.guard }], guard := some (16, false) }
theorem hZ25_18 : opsZ25[18]? = some qZ25_18 := by kernel_rfl
theorem lZ25_18 : (LZ25 18).setIfInBounds 18 true = LZ25 19 := by kernel_rfl
theorem tZ25_18 {Q : Exit → Act → World → Prop} {S : World → Prop} {a : Act} {w : World} (v : Value) (hQ : ∀ c a w, Q (.panic c) (a.put (some 198) v) w → Q (.panic c) a w) (hy : YieldsIf Try.prog opsZ25 S qZ25_18 v a) (hS : S w)
    (h : wpAnyH Try.prog .any opsZ25 Q S 37 (LZ25 19) (a.put (some 198) v) w) : wpAnyH Try.prog .any opsZ25 Q S 38 (LZ25 18) a w :=
  wpAnyH_take (i := 18) hZ25_18 noselZ25 (by kernel_rfl) (by kernel_rfl) hQ hy hS (lZ25_18.symm ▸ h)
def qZ25_19 : Oper := { dst := some 199, op := Op.call { callee := Callee.value (Operand.func 13), args := #[Operand.tmp 197, Operand.tmp 198], argTypes := #[26, 26] }, type := 4, pos := "laws.go:348", after := #[{ on := 17, ground := Ground.data }, { on := 18, ground := Ground.data }, { on := 16, ground := Ground.chain }, { on := 16, ground := Ground.guard }], guard := some (16, false) }
theorem hZ25_19 : opsZ25[19]? = some qZ25_19 := by kernel_rfl
theorem lZ25_19 : (LZ25 19).setIfInBounds 19 true = LZ25 20 := by kernel_rfl
set_option maxRecDepth 100000 in
theorem cZ25_19 {Q : Exit → Act → World → Prop} {S : World → Prop} {a : Act} {w : World}
    (h : ∀ K' : Act → World → Prop, Shut (∀ a w, S w → (S w → wpAnyH Try.prog .any opsZ25 Q S 36 (LZ25 20) a w) → K' a w) → if Region.wanted qZ25_19 (yielded opsZ25 a.tmps) = true then Oper.wp Try.prog qZ25_19 a w K' Q else K' (a.put (some 199) undef) w) :
    wpAnyH Try.prog .any opsZ25 Q S 37 (LZ25 19) a w :=
  wpAnyH_ready (rs := [19]) (by kernel_rfl) (by simp) (AllReadyH.cons hZ25_19 (fun K' hK => h K' (lZ25_19 ▸ hK)) AllReadyH.nil)
theorem tZ25_19 {Q : Exit → Act → World → Prop} {S : World → Prop} {a : Act} {w : World} (v : Value) (hQ : ∀ c a w, Q (.panic c) (a.put (some 199) v) w → Q (.panic c) a w) (hy : YieldsIf Try.prog opsZ25 S qZ25_19 v a) (hS : S w)
    (h : wpAnyH Try.prog .any opsZ25 Q S 36 (LZ25 20) (a.put (some 199) v) w) : wpAnyH Try.prog .any opsZ25 Q S 37 (LZ25 19) a w :=
  wpAnyH_take (i := 19) hZ25_19 noselZ25 (by kernel_rfl) (by kernel_rfl) hQ hy hS (lZ25_19.symm ▸ h)
def qZ25_20 : Oper := { dst := some 200, op := Op.pick (Operand.tmp 196) (Operand.const (Value.bool true)) (Operand.tmp 199), type := 4, pos := "laws.go:348", after := #[{ on := 16, ground := Ground.data }, { on := 19, ground := Ground.data }, { on := 14, ground := Ground.guard }], guard := some (14, true) }
theorem hZ25_20 : opsZ25[20]? = some qZ25_20 := by kernel_rfl
theorem lZ25_20 : (LZ25 20).setIfInBounds 20 true = LZ25 21 := by kernel_rfl
theorem tZ25_20 {Q : Exit → Act → World → Prop} {S : World → Prop} {a : Act} {w : World} (v : Value) (hQ : ∀ c a w, Q (.panic c) (a.put (some 200) v) w → Q (.panic c) a w) (hy : YieldsIf Try.prog opsZ25 S qZ25_20 v a) (hS : S w)
    (h : wpAnyH Try.prog .any opsZ25 Q S 35 (LZ25 21) (a.put (some 200) v) w) : wpAnyH Try.prog .any opsZ25 Q S 36 (LZ25 20) a w :=
  wpAnyH_take (i := 20) hZ25_20 noselZ25 (by kernel_rfl) (by kernel_rfl) hQ hy hS (lZ25_20.symm ▸ h)
def qZ25_21 : Oper := { dst := some 201, op := Op.pick (Operand.tmp 194) (Operand.tmp 200) (Operand.const (Value.bool false)), type := 4, pos := "laws.go:348", after := #[{ on := 14, ground := Ground.data }, { on := 20, ground := Ground.data }], guard := none }
theorem hZ25_21 : opsZ25[21]? = some qZ25_21 := by kernel_rfl
theorem lZ25_21 : (LZ25 21).setIfInBounds 21 true = LZ25 22 := by kernel_rfl
theorem tZ25_21 {Q : Exit → Act → World → Prop} {S : World → Prop} {a : Act} {w : World} (v : Value) (hQ : ∀ c a w, Q (.panic c) (a.put (some 201) v) w → Q (.panic c) a w) (hy : YieldsIf Try.prog opsZ25 S qZ25_21 v a) (hS : S w)
    (h : wpAnyH Try.prog .any opsZ25 Q S 34 (LZ25 22) (a.put (some 201) v) w) : wpAnyH Try.prog .any opsZ25 Q S 35 (LZ25 21) a w :=
  wpAnyH_take (i := 21) hZ25_21 noselZ25 (by kernel_rfl) (by kernel_rfl) hQ hy hS (lZ25_21.symm ▸ h)
def qZ25_22 : Oper := { dst := some 202, op := Op.move (Operand.tmp 201), type := 4, pos := "laws.go:348", after := #[{ on := 21, ground := Ground.data }, { on := 19, ground := Ground.chain }], guard := none }
theorem hZ25_22 : opsZ25[22]? = some qZ25_22 := by kernel_rfl
theorem lZ25_22 : (LZ25 22).setIfInBounds 22 true = LZ25 23 := by kernel_rfl
theorem tZ25_22 {Q : Exit → Act → World → Prop} {S : World → Prop} {a : Act} {w : World} (v : Value) (hQ : ∀ c a w, Q (.panic c) (a.put (some 202) v) w → Q (.panic c) a w) (hy : YieldsIf Try.prog opsZ25 S qZ25_22 v a) (hS : S w)
    (h : wpAnyH Try.prog .any opsZ25 Q S 33 (LZ25 23) (a.put (some 202) v) w) : wpAnyH Try.prog .any opsZ25 Q S 34 (LZ25 22) a w :=
  wpAnyH_take (i := 22) hZ25_22 noselZ25 (by kernel_rfl) (by kernel_rfl) hQ hy hS (lZ25_22.symm ▸ h)
def qZ25_23 : Oper := { dst := some 203, op := Op.load 26 (Operand.tmp 21), type := 26, pos := "laws.go:348", after := #[{ on := 22, ground := Ground.guard }], guard := some (22, true) }
theorem hZ25_23 : opsZ25[23]? = some qZ25_23 := by kernel_rfl
theorem lZ25_23 : (LZ25 23).setIfInBounds 23 true = LZ25 24 := by kernel_rfl
theorem tZ25_23 {Q : Exit → Act → World → Prop} {S : World → Prop} {a : Act} {w : World} (v : Value) (hQ : ∀ c a w, Q (.panic c) (a.put (some 203) v) w → Q (.panic c) a w) (hy : YieldsIf Try.prog opsZ25 S qZ25_23 v a) (hS : S w)
    (h : wpAnyH Try.prog .any opsZ25 Q S 32 (LZ25 24) (a.put (some 203) v) w) : wpAnyH Try.prog .any opsZ25 Q S 33 (LZ25 23) a w :=
  wpAnyH_take (i := 23) hZ25_23 noselZ25 (by kernel_rfl) (by kernel_rfl) hQ hy hS (lZ25_23.symm ▸ h)
def qZ25_24 : Oper := { dst := some 204, op := Op.move (Operand.tmp 22), type := 3, pos := "laws.go:348", after := #[{ on := 22, ground := Ground.guard }], guard := some (22, true) }
theorem hZ25_24 : opsZ25[24]? = some qZ25_24 := by kernel_rfl
theorem lZ25_24 : (LZ25 24).setIfInBounds 24 true = LZ25 25 := by kernel_rfl
theorem tZ25_24 {Q : Exit → Act → World → Prop} {S : World → Prop} {a : Act} {w : World} (v : Value) (hQ : ∀ c a w, Q (.panic c) (a.put (some 204) v) w → Q (.panic c) a w) (hy : YieldsIf Try.prog opsZ25 S qZ25_24 v a) (hS : S w)
    (h : wpAnyH Try.prog .any opsZ25 Q S 31 (LZ25 25) (a.put (some 204) v) w) : wpAnyH Try.prog .any opsZ25 Q S 32 (LZ25 24) a w :=
  wpAnyH_take (i := 24) hZ25_24 noselZ25 (by kernel_rfl) (by kernel_rfl) hQ hy hS (lZ25_24.symm ▸ h)
def qZ25_26 : Oper := { dst := some 206, op := Op.load 26 (Operand.tmp 21), type := 26, pos := "laws.go:348", after := #[{ on := 22, ground := Ground.guard }], guard := some (22, true) }
theorem hZ25_26 : opsZ25[26]? = some qZ25_26 := by kernel_rfl
theorem lZ25_25 : (LZ25 25).setIfInBounds 26 true = LZ25 26 := by kernel_rfl
theorem tZ25_25 {Q : Exit → Act → World → Prop} {S : World → Prop} {a : Act} {w : World} (v : Value) (hQ : ∀ c a w, Q (.panic c) (a.put (some 206) v) w → Q (.panic c) a w) (hy : YieldsIf Try.prog opsZ25 S qZ25_26 v a) (hS : S w)
    (h : wpAnyH Try.prog .any opsZ25 Q S 30 (LZ25 26) (a.put (some 206) v) w) : wpAnyH Try.prog .any opsZ25 Q S 31 (LZ25 25) a w :=
  wpAnyH_take (i := 26) hZ25_26 noselZ25 (by kernel_rfl) (by kernel_rfl) hQ hy hS (lZ25_25.symm ▸ h)
def qZ25_27 : Oper := { dst := some 207, op := Op.move (Operand.tmp 22), type := 3, pos := "laws.go:348", after := #[{ on := 22, ground := Ground.guard }], guard := some (22, true) }
theorem hZ25_27 : opsZ25[27]? = some qZ25_27 := by kernel_rfl
theorem lZ25_26 : (LZ25 26).setIfInBounds 27 true = LZ25 27 := by kernel_rfl
theorem tZ25_26 {Q : Exit → Act → World → Prop} {S : World → Prop} {a : Act} {w : World} (v : Value) (hQ : ∀ c a w, Q (.panic c) (a.put (some 207) v) w → Q (.panic c) a w) (hy : YieldsIf Try.prog opsZ25 S qZ25_27 v a) (hS : S w)
    (h : wpAnyH Try.prog .any opsZ25 Q S 29 (LZ25 27) (a.put (some 207) v) w) : wpAnyH Try.prog .any opsZ25 Q S 30 (LZ25 26) a w :=
  wpAnyH_take (i := 27) hZ25_27 noselZ25 (by kernel_rfl) (by kernel_rfl) hQ hy hS (lZ25_26.symm ▸ h)
def qZ25_25 : Oper := { dst := some 205, op := Op.call { callee := Callee.value (Operand.func 25), args := #[Operand.tmp 203, Operand.tmp 204], argTypes := #[26, 3] }, type := 3, pos := "laws.go:348", after := #[{ on := 23, ground := Ground.data }, { on := 24, ground := Ground.data }, { on := 22, ground := Ground.chain }, { on := 22, ground := Ground.guard }], guard := some (22, true) }
theorem hZ25_25 : opsZ25[25]? = some qZ25_25 := by kernel_rfl
theorem lZ25_27 : (LZ25 27).setIfInBounds 25 true = LZ25 28 := by kernel_rfl
set_option maxRecDepth 100000 in
theorem cZ25_27 {Q : Exit → Act → World → Prop} {S : World → Prop} {a : Act} {w : World}
    (h : ∀ K' : Act → World → Prop, Shut (∀ a w, S w → (S w → wpAnyH Try.prog .any opsZ25 Q S 28 (LZ25 28) a w) → K' a w) → if Region.wanted qZ25_25 (yielded opsZ25 a.tmps) = true then Oper.wp Try.prog qZ25_25 a w K' Q else K' (a.put (some 205) undef) w) :
    wpAnyH Try.prog .any opsZ25 Q S 29 (LZ25 27) a w :=
  wpAnyH_ready (rs := [25]) (by kernel_rfl) (by simp) (AllReadyH.cons hZ25_25 (fun K' hK => h K' (lZ25_27 ▸ hK)) AllReadyH.nil)
theorem tZ25_27 {Q : Exit → Act → World → Prop} {S : World → Prop} {a : Act} {w : World} (v : Value) (hQ : ∀ c a w, Q (.panic c) (a.put (some 205) v) w → Q (.panic c) a w) (hy : YieldsIf Try.prog opsZ25 S qZ25_25 v a) (hS : S w)
    (h : wpAnyH Try.prog .any opsZ25 Q S 28 (LZ25 28) (a.put (some 205) v) w) : wpAnyH Try.prog .any opsZ25 Q S 29 (LZ25 27) a w :=
  wpAnyH_take (i := 25) hZ25_25 noselZ25 (by kernel_rfl) (by kernel_rfl) hQ hy hS (lZ25_27.symm ▸ h)
def qZ25_28 : Oper := { dst := some 208, op := Op.call { callee := Callee.value (Operand.func 26), args := #[Operand.tmp 206, Operand.tmp 207], argTypes := #[26, 3] }, type := 3, pos := "laws.go:348", after := #[{ on := 26, ground := Ground.data }, { on := 27, ground := Ground.data }, { on := 25, ground := Ground.chain }, { on := 22, ground := Ground.guard }], guard := some (22, true) }
theorem hZ25_28 : opsZ25[28]? = some qZ25_28 := by kernel_rfl
theorem lZ25_28 : (LZ25 28).setIfInBounds 28 true = LZ25 29 := by kernel_rfl
set_option maxRecDepth 100000 in
theorem cZ25_28 {Q : Exit → Act → World → Prop} {S : World → Prop} {a : Act} {w : World}
    (h : ∀ K' : Act → World → Prop, Shut (∀ a w, S w → (S w → wpAnyH Try.prog .any opsZ25 Q S 27 (LZ25 29) a w) → K' a w) → if Region.wanted qZ25_28 (yielded opsZ25 a.tmps) = true then Oper.wp Try.prog qZ25_28 a w K' Q else K' (a.put (some 208) undef) w) :
    wpAnyH Try.prog .any opsZ25 Q S 28 (LZ25 28) a w :=
  wpAnyH_ready (rs := [28]) (by kernel_rfl) (by simp) (AllReadyH.cons hZ25_28 (fun K' hK => h K' (lZ25_28 ▸ hK)) AllReadyH.nil)
theorem tZ25_28 {Q : Exit → Act → World → Prop} {S : World → Prop} {a : Act} {w : World} (v : Value) (hQ : ∀ c a w, Q (.panic c) (a.put (some 208) v) w → Q (.panic c) a w) (hy : YieldsIf Try.prog opsZ25 S qZ25_28 v a) (hS : S w)
    (h : wpAnyH Try.prog .any opsZ25 Q S 27 (LZ25 29) (a.put (some 208) v) w) : wpAnyH Try.prog .any opsZ25 Q S 28 (LZ25 28) a w :=
  wpAnyH_take (i := 28) hZ25_28 noselZ25 (by kernel_rfl) (by kernel_rfl) hQ hy hS (lZ25_28.symm ▸ h)
def qZ25_29 : Oper := { dst := some 209, op := Op.binOp BinOp.eql 3 (Operand.tmp 205) (Operand.tmp 208) 3, type := 4, pos := "laws.go:348", after := #[{ on := 25, ground := Ground.data }, { on := 28, ground := Ground.data }, { on := 22, ground := Ground.guard }], guard := some (22, true) }
theorem hZ25_29 : opsZ25[29]? = some qZ25_29 := by kernel_rfl
theorem lZ25_29 : (LZ25 29).setIfInBounds 29 true = LZ25 30 := by kernel_rfl
theorem tZ25_29 {Q : Exit → Act → World → Prop} {S : World → Prop} {a : Act} {w : World} (v : Value) (hQ : ∀ c a w, Q (.panic c) (a.put (some 209) v) w → Q (.panic c) a w) (hy : YieldsIf Try.prog opsZ25 S qZ25_29 v a) (hS : S w)
    (h : wpAnyH Try.prog .any opsZ25 Q S 26 (LZ25 30) (a.put (some 209) v) w) : wpAnyH Try.prog .any opsZ25 Q S 27 (LZ25 29) a w :=
  wpAnyH_take (i := 29) hZ25_29 noselZ25 (by kernel_rfl) (by kernel_rfl) hQ hy hS (lZ25_29.symm ▸ h)
def qZ25_30 : Oper := { dst := some 210, op := Op.pick (Operand.tmp 202) (Operand.tmp 209) (Operand.const (Value.bool false)), type := 4, pos := "laws.go:348", after := #[{ on := 22, ground := Ground.data }, { on := 29, ground := Ground.data }], guard := none }
theorem hZ25_30 : opsZ25[30]? = some qZ25_30 := by kernel_rfl
theorem lZ25_30 : (LZ25 30).setIfInBounds 30 true = LZ25 31 := by kernel_rfl
theorem tZ25_30 {Q : Exit → Act → World → Prop} {S : World → Prop} {a : Act} {w : World} (v : Value) (hQ : ∀ c a w, Q (.panic c) (a.put (some 210) v) w → Q (.panic c) a w) (hy : YieldsIf Try.prog opsZ25 S qZ25_30 v a) (hS : S w)
    (h : wpAnyH Try.prog .any opsZ25 Q S 25 (LZ25 31) (a.put (some 210) v) w) : wpAnyH Try.prog .any opsZ25 Q S 26 (LZ25 30) a w :=
  wpAnyH_take (i := 30) hZ25_30 noselZ25 (by kernel_rfl) (by kernel_rfl) hQ hy hS (lZ25_30.symm ▸ h)
def qZ25_31 : Oper := { dst := some 211, op := Op.move (Operand.tmp 210), type := 4, pos := "laws.go:348", after := #[{ on := 30, ground := Ground.data }, { on := 28, ground := Ground.chain }], guard := none }
theorem hZ25_31 : opsZ25[31]? = some qZ25_31 := by kernel_rfl
theorem lZ25_31 : (LZ25 31).setIfInBounds 31 true = LZ25 32 := by kernel_rfl
theorem tZ25_31 {Q : Exit → Act → World → Prop} {S : World → Prop} {a : Act} {w : World} (v : Value) (hQ : ∀ c a w, Q (.panic c) (a.put (some 211) v) w → Q (.panic c) a w) (hy : YieldsIf Try.prog opsZ25 S qZ25_31 v a) (hS : S w)
    (h : wpAnyH Try.prog .any opsZ25 Q S 24 (LZ25 32) (a.put (some 211) v) w) : wpAnyH Try.prog .any opsZ25 Q S 25 (LZ25 31) a w :=
  wpAnyH_take (i := 31) hZ25_31 noselZ25 (by kernel_rfl) (by kernel_rfl) hQ hy hS (lZ25_31.symm ▸ h)
def qZ25_32 : Oper := { dst := some 212, op := Op.load 26 (Operand.tmp 23), type := 26, pos := "laws.go:348", after := #[{ on := 31, ground := Ground.guard }], guard := some (31, true) }
theorem hZ25_32 : opsZ25[32]? = some qZ25_32 := by kernel_rfl
theorem lZ25_32 : (LZ25 32).setIfInBounds 32 true = LZ25 33 := by kernel_rfl
theorem tZ25_32 {Q : Exit → Act → World → Prop} {S : World → Prop} {a : Act} {w : World} (v : Value) (hQ : ∀ c a w, Q (.panic c) (a.put (some 212) v) w → Q (.panic c) a w) (hy : YieldsIf Try.prog opsZ25 S qZ25_32 v a) (hS : S w)
    (h : wpAnyH Try.prog .any opsZ25 Q S 23 (LZ25 33) (a.put (some 212) v) w) : wpAnyH Try.prog .any opsZ25 Q S 24 (LZ25 32) a w :=
  wpAnyH_take (i := 32) hZ25_32 noselZ25 (by kernel_rfl) (by kernel_rfl) hQ hy hS (lZ25_32.symm ▸ h)
def qZ25_33 : Oper := { dst := some 213, op := Op.load 26 (Operand.tmp 24), type := 26, pos := "laws.go:348", after := #[{ on := 31, ground := Ground.guard }], guard := some (31, true) }
theorem hZ25_33 : opsZ25[33]? = some qZ25_33 := by kernel_rfl
theorem lZ25_33 : (LZ25 33).setIfInBounds 33 true = LZ25 34 := by kernel_rfl
theorem tZ25_33 {Q : Exit → Act → World → Prop} {S : World → Prop} {a : Act} {w : World} (v : Value) (hQ : ∀ c a w, Q (.panic c) (a.put (some 213) v) w → Q (.panic c) a w) (hy : YieldsIf Try.prog opsZ25 S qZ25_33 v a) (hS : S w)
    (h : wpAnyH Try.prog .any opsZ25 Q S 22 (LZ25 34) (a.put (some 213) v) w) : wpAnyH Try.prog .any opsZ25 Q S 23 (LZ25 33) a w :=
  wpAnyH_take (i := 33) hZ25_33 noselZ25 (by kernel_rfl) (by kernel_rfl) hQ hy hS (lZ25_33.symm ▸ h)
def qZ25_35 : Oper := { dst := some 215, op := Op.load 26 (Operand.tmp 23), type := 26, pos := "laws.go:348", after := #[{ on := 31, ground := Ground.guard }], guard := some (31, true) }
theorem hZ25_35 : opsZ25[35]? = some qZ25_35 := by kernel_rfl
theorem lZ25_34 : (LZ25 34).setIfInBounds 35 true = LZ25 35 := by kernel_rfl
theorem tZ25_34 {Q : Exit → Act → World → Prop} {S : World → Prop} {a : Act} {w : World} (v : Value) (hQ : ∀ c a w, Q (.panic c) (a.put (some 215) v) w → Q (.panic c) a w) (hy : YieldsIf Try.prog opsZ25 S qZ25_35 v a) (hS : S w)
    (h : wpAnyH Try.prog .any opsZ25 Q S 21 (LZ25 35) (a.put (some 215) v) w) : wpAnyH Try.prog .any opsZ25 Q S 22 (LZ25 34) a w :=
  wpAnyH_take (i := 35) hZ25_35 noselZ25 (by kernel_rfl) (by kernel_rfl) hQ hy hS (lZ25_34.symm ▸ h)
def qZ25_36 : Oper := { dst := some 216, op := Op.load 26 (Operand.tmp 24), type := 26, pos := "laws.go:348", after := #[{ on := 31, ground := Ground.guard }], guard := some (31, true) }
theorem hZ25_36 : opsZ25[36]? = some qZ25_36 := by kernel_rfl
theorem lZ25_35 : (LZ25 35).setIfInBounds 36 true = LZ25 36 := by kernel_rfl
theorem tZ25_35 {Q : Exit → Act → World → Prop} {S : World → Prop} {a : Act} {w : World} (v : Value) (hQ : ∀ c a w, Q (.panic c) (a.put (some 216) v) w → Q (.panic c) a w) (hy : YieldsIf Try.prog opsZ25 S qZ25_36 v a) (hS : S w)
    (h : wpAnyH Try.prog .any opsZ25 Q S 20 (LZ25 36) (a.put (some 216) v) w) : wpAnyH Try.prog .any opsZ25 Q S 21 (LZ25 35) a w :=
  wpAnyH_take (i := 36) hZ25_36 noselZ25 (by kernel_rfl) (by kernel_rfl) hQ hy hS (lZ25_35.symm ▸ h)
def qZ25_34 : Oper := { dst := some 214, op := Op.call { callee := Callee.value (Operand.func 27), args := #[Operand.tmp 212, Operand.tmp 213], argTypes := #[26, 26] }, type := 4, pos := "laws.go:348", after := #[{ on := 32, ground := Ground.data }, { on := 33, ground := Ground.data }, { on := 31, ground := Ground.chain }, { on := 31, ground := Ground.guard }], guard := some (31, true) }
theorem hZ25_34 : opsZ25[34]? = some qZ25_34 := by kernel_rfl
theorem lZ25_36 : (LZ25 36).setIfInBounds 34 true = LZ25 37 := by kernel_rfl
set_option maxRecDepth 100000 in
theorem cZ25_36 {Q : Exit → Act → World → Prop} {S : World → Prop} {a : Act} {w : World}
    (h : ∀ K' : Act → World → Prop, Shut (∀ a w, S w → (S w → wpAnyH Try.prog .any opsZ25 Q S 19 (LZ25 37) a w) → K' a w) → if Region.wanted qZ25_34 (yielded opsZ25 a.tmps) = true then Oper.wp Try.prog qZ25_34 a w K' Q else K' (a.put (some 214) undef) w) :
    wpAnyH Try.prog .any opsZ25 Q S 20 (LZ25 36) a w :=
  wpAnyH_ready (rs := [34]) (by kernel_rfl) (by simp) (AllReadyH.cons hZ25_34 (fun K' hK => h K' (lZ25_36 ▸ hK)) AllReadyH.nil)
theorem tZ25_36 {Q : Exit → Act → World → Prop} {S : World → Prop} {a : Act} {w : World} (v : Value) (hQ : ∀ c a w, Q (.panic c) (a.put (some 214) v) w → Q (.panic c) a w) (hy : YieldsIf Try.prog opsZ25 S qZ25_34 v a) (hS : S w)
    (h : wpAnyH Try.prog .any opsZ25 Q S 19 (LZ25 37) (a.put (some 214) v) w) : wpAnyH Try.prog .any opsZ25 Q S 20 (LZ25 36) a w :=
  wpAnyH_take (i := 34) hZ25_34 noselZ25 (by kernel_rfl) (by kernel_rfl) hQ hy hS (lZ25_36.symm ▸ h)
def qZ25_37 : Oper := { dst := some 217, op := Op.call { callee := Callee.value (Operand.func 13), args := #[Operand.tmp 215, Operand.tmp 216], argTypes := #[26, 26] }, type := 4, pos := "laws.go:348", after := #[{ on := 35, ground := Ground.data }, { on := 36, ground := Ground.data }, { on := 34, ground := Ground.chain }, { on := 31, ground := Ground.guard }], guard := some (31, true) }
theorem hZ25_37 : opsZ25[37]? = some qZ25_37 := by kernel_rfl
theorem lZ25_37 : (LZ25 37).setIfInBounds 37 true = LZ25 38 := by kernel_rfl
set_option maxRecDepth 100000 in
theorem cZ25_37 {Q : Exit → Act → World → Prop} {S : World → Prop} {a : Act} {w : World}
    (h : ∀ K' : Act → World → Prop, Shut (∀ a w, S w → (S w → wpAnyH Try.prog .any opsZ25 Q S 18 (LZ25 38) a w) → K' a w) → if Region.wanted qZ25_37 (yielded opsZ25 a.tmps) = true then Oper.wp Try.prog qZ25_37 a w K' Q else K' (a.put (some 217) undef) w) :
    wpAnyH Try.prog .any opsZ25 Q S 19 (LZ25 37) a w :=
  wpAnyH_ready (rs := [37]) (by kernel_rfl) (by simp) (AllReadyH.cons hZ25_37 (fun K' hK => h K' (lZ25_37 ▸ hK)) AllReadyH.nil)
theorem tZ25_37 {Q : Exit → Act → World → Prop} {S : World → Prop} {a : Act} {w : World} (v : Value) (hQ : ∀ c a w, Q (.panic c) (a.put (some 217) v) w → Q (.panic c) a w) (hy : YieldsIf Try.prog opsZ25 S qZ25_37 v a) (hS : S w)
    (h : wpAnyH Try.prog .any opsZ25 Q S 18 (LZ25 38) (a.put (some 217) v) w) : wpAnyH Try.prog .any opsZ25 Q S 19 (LZ25 37) a w :=
  wpAnyH_take (i := 37) hZ25_37 noselZ25 (by kernel_rfl) (by kernel_rfl) hQ hy hS (lZ25_37.symm ▸ h)
def qZ25_38 : Oper := { dst := some 218, op := Op.binOp BinOp.eql 4 (Operand.tmp 214) (Operand.tmp 217) 4, type := 4, pos := "laws.go:348", after := #[{ on := 34, ground := Ground.data }, { on := 37, ground := Ground.data }, { on := 31, ground := Ground.guard }], guard := some (31, true) }
theorem hZ25_38 : opsZ25[38]? = some qZ25_38 := by kernel_rfl
theorem lZ25_38 : (LZ25 38).setIfInBounds 38 true = LZ25 39 := by kernel_rfl
theorem tZ25_38 {Q : Exit → Act → World → Prop} {S : World → Prop} {a : Act} {w : World} (v : Value) (hQ : ∀ c a w, Q (.panic c) (a.put (some 218) v) w → Q (.panic c) a w) (hy : YieldsIf Try.prog opsZ25 S qZ25_38 v a) (hS : S w)
    (h : wpAnyH Try.prog .any opsZ25 Q S 17 (LZ25 39) (a.put (some 218) v) w) : wpAnyH Try.prog .any opsZ25 Q S 18 (LZ25 38) a w :=
  wpAnyH_take (i := 38) hZ25_38 noselZ25 (by kernel_rfl) (by kernel_rfl) hQ hy hS (lZ25_38.symm ▸ h)
def qZ25_39 : Oper := { dst := some 219, op := Op.pick (Operand.tmp 211) (Operand.tmp 218) (Operand.const (Value.bool false)), type := 4, pos := "laws.go:348", after := #[{ on := 31, ground := Ground.data }, { on := 38, ground := Ground.data }], guard := none }
theorem hZ25_39 : opsZ25[39]? = some qZ25_39 := by kernel_rfl
theorem lZ25_39 : (LZ25 39).setIfInBounds 39 true = LZ25 40 := by kernel_rfl
theorem tZ25_39 {Q : Exit → Act → World → Prop} {S : World → Prop} {a : Act} {w : World} (v : Value) (hQ : ∀ c a w, Q (.panic c) (a.put (some 219) v) w → Q (.panic c) a w) (hy : YieldsIf Try.prog opsZ25 S qZ25_39 v a) (hS : S w)
    (h : wpAnyH Try.prog .any opsZ25 Q S 16 (LZ25 40) (a.put (some 219) v) w) : wpAnyH Try.prog .any opsZ25 Q S 17 (LZ25 39) a w :=
  wpAnyH_take (i := 39) hZ25_39 noselZ25 (by kernel_rfl) (by kernel_rfl) hQ hy hS (lZ25_39.symm ▸ h)
def qZ25_40 : Oper := { dst := some 220, op := Op.move (Operand.tmp 219), type := 4, pos := "laws.go:348", after := #[{ on := 39, ground := Ground.data }, { on := 37, ground := Ground.chain }], guard := none }
theorem hZ25_40 : opsZ25[40]? = some qZ25_40 := by kernel_rfl
theorem lZ25_40 : (LZ25 40).setIfInBounds 40 true = LZ25 41 := by kernel_rfl
theorem tZ25_40 {Q : Exit → Act → World → Prop} {S : World → Prop} {a : Act} {w : World} (v : Value) (hQ : ∀ c a w, Q (.panic c) (a.put (some 220) v) w → Q (.panic c) a w) (hy : YieldsIf Try.prog opsZ25 S qZ25_40 v a) (hS : S w)
    (h : wpAnyH Try.prog .any opsZ25 Q S 15 (LZ25 41) (a.put (some 220) v) w) : wpAnyH Try.prog .any opsZ25 Q S 16 (LZ25 40) a w :=
  wpAnyH_take (i := 40) hZ25_40 noselZ25 (by kernel_rfl) (by kernel_rfl) hQ hy hS (lZ25_40.symm ▸ h)
def qZ25_41 : Oper := { dst := some 221, op := Op.move (Operand.tmp 31), type := 4, pos := "laws.go:348", after := #[{ on := 40, ground := Ground.guard }], guard := some (40, true) }
theorem hZ25_41 : opsZ25[41]? = some qZ25_41 := by kernel_rfl
theorem lZ25_41 : (LZ25 41).setIfInBounds 41 true = LZ25 42 := by kernel_rfl
theorem tZ25_41 {Q : Exit → Act → World → Prop} {S : World → Prop} {a : Act} {w : World} (v : Value) (hQ : ∀ c a w, Q (.panic c) (a.put (some 221) v) w → Q (.panic c) a w) (hy : YieldsIf Try.prog opsZ25 S qZ25_41 v a) (hS : S w)
    (h : wpAnyH Try.prog .any opsZ25 Q S 14 (LZ25 42) (a.put (some 221) v) w) : wpAnyH Try.prog .any opsZ25 Q S 15 (LZ25 41) a w :=
  wpAnyH_take (i := 41) hZ25_41 noselZ25 (by kernel_rfl) (by kernel_rfl) hQ hy hS (lZ25_41.symm ▸ h)
def qZ25_42 : Oper := { dst := some 222, op := Op.unOp UnOp.not 4 (Operand.tmp 221), type := 4, pos := "laws.go:348", after := #[{ on := 41, ground := Ground.data }, { on := 40, ground := Ground.guard }], guard := some (40, true) }
theorem hZ25_42 : opsZ25[42]? = some qZ25_42 := by kernel_rfl
theorem lZ25_42 : (LZ25 42).setIfInBounds 42 true = LZ25 43 := by kernel_rfl
theorem tZ25_42 {Q : Exit → Act → World → Prop} {S : World → Prop} {a : Act} {w : World} (v : Value) (hQ : ∀ c a w, Q (.panic c) (a.put (some 222) v) w → Q (.panic c) a w) (hy : YieldsIf Try.prog opsZ25 S qZ25_42 v a) (hS : S w)
    (h : wpAnyH Try.prog .any opsZ25 Q S 13 (LZ25 43) (a.put (some 222) v) w) : wpAnyH Try.prog .any opsZ25 Q S 14 (LZ25 42) a w :=
  wpAnyH_take (i := 42) hZ25_42 noselZ25 (by kernel_rfl) (by kernel_rfl) hQ hy hS (lZ25_42.symm ▸ h)
def qZ25_43 : Oper := { dst := some 223, op := Op.pick (Operand.tmp 220) (Operand.tmp 222) (Operand.const (Value.bool false)), type := 4, pos := "laws.go:348", after := #[{ on := 40, ground := Ground.data }, { on := 42, ground := Ground.data }], guard := none }
theorem hZ25_43 : opsZ25[43]? = some qZ25_43 := by kernel_rfl
theorem lZ25_43 : (LZ25 43).setIfInBounds 43 true = LZ25 44 := by kernel_rfl
theorem tZ25_43 {Q : Exit → Act → World → Prop} {S : World → Prop} {a : Act} {w : World} (v : Value) (hQ : ∀ c a w, Q (.panic c) (a.put (some 223) v) w → Q (.panic c) a w) (hy : YieldsIf Try.prog opsZ25 S qZ25_43 v a) (hS : S w)
    (h : wpAnyH Try.prog .any opsZ25 Q S 12 (LZ25 44) (a.put (some 223) v) w) : wpAnyH Try.prog .any opsZ25 Q S 13 (LZ25 43) a w :=
  wpAnyH_take (i := 43) hZ25_43 noselZ25 (by kernel_rfl) (by kernel_rfl) hQ hy hS (lZ25_43.symm ▸ h)
def qZ25_44 : Oper := { dst := some 224, op := Op.move (Operand.tmp 223), type := 4, pos := "laws.go:348", after := #[{ on := 43, ground := Ground.data }, { on := 40, ground := Ground.chain }], guard := none }
theorem hZ25_44 : opsZ25[44]? = some qZ25_44 := by kernel_rfl
theorem lZ25_44 : (LZ25 44).setIfInBounds 44 true = LZ25 45 := by kernel_rfl
theorem tZ25_44 {Q : Exit → Act → World → Prop} {S : World → Prop} {a : Act} {w : World} (v : Value) (hQ : ∀ c a w, Q (.panic c) (a.put (some 224) v) w → Q (.panic c) a w) (hy : YieldsIf Try.prog opsZ25 S qZ25_44 v a) (hS : S w)
    (h : wpAnyH Try.prog .any opsZ25 Q S 11 (LZ25 45) (a.put (some 224) v) w) : wpAnyH Try.prog .any opsZ25 Q S 12 (LZ25 44) a w :=
  wpAnyH_take (i := 44) hZ25_44 noselZ25 (by kernel_rfl) (by kernel_rfl) hQ hy hS (lZ25_44.symm ▸ h)
def qZ25_45 : Oper := { dst := some 225, op := Op.load 30 (Operand.tmp 33), type := 30, pos := "laws.go:348", after := #[{ on := 44, ground := Ground.guard }], guard := some (44, true) }
theorem hZ25_45 : opsZ25[45]? = some qZ25_45 := by kernel_rfl
theorem lZ25_45 : (LZ25 45).setIfInBounds 45 true = LZ25 46 := by kernel_rfl
theorem tZ25_45 {Q : Exit → Act → World → Prop} {S : World → Prop} {a : Act} {w : World} (v : Value) (hQ : ∀ c a w, Q (.panic c) (a.put (some 225) v) w → Q (.panic c) a w) (hy : YieldsIf Try.prog opsZ25 S qZ25_45 v a) (hS : S w)
    (h : wpAnyH Try.prog .any opsZ25 Q S 10 (LZ25 46) (a.put (some 225) v) w) : wpAnyH Try.prog .any opsZ25 Q S 11 (LZ25 45) a w :=
  wpAnyH_take (i := 45) hZ25_45 noselZ25 (by kernel_rfl) (by kernel_rfl) hQ hy hS (lZ25_45.symm ▸ h)
def qZ25_46 : Oper := { dst := some 226, op := Op.build 30 #[], type := 30, pos := "laws.go:348", after := #[{ on := 44, ground := Ground.guard }], guard := some (44, true) }
theorem hZ25_46 : opsZ25[46]? = some qZ25_46 := by kernel_rfl
theorem lZ25_46 : (LZ25 46).setIfInBounds 46 true = LZ25 47 := by kernel_rfl
theorem tZ25_46 {Q : Exit → Act → World → Prop} {S : World → Prop} {a : Act} {w : World} (v : Value) (hQ : ∀ c a w, Q (.panic c) (a.put (some 226) v) w → Q (.panic c) a w) (hy : YieldsIf Try.prog opsZ25 S qZ25_46 v a) (hS : S w)
    (h : wpAnyH Try.prog .any opsZ25 Q S 9 (LZ25 47) (a.put (some 226) v) w) : wpAnyH Try.prog .any opsZ25 Q S 10 (LZ25 46) a w :=
  wpAnyH_take (i := 46) hZ25_46 noselZ25 (by kernel_rfl) (by kernel_rfl) hQ hy hS (lZ25_46.symm ▸ h)
def qZ25_47 : Oper := { dst := some 227, op := Op.binOp BinOp.eql 30 (Operand.tmp 225) (Operand.tmp 226) 30, type := 4, pos := "laws.go:348", after := #[{ on := 45, ground := Ground.data }, { on := 46, ground := Ground.data }, { on := 44, ground := Ground.guard }], guard := some (44, true) }
theorem hZ25_47 : opsZ25[47]? = some qZ25_47 := by kernel_rfl
theorem lZ25_47 : (LZ25 47).setIfInBounds 47 true = LZ25 48 := by kernel_rfl
theorem tZ25_47 {Q : Exit → Act → World → Prop} {S : World → Prop} {a : Act} {w : World} (v : Value) (hQ : ∀ c a w, Q (.panic c) (a.put (some 227) v) w → Q (.panic c) a w) (hy : YieldsIf Try.prog opsZ25 S qZ25_47 v a) (hS : S w)
    (h : wpAnyH Try.prog .any opsZ25 Q S 8 (LZ25 48) (a.put (some 227) v) w) : wpAnyH Try.prog .any opsZ25 Q S 9 (LZ25 47) a w :=
  wpAnyH_take (i := 47) hZ25_47 noselZ25 (by kernel_rfl) (by kernel_rfl) hQ hy hS (lZ25_47.symm ▸ h)
def qZ25_48 : Oper := { dst := some 228, op := Op.pick (Operand.tmp 224) (Operand.tmp 227) (Operand.const (Value.bool false)), type := 4, pos := "laws.go:348", after := #[{ on := 44, ground := Ground.data }, { on := 47, ground := Ground.data }], guard := none }
theorem hZ25_48 : opsZ25[48]? = some qZ25_48 := by kernel_rfl
theorem lZ25_48 : (LZ25 48).setIfInBounds 48 true = LZ25 49 := by kernel_rfl
theorem tZ25_48 {Q : Exit → Act → World → Prop} {S : World → Prop} {a : Act} {w : World} (v : Value) (hQ : ∀ c a w, Q (.panic c) (a.put (some 228) v) w → Q (.panic c) a w) (hy : YieldsIf Try.prog opsZ25 S qZ25_48 v a) (hS : S w)
    (h : wpAnyH Try.prog .any opsZ25 Q S 7 (LZ25 49) (a.put (some 228) v) w) : wpAnyH Try.prog .any opsZ25 Q S 8 (LZ25 48) a w :=
  wpAnyH_take (i := 48) hZ25_48 noselZ25 (by kernel_rfl) (by kernel_rfl) hQ hy hS (lZ25_48.symm ▸ h)
def qZ25_49 : Oper := { dst := some 229, op := Op.move (Operand.tmp 228), type := 4, pos := "laws.go:348", after := #[{ on := 48, ground := Ground.data }, { on := 44, ground := Ground.chain }], guard := none }
theorem hZ25_49 : opsZ25[49]? = some qZ25_49 := by kernel_rfl
theorem lZ25_49 : (LZ25 49).setIfInBounds 49 true = LZ25 50 := by kernel_rfl
theorem tZ25_49 {Q : Exit → Act → World → Prop} {S : World → Prop} {a : Act} {w : World} (v : Value) (hQ : ∀ c a w, Q (.panic c) (a.put (some 229) v) w → Q (.panic c) a w) (hy : YieldsIf Try.prog opsZ25 S qZ25_49 v a) (hS : S w)
    (h : wpAnyH Try.prog .any opsZ25 Q S 6 (LZ25 50) (a.put (some 229) v) w) : wpAnyH Try.prog .any opsZ25 Q S 7 (LZ25 49) a w :=
  wpAnyH_take (i := 49) hZ25_49 noselZ25 (by kernel_rfl) (by kernel_rfl) hQ hy hS (lZ25_49.symm ▸ h)
def qZ25_50 : Oper := { dst := some 230, op := Op.fieldAddr 26 (Operand.tmp 28) 1, type := 0, pos := "laws.go:348", after := #[{ on := 49, ground := Ground.guard }], guard := some (49, true) }
theorem hZ25_50 : opsZ25[50]? = some qZ25_50 := by kernel_rfl
theorem lZ25_50 : (LZ25 50).setIfInBounds 50 true = LZ25 51 := by kernel_rfl
theorem tZ25_50 {Q : Exit → Act → World → Prop} {S : World → Prop} {a : Act} {w : World} (v : Value) (hQ : ∀ c a w, Q (.panic c) (a.put (some 230) v) w → Q (.panic c) a w) (hy : YieldsIf Try.prog opsZ25 S qZ25_50 v a) (hS : S w)
    (h : wpAnyH Try.prog .any opsZ25 Q S 5 (LZ25 51) (a.put (some 230) v) w) : wpAnyH Try.prog .any opsZ25 Q S 6 (LZ25 50) a w :=
  wpAnyH_take (i := 50) hZ25_50 noselZ25 (by kernel_rfl) (by kernel_rfl) hQ hy hS (lZ25_50.symm ▸ h)
def qZ25_51 : Oper := { dst := some 231, op := Op.load 24 (Operand.tmp 230), type := 24, pos := "laws.go:348", after := #[{ on := 50, ground := Ground.data }, { on := 49, ground := Ground.guard }], guard := some (49, true) }
theorem hZ25_51 : opsZ25[51]? = some qZ25_51 := by kernel_rfl
theorem lZ25_51 : (LZ25 51).setIfInBounds 51 true = LZ25 52 := by kernel_rfl
theorem tZ25_51 {Q : Exit → Act → World → Prop} {S : World → Prop} {a : Act} {w : World} (v : Value) (hQ : ∀ c a w, Q (.panic c) (a.put (some 231) v) w → Q (.panic c) a w) (hy : YieldsIf Try.prog opsZ25 S qZ25_51 v a) (hS : S w)
    (h : wpAnyH Try.prog .any opsZ25 Q S 4 (LZ25 52) (a.put (some 231) v) w) : wpAnyH Try.prog .any opsZ25 Q S 5 (LZ25 51) a w :=
  wpAnyH_take (i := 51) hZ25_51 noselZ25 (by kernel_rfl) (by kernel_rfl) hQ hy hS (lZ25_51.symm ▸ h)
def qZ25_52 : Oper := { dst := some 232, op := Op.call { callee := Callee.builtin Builtin.len, args := #[Operand.tmp 231], argTypes := #[24] }, type := 3, pos := "laws.go:348", after := #[{ on := 51, ground := Ground.data }, { on := 49, ground := Ground.guard }], guard := some (49, true) }
theorem hZ25_52 : opsZ25[52]? = some qZ25_52 := by kernel_rfl
theorem lZ25_52 : (LZ25 52).setIfInBounds 52 true = LZ25 53 := by kernel_rfl
theorem tZ25_52 {Q : Exit → Act → World → Prop} {S : World → Prop} {a : Act} {w : World} (v : Value) (hQ : ∀ c a w, Q (.panic c) (a.put (some 232) v) w → Q (.panic c) a w) (hy : YieldsIf Try.prog opsZ25 S qZ25_52 v a) (hS : S w)
    (h : wpAnyH Try.prog .any opsZ25 Q S 3 (LZ25 53) (a.put (some 232) v) w) : wpAnyH Try.prog .any opsZ25 Q S 4 (LZ25 52) a w :=
  wpAnyH_take (i := 52) hZ25_52 noselZ25 (by kernel_rfl) (by kernel_rfl) hQ hy hS (lZ25_52.symm ▸ h)
def qZ25_53 : Oper := { dst := some 233, op := Op.binOp BinOp.eql 3 (Operand.tmp 232) (Operand.const (Value.int IntKind.i64 2)) 3, type := 4, pos := "laws.go:348", after := #[{ on := 52, ground := Ground.data }, { on := 49, ground := Ground.guard }], guard := some (49, true) }
theorem hZ25_53 : opsZ25[53]? = some qZ25_53 := by kernel_rfl
theorem lZ25_53 : (LZ25 53).setIfInBounds 53 true = LZ25 54 := by kernel_rfl
theorem tZ25_53 {Q : Exit → Act → World → Prop} {S : World → Prop} {a : Act} {w : World} (v : Value) (hQ : ∀ c a w, Q (.panic c) (a.put (some 233) v) w → Q (.panic c) a w) (hy : YieldsIf Try.prog opsZ25 S qZ25_53 v a) (hS : S w)
    (h : wpAnyH Try.prog .any opsZ25 Q S 2 (LZ25 54) (a.put (some 233) v) w) : wpAnyH Try.prog .any opsZ25 Q S 3 (LZ25 53) a w :=
  wpAnyH_take (i := 53) hZ25_53 noselZ25 (by kernel_rfl) (by kernel_rfl) hQ hy hS (lZ25_53.symm ▸ h)
def qZ25_54 : Oper := { dst := some 234, op := Op.pick (Operand.tmp 229) (Operand.tmp 233) (Operand.const (Value.bool false)), type := 4, pos := "laws.go:348", after := #[{ on := 49, ground := Ground.data }, { on := 53, ground := Ground.data }], guard := none }
theorem hZ25_54 : opsZ25[54]? = some qZ25_54 := by kernel_rfl
theorem lZ25_54 : (LZ25 54).setIfInBounds 54 true = LZ25 55 := by kernel_rfl
theorem tZ25_54 {Q : Exit → Act → World → Prop} {S : World → Prop} {a : Act} {w : World} (v : Value) (hQ : ∀ c a w, Q (.panic c) (a.put (some 234) v) w → Q (.panic c) a w) (hy : YieldsIf Try.prog opsZ25 S qZ25_54 v a) (hS : S w)
    (h : wpAnyH Try.prog .any opsZ25 Q S 1 (LZ25 55) (a.put (some 234) v) w) : wpAnyH Try.prog .any opsZ25 Q S 2 (LZ25 54) a w :=
  wpAnyH_take (i := 54) hZ25_54 noselZ25 (by kernel_rfl) (by kernel_rfl) hQ hy hS (lZ25_54.symm ▸ h)
def qZ25_55 : Oper := { dst := some 2, op := Op.assign (Operand.tmp 234), type := 4, pos := "laws.go:348", after := #[{ on := 54, ground := Ground.data }, { on := 49, ground := Ground.chain }, { on := 0, ground := Ground.phase }, { on := 1, ground := Ground.phase }, { on := 2, ground := Ground.phase }, { on := 3, ground := Ground.phase }, { on := 4, ground := Ground.phase }, { on := 5, ground := Ground.phase }, { on := 6, ground := Ground.phase }, { on := 7, ground := Ground.phase }, { on := 8, ground := Ground.phase }, { on := 9, ground := Ground.phase }, { on := 10, ground := Ground.phase }, { on := 11, ground := Ground.phase }, { on := 12, ground := Ground.phase }, { on := 13, ground := Ground.phase }, { on := 14, ground := Ground.phase }, { on := 15, ground := Ground.phase }, { on := 16, ground := Ground.phase }, { on := 17, ground := Ground.phase }, { on := 18, ground := Ground.phase }, { on := 19, ground := Ground.phase }, { on := 20, ground := Ground.phase }, { on := 21, ground := Ground.phase }, { on := 22, ground := Ground.phase }, { on := 23, ground := Ground.phase }, { on := 24, ground := Ground.phase }, { on := 25, ground := Ground.phase }, { on := 26, ground := Ground.phase }, { on := 27, ground := Ground.phase }, { on := 28, ground := Ground.phase }, { on := 29, ground := Ground.phase }, { on := 30, ground := Ground.phase }, { on := 31, ground := Ground.phase }, { on := 32, ground := Ground.phase }, { on := 33, ground := Ground.phase }, { on := 34, ground := Ground.phase }, { on := 35, ground := Ground.phase }, { on := 36, ground := Ground.phase }, { on := 37, ground := Ground.phase }, { on := 38, ground := Ground.phase }, { on := 39, ground := Ground.phase }, { on := 40, ground := Ground.phase }, { on := 41, ground := Ground.phase }, { on := 42, ground := Ground.phase }, { on := 43, ground := Ground.phase }, { on := 44, ground := Ground.phase }, { on := 45, ground := Ground.phase }, { on := 46, ground := Ground.phase }, { on := 47, ground := Ground.phase }, { on := 48, ground := Ground.phase }, { on := 49, ground := Ground.phase }, { on := 50, ground := Ground.phase }, { on := 51, ground := Ground.phase }, { on := 52, ground := Ground.phase }, { on := 53, ground := Ground.phase }, { on := 54, ground := Ground.phase }], guard := none }
theorem hZ25_55 : opsZ25[55]? = some qZ25_55 := by kernel_rfl
theorem lZ25_55 : (LZ25 55).setIfInBounds 55 true = LZ25 56 := by kernel_rfl
theorem tZ25_55 {Q : Exit → Act → World → Prop} {S : World → Prop} {a : Act} {w : World} (v : Value) (hQ : ∀ c a w, Q (.panic c) (a.put (some 2) v) w → Q (.panic c) a w) (hy : YieldsIf Try.prog opsZ25 S qZ25_55 v a) (hS : S w)
    (h : wpAnyH Try.prog .any opsZ25 Q S 0 (LZ25 56) (a.put (some 2) v) w) : wpAnyH Try.prog .any opsZ25 Q S 1 (LZ25 55) a w :=
  wpAnyH_take (i := 55) hZ25_55 noselZ25 (by kernel_rfl) (by kernel_rfl) hQ hy hS (lZ25_55.symm ▸ h)
end Go.Proofs.Ythkkleicekhelaa.hexes
