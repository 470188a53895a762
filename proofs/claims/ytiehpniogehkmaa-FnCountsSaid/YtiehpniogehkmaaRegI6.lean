/-
  A statement of impl.CountsOk: its operations, and a theorem a step.
-/
import Derived.Test.YtiehpniogehkmaaProg
import Derived.WalkKit
import Derived.Deep.RegionHeld3
namespace Go.Proofs.Ytiehpniogehkmaa.hexes
open Go.RowKit

def findI6 (n : Nat) : Code → Option Code
  | .region id ops d => if id = n then some (.region id ops d) else none
  | .seq a b => match findI6 n a with
    | some c => some c
    | none => findI6 n b
  | .block _ c => findI6 n c
  | .scope c => findI6 n c
  | .loop c => findI6 n c
  | .cond _ a b => match findI6 n a with
    | some c => some c
    | none => findI6 n b
  | _ => none
def opsOfI6 : Option Code → Array Oper
  | some (.region _ ops _) => ops
  | _ => #[]
noncomputable def opsI6 : Array Oper := opsOfI6 (Try.f16.body.bind (findI6 6))
def schI6 : List Nat := [0, 1, 2, 3, 4, 5, 6, 7, 8, 9, 10, 11, 12, 13]
def LI6 (k : Nat) : Array Bool := ((List.range 14).map fun i => (schI6.take k).contains i).toArray
theorem noselI6 : Region.noSelect opsI6 = true := by kernel_rfl
def qI6_0 : Oper := { dst := some 27, op := Op.move (Operand.tmp 3), type := 3, pos := "l04_counts.go:23", after := #[], guard := none }
theorem hI6_0 : opsI6[0]? = some qI6_0 := by kernel_rfl
theorem lI6_0 : (LI6 0).setIfInBounds 0 true = LI6 1 := by kernel_rfl
theorem tI6_0 {Q : Exit → Act → World → Prop} {S : World → Prop} {a : Act} {w : World} (v : Value) (hQ : ∀ c a w, Q (.panic c) (a.put (some 27) v) w → Q (.panic c) a w) (hy : YieldsIf Try.prog opsI6 S qI6_0 v a) (hS : S w)
    (h : wpAnyH Try.prog .any opsI6 Q S 13 (LI6 1) (a.put (some 27) v) w) : wpAnyH Try.prog .any opsI6 Q S 14 (LI6 0) a w :=
  wpAnyH_take (i := 0) hI6_0 noselI6 (by kernel_rfl) (by kernel_rfl) hQ hy hS (lI6_0.symm ▸ h)
def qI6_1 : Oper := { dst := some 28, op := Op.binOp BinOp.gtr 3 (Operand.tmp 27) (Operand.const (Value.int IntKind.i64 0)) 3, type := 4, pos := "l04_counts.go:23", after := #[{ on := 0, ground := Ground.data }], guard := none }
theorem hI6_1 : opsI6[1]? = some qI6_1 := by kernel_rfl
theorem lI6_1 : (LI6 1).setIfInBounds 1 true = LI6 2 := by kernel_rfl
theorem tI6_1 {Q : Exit → Act → World → Prop} {S : World → Prop} {a : Act} {w : World} (v : Value) (hQ : ∀ c a w, Q (.panic c) (a.put (some 28) v) w → Q (.panic c) a w) (hy : YieldsIf Try.prog opsI6 S qI6_1 v a) (hS : S w)
    (h : wpAnyH Try.prog .any opsI6 Q S 12 (LI6 2) (a.put (some 28) v) w) : wpAnyH Try.prog .any opsI6 Q S 13 (LI6 1) a w :=
  wpAnyH_take (i := 1) hI6_1 noselI6 (by kernel_rfl) (by kernel_rfl) hQ hy hS (lI6_1.symm ▸ h)
def qI6_2 : Oper := { dst := some 29, op := Op.move (Operand.tmp 28), type := 4, pos := "l04_counts.go:23", after := #[{ on := 1, ground := Ground.data }], guard := none }
theorem hI6_2 : opsI6[2]? = some qI6_2 := by kernel_rfl
theorem lI6_2 : (LI6 2).setIfInBounds 2 true = LI6 3 := by kernel_rfl
theorem tI6_2 {Q : Exit → Act → World → Prop} {S : World → Prop} {a : Act} {w : World} (v : Value) (hQ : ∀ c a w, Q (.panic c) (a.put (some 29) v) w → Q (.panic c) a w) (hy : YieldsIf Try.prog opsI6 S qI6_2 v a) (hS : S w)
    (h : wpAnyH Try.prog .any opsI6 Q S 11 (LI6 3) (a.put (some 29) v) w) : wpAnyH Try.prog .any opsI6 Q S 12 (LI6 2) a w :=
  wpAnyH_take (i := 2) hI6_2 noselI6 (by kernel_rfl) (by kernel_rfl) hQ hy hS (lI6_2.symm ▸ h)
def qI6_3 : Oper := { dst := some 30, op := Op.move (Operand.tmp 0), type := 24, pos := "l04_counts.go:23", after := #[{ on := 2, ground := Ground.guard }], guard := some (2, true) }
theorem hI6_3 : opsI6[3]? = some qI6_3 := by kernel_rfl
theorem lI6_3 : (LI6 3).setIfInBounds 3 true = LI6 4 := by kernel_rfl
theorem tI6_3 {Q : Exit → Act → World → Prop} {S : World → Prop} {a : Act} {w : World} (v : Value) (hQ : ∀ c a w, Q (.panic c) (a.put (some 30) v) w → Q (.panic c) a w) (hy : YieldsIf Try.prog opsI6 S qI6_3 v a) (hS : S w)
    (h : wpAnyH Try.prog .any opsI6 Q S 10 (LI6 4) (a.put (some 30) v) w) : wpAnyH Try.prog .any opsI6 Q S 11 (LI6 3) a w :=
  wpAnyH_take (i := 3) hI6_3 noselI6 (by kernel_rfl) (by kernel_rfl) hQ hy hS (lI6_3.symm ▸ h)
def qI6_4 : Oper := { dst := some 31, op := Op.move (Operand.tmp 3), type := 3, pos := "l04_counts.go:23", after := #[{ on := 2, ground := Ground.guard }], guard := some (2, true) }
theorem hI6_4 : opsI6[4]? = some qI6_4 := by kernel_rfl
theorem lI6_4 : (LI6 4).setIfInBounds 4 true = LI6 5 := by kernel_rfl
theorem tI6_4 {Q : Exit → Act → World → Prop} {S : World → Prop} {a : Act} {w : World} (v : Value) (hQ : ∀ c a w, Q (.panic c) (a.put (some 31) v) w → Q (.panic c) a w) (hy : YieldsIf Try.prog opsI6 S qI6_4 v a) (hS : S w)
    (h : wpAnyH Try.prog .any opsI6 Q S 9 (LI6 5) (a.put (some 31) v) w) : wpAnyH Try.prog .any opsI6 Q S 10 (LI6 4) a w :=
  wpAnyH_take (i := 4) hI6_4 noselI6 (by kernel_rfl) (by kernel_rfl) hQ hy hS (lI6_4.symm ▸ h)
def qI6_5 : Oper := { dst := some 32, op := Op.binOp BinOp.sub 3 (Operand.tmp 31) (Operand.const (Value.int IntKind.i64 1)) 3, type := 3, pos := "l04_counts.go:23", after := #[{ on := 4, ground := Ground.data }, { on := 2, ground := Ground.guard }], guard := some (2, true) }
theorem hI6_5 : opsI6[5]? = some qI6_5 := by kernel_rfl
theorem lI6_5 : (LI6 5).setIfInBounds 5 true = LI6 6 := by kernel_rfl
theorem tI6_5 {Q : Exit → Act → World → Prop} {S : World → Prop} {a : Act} {w : World} (v : Value) (hQ : ∀ c a w, Q (.panic c) (a.put (some 32) v) w → Q (.panic c) a w) (hy : YieldsIf Try.prog opsI6 S qI6_5 v a) (hS : S w)
    (h : wpAnyH Try.prog .any opsI6 Q S 8 (LI6 6) (a.put (some 32) v) w) : wpAnyH Try.prog .any opsI6 Q S 9 (LI6 5) a w :=
  wpAnyH_take (i := 5) hI6_5 noselI6 (by kernel_rfl) (by kernel_rfl) hQ hy hS (lI6_5.symm ▸ h)
def qI6_6 : Oper := { dst := some 33, op := Op.indexAddr 24 (Operand.tmp 30) (Operand.tmp 32), type := 0, pos := "l04_counts.go:23", after := #[{ on := 3, ground := Ground.data }, { on := 5, ground := Ground.data }, { on := 2, ground := Ground.guard }], guard := some (2, true) }
theorem hI6_6 : opsI6[6]? = some qI6_6 := by kernel_rfl
theorem lI6_6 : (LI6 6).setIfInBounds 6 true = LI6 7 := by kernel_rfl
theorem tI6_6 {Q : Exit → Act → World → Prop} {S : World → Prop} {a : Act} {w : World} (v : Value) (hQ : ∀ c a w, Q (.panic c) (a.put (some 33) v) w → Q (.panic c) a w) (hy : YieldsIf Try.prog opsI6 S qI6_6 v a) (hS : S w)
    (h : wpAnyH Try.prog .any opsI6 Q S 7 (LI6 7) (a.put (some 33) v) w) : wpAnyH Try.prog .any opsI6 Q S 8 (LI6 6) a w :=
  wpAnyH_take (i := 6) hI6_6 noselI6 (by kernel_rfl) (by kernel_rfl) hQ hy hS (lI6_6.symm ▸ h)
def qI6_7 : Oper := { dst := some 34, op := Op.fieldAddr 62 (Operand.tmp 33) 0, type := 0, pos := "l04_counts.go:23", after := #[{ on := 6, ground := Ground.data }, { on := 2, ground := Ground.guard }], guard := some (2, true) }
theorem hI6_7 : opsI6[7]? = some qI6_7 := by kernel_rfl
theorem lI6_7 : (LI6 7).setIfInBounds 7 true = LI6 8 := by kernel_rfl
theorem tI6_7 {Q : Exit → Act → World → Prop} {S : World → Prop} {a : Act} {w : World} (v : Value) (hQ : ∀ c a w, Q (.panic c) (a.put (some 34) v) w → Q (.panic c) a w) (hy : YieldsIf Try.prog opsI6 S qI6_7 v a) (hS : S w)
    (h : wpAnyH Try.prog .any opsI6 Q S 6 (LI6 8) (a.put (some 34) v) w) : wpAnyH Try.prog .any opsI6 Q S 7 (LI6 7) a w :=
  wpAnyH_take (i := 7) hI6_7 noselI6 (by kernel_rfl) (by kernel_rfl) hQ hy hS (lI6_7.symm ▸ h)
def qI6_8 : Oper := { dst := some 35, op := Op.load 26 (Operand.tmp 34), type := 26, pos := "l04_counts.go:23", after := #[{ on := 7, ground := Ground.data }, { on := 2, ground := Ground.guard }], guard := some (2, true) }
theorem hI6_8 : opsI6[8]? = some qI6_8 := by kernel_rfl
theorem lI6_8 : (LI6 8).setIfInBounds 8 true = LI6 9 := by kernel_rfl
theorem tI6_8 {Q : Exit → Act → World → Prop} {S : World → Prop} {a : Act} {w : World} (v : Value) (hQ : ∀ c a w, Q (.panic c) (a.put (some 35) v) w → Q (.panic c) a w) (hy : YieldsIf Try.prog opsI6 S qI6_8 v a) (hS : S w)
    (h : wpAnyH Try.prog .any opsI6 Q S 5 (LI6 9) (a.put (some 35) v) w) : wpAnyH Try.prog .any opsI6 Q S 6 (LI6 8) a w :=
  wpAnyH_take (i := 8) hI6_8 noselI6 (by kernel_rfl) (by kernel_rfl) hQ hy hS (lI6_8.symm ▸ h)
def qI6_9 : Oper := { dst := some 36, op := Op.fieldAddr 62 (Operand.tmp 4) 0, type := 0, pos := "l04_counts.go:23", after := #[{ on := 2, ground := Ground.guard }], guard := some (2, true) }
theorem hI6_9 : opsI6[9]? = some qI6_9 := by kernel_rfl
theorem lI6_9 : (LI6 9).setIfInBounds 9 true = LI6 10 := by kernel_rfl
theorem tI6_9 {Q : Exit → Act → World → Prop} {S : World → Prop} {a : Act} {w : World} (v : Value) (hQ : ∀ c a w, Q (.panic c) (a.put (some 36) v) w → Q (.panic c) a w) (hy : YieldsIf Try.prog opsI6 S qI6_9 v a) (hS : S w)
    (h : wpAnyH Try.prog .any opsI6 Q S 4 (LI6 10) (a.put (some 36) v) w) : wpAnyH Try.prog .any opsI6 Q S 5 (LI6 9) a w :=
  wpAnyH_take (i := 9) hI6_9 noselI6 (by kernel_rfl) (by kernel_rfl) hQ hy hS (lI6_9.symm ▸ h)
def qI6_10 : Oper := { dst := some 37, op := Op.load 26 (Operand.tmp 36), type := 26, pos := "l04_counts.go:23", after := #[{ on := 9, ground := Ground.data }, { on := 2, ground := Ground.guard }], guard := some (2, true) }
theorem hI6_10 : opsI6[10]? = some qI6_10 := by kernel_rfl
theorem lI6_10 : (LI6 10).setIfInBounds 10 true = LI6 11 := by kernel_rfl
theorem tI6_10 {Q : Exit → Act → World → Prop} {S : World → Prop} {a : Act} {w : World} (v : Value) (hQ : ∀ c a w, Q (.panic c) (a.put (some 37) v) w → Q (.panic c) a w) (hy : YieldsIf Try.prog opsI6 S qI6_10 v a) (hS : S w)
    (h : wpAnyH Try.prog .any opsI6 Q S 3 (LI6 11) (a.put (some 37) v) w) : wpAnyH Try.prog .any opsI6 Q S 4 (LI6 10) a w :=
  wpAnyH_take (i := 10) hI6_10 noselI6 (by kernel_rfl) (by kernel_rfl) hQ hy hS (lI6_10.symm ▸ h)
def qI6_11 : Oper := { dst := some 38, op := Op.call { callee := Callee.value (Operand.func 55), args := #[Operand.tmp 35, Operand.tmp 37], argTypes := #[26, 26] }, type := 3, pos := "l04_counts.go:23", after := #[{ on := 8, ground := Ground.data }, { on := 10, ground := Ground.data }, { on := 2, ground := Ground.chain }, { on := 2, ground := Ground.guard }], guard := some (2, true) }
theorem hI6_11 : opsI6[11]? = some qI6_11 := by kernel_rfl
theorem lI6_11 : (LI6 11).setIfInBounds 11 true = LI6 12 := by kernel_rfl
theorem cI6_11 {Q : Exit → Act → World → Prop} {S : World → Prop} {a : Act} {w : World}
    (h : ∀ K' : Act → World → Prop, Shut (∀ a w, S w → (S w → wpAnyH Try.prog .any opsI6 Q S 2 (LI6 12) a w) → K' a w) → if Region.wanted qI6_11 (yielded opsI6 a.tmps) = true then Oper.wp Try.prog qI6_11 a w K' Q else K' (a.put (some 38) undef) w) :
    wpAnyH Try.prog .any opsI6 Q S 3 (LI6 11) a w :=
  wpAnyH_ready (rs := [11]) (by kernel_rfl) (by simp) (AllReadyH.cons hI6_11 (fun K' hK => h K' (lI6_11 ▸ hK)) AllReadyH.nil)
theorem tI6_11 {Q : Exit → Act → World → Prop} {S : World → Prop} {a : Act} {w : World} (v : Value) (hQ : ∀ c a w, Q (.panic c) (a.put (some 38) v) w → Q (.panic c) a w) (hy : YieldsIf Try.prog opsI6 S qI6_11 v a) (hS : S w)
    (h : wpAnyH Try.prog .any opsI6 Q S 2 (LI6 12) (a.put (some 38) v) w) : wpAnyH Try.prog .any opsI6 Q S 3 (LI6 11) a w :=
  wpAnyH_take (i := 11) hI6_11 noselI6 (by kernel_rfl) (by kernel_rfl) hQ hy hS (lI6_11.symm ▸ h)
def qI6_12 : Oper := { dst := some 39, op := Op.binOp BinOp.geq 3 (Operand.tmp 38) (Operand.const (Value.int IntKind.i64 0)) 3, type := 4, pos := "l04_counts.go:23", after := #[{ on := 11, ground := Ground.data }, { on := 2, ground := Ground.guard }], guard := some (2, true) }
theorem hI6_12 : opsI6[12]? = some qI6_12 := by kernel_rfl
theorem lI6_12 : (LI6 12).setIfInBounds 12 true = LI6 13 := by kernel_rfl
theorem tI6_12 {Q : Exit → Act → World → Prop} {S : World → Prop} {a : Act} {w : World} (v : Value) (hQ : ∀ c a w, Q (.panic c) (a.put (some 39) v) w → Q (.panic c) a w) (hy : YieldsIf Try.prog opsI6 S qI6_12 v a) (hS : S w)
    (h : wpAnyH Try.prog .any opsI6 Q S 1 (LI6 13) (a.put (some 39) v) w) : wpAnyH Try.prog .any opsI6 Q S 2 (LI6 12) a w :=
  wpAnyH_take (i := 12) hI6_12 noselI6 (by kernel_rfl) (by kernel_rfl) hQ hy hS (lI6_12.symm ▸ h)
def qI6_13 : Oper := { dst := some 40, op := Op.pick (Operand.tmp 29) (Operand.tmp 39) (Operand.const (Value.bool false)), type := 4, pos := "l04_counts.go:23", after := #[{ on := 2, ground := Ground.data }, { on := 12, ground := Ground.data }], guard := none }
theorem hI6_13 : opsI6[13]? = some qI6_13 := by kernel_rfl
theorem lI6_13 : (LI6 13).setIfInBounds 13 true = LI6 14 := by kernel_rfl
theorem tI6_13 {Q : Exit → Act → World → Prop} {S : World → Prop} {a : Act} {w : World} (v : Value) (hQ : ∀ c a w, Q (.panic c) (a.put (some 40) v) w → Q (.panic c) a w) (hy : YieldsIf Try.prog opsI6 S qI6_13 v a) (hS : S w)
    (h : wpAnyH Try.prog .any opsI6 Q S 0 (LI6 14) (a.put (some 40) v) w) : wpAnyH Try.prog .any opsI6 Q S 1 (LI6 13) a w :=
  wpAnyH_take (i := 13) hI6_13 noselI6 (by kernel_rfl) (by kernel_rfl) hQ hy hS (lI6_13.symm ▸ h)
end Go.Proofs.Ytiehpniogehkmaa.hexes
