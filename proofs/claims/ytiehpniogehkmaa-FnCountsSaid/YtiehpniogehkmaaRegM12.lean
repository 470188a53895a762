/-
  A statement of spec.Minimal: its operations, and a theorem a step.
-/
import Derived.Test.YtiehpniogehkmaaProg
import Derived.WalkKit
import Derived.Deep.RegionHeld3
namespace Go.Proofs.Ytiehpniogehkmaa.hexes
open Go.RowKit

def findM12 (n : Nat) : Code → Option Code
  | .region id ops d => if id = n then some (.region id ops d) else none
  | .seq a b => match findM12 n a with
    | some c => some c
    | none => findM12 n b
  | .block _ c => findM12 n c
  | .scope c => findM12 n c
  | .loop c => findM12 n c
  | .cond _ a b => match findM12 n a with
    | some c => some c
    | none => findM12 n b
  | _ => none
def opsOfM12 : Option Code → Array Oper
  | some (.region _ ops _) => ops
  | _ => #[]
noncomputable def opsM12 : Array Oper := opsOfM12 (Try.f57.body.bind (findM12 12))
def schM12 : List Nat := [0, 1, 2, 3, 4, 5, 6, 7, 8, 9, 10, 11, 12, 13, 14, 15]
def LM12 (k : Nat) : Array Bool := ((List.range 16).map fun i => (schM12.take k).contains i).toArray
theorem noselM12 : Region.noSelect opsM12 = true := by kernel_rfl
def qM12_0 : Oper := { dst := some 48, op := Op.move (Operand.tmp 7), type := 3, pos := "l03_frontiers.go:16", after := #[], guard := none }
theorem hM12_0 : opsM12[0]? = some qM12_0 := by kernel_rfl
theorem lM12_0 : (LM12 0).setIfInBounds 0 true = LM12 1 := by kernel_rfl
theorem tM12_0 {Q : Exit → Act → World → Prop} {S : World → Prop} {a : Act} {w : World} (v : Value) (hQ : ∀ c a w, Q (.panic c) (a.put (some 48) v) w → Q (.panic c) a w) (hy : YieldsIf Try.prog opsM12 S qM12_0 v a) (hS : S w)
    (h : wpAnyH Try.prog .any opsM12 Q S 15 (LM12 1) (a.put (some 48) v) w) : wpAnyH Try.prog .any opsM12 Q S 16 (LM12 0) a w :=
  wpAnyH_take (i := 0) hM12_0 noselM12 (by kernel_rfl) (by kernel_rfl) hQ hy hS (lM12_0.symm ▸ h)
def qM12_1 : Oper := { dst := some 49, op := Op.move (Operand.tmp 3), type := 38, pos := "l03_frontiers.go:16", after := #[], guard := none }
theorem hM12_1 : opsM12[1]? = some qM12_1 := by kernel_rfl
theorem lM12_1 : (LM12 1).setIfInBounds 1 true = LM12 2 := by kernel_rfl
theorem tM12_1 {Q : Exit → Act → World → Prop} {S : World → Prop} {a : Act} {w : World} (v : Value) (hQ : ∀ c a w, Q (.panic c) (a.put (some 49) v) w → Q (.panic c) a w) (hy : YieldsIf Try.prog opsM12 S qM12_1 v a) (hS : S w)
    (h : wpAnyH Try.prog .any opsM12 Q S 14 (LM12 2) (a.put (some 49) v) w) : wpAnyH Try.prog .any opsM12 Q S 15 (LM12 1) a w :=
  wpAnyH_take (i := 1) hM12_1 noselM12 (by kernel_rfl) (by kernel_rfl) hQ hy hS (lM12_1.symm ▸ h)
def qM12_2 : Oper := { dst := some 50, op := Op.call { callee := Callee.builtin Builtin.len, args := #[Operand.tmp 49], argTypes := #[38] }, type := 3, pos := "l03_frontiers.go:16", after := #[{ on := 1, ground := Ground.data }], guard := none }
theorem hM12_2 : opsM12[2]? = some qM12_2 := by kernel_rfl
theorem lM12_2 : (LM12 2).setIfInBounds 2 true = LM12 3 := by kernel_rfl
theorem tM12_2 {Q : Exit → Act → World → Prop} {S : World → Prop} {a : Act} {w : World} (v : Value) (hQ : ∀ c a w, Q (.panic c) (a.put (some 50) v) w → Q (.panic c) a w) (hy : YieldsIf Try.prog opsM12 S qM12_2 v a) (hS : S w)
    (h : wpAnyH Try.prog .any opsM12 Q S 13 (LM12 3) (a.put (some 50) v) w) : wpAnyH Try.prog .any opsM12 Q S 14 (LM12 2) a w :=
  wpAnyH_take (i := 2) hM12_2 noselM12 (by kernel_rfl) (by kernel_rfl) hQ hy hS (lM12_2.symm ▸ h)
def qM12_3 : Oper := { dst := some 51, op := Op.binOp BinOp.lss 3 (Operand.tmp 48) (Operand.tmp 50) 3, type := 4, pos := "l03_frontiers.go:16", after := #[{ on := 0, ground := Ground.data }, { on := 2, ground := Ground.data }], guard := none }
theorem hM12_3 : opsM12[3]? = some qM12_3 := by kernel_rfl
theorem lM12_3 : (LM12 3).setIfInBounds 3 true = LM12 4 := by kernel_rfl
theorem tM12_3 {Q : Exit → Act → World → Prop} {S : World → Prop} {a : Act} {w : World} (v : Value) (hQ : ∀ c a w, Q (.panic c) (a.put (some 51) v) w → Q (.panic c) a w) (hy : YieldsIf Try.prog opsM12 S qM12_3 v a) (hS : S w)
    (h : wpAnyH Try.prog .any opsM12 Q S 12 (LM12 4) (a.put (some 51) v) w) : wpAnyH Try.prog .any opsM12 Q S 13 (LM12 3) a w :=
  wpAnyH_take (i := 3) hM12_3 noselM12 (by kernel_rfl) (by kernel_rfl) hQ hy hS (lM12_3.symm ▸ h)
def qM12_4 : Oper := { dst := some 52, op := Op.move (Operand.tmp 51), type := 4, pos := "l03_frontiers.go:16", after := #[{ on := 3, ground := Ground.data }], guard := none }
theorem hM12_4 : opsM12[4]? = some qM12_4 := by kernel_rfl
theorem lM12_4 : (LM12 4).setIfInBounds 4 true = LM12 5 := by kernel_rfl
theorem tM12_4 {Q : Exit → Act → World → Prop} {S : World → Prop} {a : Act} {w : World} (v : Value) (hQ : ∀ c a w, Q (.panic c) (a.put (some 52) v) w → Q (.panic c) a w) (hy : YieldsIf Try.prog opsM12 S qM12_4 v a) (hS : S w)
    (h : wpAnyH Try.prog .any opsM12 Q S 11 (LM12 5) (a.put (some 52) v) w) : wpAnyH Try.prog .any opsM12 Q S 12 (LM12 4) a w :=
  wpAnyH_take (i := 4) hM12_4 noselM12 (by kernel_rfl) (by kernel_rfl) hQ hy hS (lM12_4.symm ▸ h)
def qM12_5 : Oper := { dst := some 53, op := Op.move (Operand.tmp 3), type := 38, pos := "l03_frontiers.go:16", after := #[{ on := 4, ground := Ground.guard }], guard := some (4, true) }
theorem hM12_5 : opsM12[5]? = some qM12_5 := by kernel_rfl
theorem lM12_5 : (LM12 5).setIfInBounds 5 true = LM12 6 := by kernel_rfl
theorem tM12_5 {Q : Exit → Act → World → Prop} {S : World → Prop} {a : Act} {w : World} (v : Value) (hQ : ∀ c a w, Q (.panic c) (a.put (some 53) v) w → Q (.panic c) a w) (hy : YieldsIf Try.prog opsM12 S qM12_5 v a) (hS : S w)
    (h : wpAnyH Try.prog .any opsM12 Q S 10 (LM12 6) (a.put (some 53) v) w) : wpAnyH Try.prog .any opsM12 Q S 11 (LM12 5) a w :=
  wpAnyH_take (i := 5) hM12_5 noselM12 (by kernel_rfl) (by kernel_rfl) hQ hy hS (lM12_5.symm ▸ h)
def qM12_6 : Oper := { dst := some 54, op := Op.move (Operand.tmp 7), type := 3, pos := "l03_frontiers.go:16", after := #[{ on := 4, ground := Ground.guard }], guard := some (4, true) }
theorem hM12_6 : opsM12[6]? = some qM12_6 := by kernel_rfl
theorem lM12_6 : (LM12 6).setIfInBounds 6 true = LM12 7 := by kernel_rfl
theorem tM12_6 {Q : Exit → Act → World → Prop} {S : World → Prop} {a : Act} {w : World} (v : Value) (hQ : ∀ c a w, Q (.panic c) (a.put (some 54) v) w → Q (.panic c) a w) (hy : YieldsIf Try.prog opsM12 S qM12_6 v a) (hS : S w)
    (h : wpAnyH Try.prog .any opsM12 Q S 9 (LM12 7) (a.put (some 54) v) w) : wpAnyH Try.prog .any opsM12 Q S 10 (LM12 6) a w :=
  wpAnyH_take (i := 6) hM12_6 noselM12 (by kernel_rfl) (by kernel_rfl) hQ hy hS (lM12_6.symm ▸ h)
def qM12_7 : Oper := { dst := some 55, op := Op.indexAddr 38 (Operand.tmp 53) (Operand.tmp 54), type := 0, pos := "l03_frontiers.go:16", after := #[{ on := 5, ground := Ground.data }, { on := 6, ground := Ground.data }, { on := 4, ground := Ground.guard }], guard := some (4, true) }
theorem hM12_7 : opsM12[7]? = some qM12_7 := by kernel_rfl
theorem lM12_7 : (LM12 7).setIfInBounds 7 true = LM12 8 := by kernel_rfl
theorem tM12_7 {Q : Exit → Act → World → Prop} {S : World → Prop} {a : Act} {w : World} (v : Value) (hQ : ∀ c a w, Q (.panic c) (a.put (some 55) v) w → Q (.panic c) a w) (hy : YieldsIf Try.prog opsM12 S qM12_7 v a) (hS : S w)
    (h : wpAnyH Try.prog .any opsM12 Q S 8 (LM12 8) (a.put (some 55) v) w) : wpAnyH Try.prog .any opsM12 Q S 9 (LM12 7) a w :=
  wpAnyH_take (i := 7) hM12_7 noselM12 (by kernel_rfl) (by kernel_rfl) hQ hy hS (lM12_7.symm ▸ h)
def qM12_8 : Oper := { dst := some 56, op := Op.load 26 (Operand.tmp 55), type := 26, pos := "l03_frontiers.go:16", after := #[{ on := 7, ground := Ground.data }, { on := 4, ground := Ground.guard }], guard := some (4, true) }
theorem hM12_8 : opsM12[8]? = some qM12_8 := by kernel_rfl
theorem lM12_8 : (LM12 8).setIfInBounds 8 true = LM12 9 := by kernel_rfl
theorem tM12_8 {Q : Exit → Act → World → Prop} {S : World → Prop} {a : Act} {w : World} (v : Value) (hQ : ∀ c a w, Q (.panic c) (a.put (some 56) v) w → Q (.panic c) a w) (hy : YieldsIf Try.prog opsM12 S qM12_8 v a) (hS : S w)
    (h : wpAnyH Try.prog .any opsM12 Q S 7 (LM12 9) (a.put (some 56) v) w) : wpAnyH Try.prog .any opsM12 Q S 8 (LM12 8) a w :=
  wpAnyH_take (i := 8) hM12_8 noselM12 (by kernel_rfl) (by kernel_rfl) hQ hy hS (lM12_8.symm ▸ h)
def qM12_9 : Oper := { dst := some 57, op := Op.move (Operand.tmp 0), type := 38, pos := "l03_frontiers.go:16", after := #[{ on := 4, ground := Ground.guard }], guard := some (4, true) }
theorem hM12_9 : opsM12[9]? = some qM12_9 := by kernel_rfl
theorem lM12_9 : (LM12 9).setIfInBounds 9 true = LM12 10 := by kernel_rfl
theorem tM12_9 {Q : Exit → Act → World → Prop} {S : World → Prop} {a : Act} {w : World} (v : Value) (hQ : ∀ c a w, Q (.panic c) (a.put (some 57) v) w → Q (.panic c) a w) (hy : YieldsIf Try.prog opsM12 S qM12_9 v a) (hS : S w)
    (h : wpAnyH Try.prog .any opsM12 Q S 6 (LM12 10) (a.put (some 57) v) w) : wpAnyH Try.prog .any opsM12 Q S 7 (LM12 9) a w :=
  wpAnyH_take (i := 9) hM12_9 noselM12 (by kernel_rfl) (by kernel_rfl) hQ hy hS (lM12_9.symm ▸ h)
def qM12_10 : Oper := { dst := some 58, op := Op.move (Operand.tmp 4), type := 3, pos := "l03_frontiers.go:16", after := #[{ on := 4, ground := Ground.guard }], guard := some (4, true) }
theorem hM12_10 : opsM12[10]? = some qM12_10 := by kernel_rfl
theorem lM12_10 : (LM12 10).setIfInBounds 10 true = LM12 11 := by kernel_rfl
theorem tM12_10 {Q : Exit → Act → World → Prop} {S : World → Prop} {a : Act} {w : World} (v : Value) (hQ : ∀ c a w, Q (.panic c) (a.put (some 58) v) w → Q (.panic c) a w) (hy : YieldsIf Try.prog opsM12 S qM12_10 v a) (hS : S w)
    (h : wpAnyH Try.prog .any opsM12 Q S 5 (LM12 11) (a.put (some 58) v) w) : wpAnyH Try.prog .any opsM12 Q S 6 (LM12 10) a w :=
  wpAnyH_take (i := 10) hM12_10 noselM12 (by kernel_rfl) (by kernel_rfl) hQ hy hS (lM12_10.symm ▸ h)
def qM12_11 : Oper := { dst := some 59, op := Op.indexAddr 38 (Operand.tmp 57) (Operand.tmp 58), type := 0, pos := "l03_frontiers.go:16", after := #[{ on := 9, ground := Ground.data }, { on := 10, ground := Ground.data }, { on := 4, ground := Ground.guard }], guard := some (4, true) }
theorem hM12_11 : opsM12[11]? = some qM12_11 := by kernel_rfl
theorem lM12_11 : (LM12 11).setIfInBounds 11 true = LM12 12 := by kernel_rfl
theorem tM12_11 {Q : Exit → Act → World → Prop} {S : World → Prop} {a : Act} {w : World} (v : Value) (hQ : ∀ c a w, Q (.panic c) (a.put (some 59) v) w → Q (.panic c) a w) (hy : YieldsIf Try.prog opsM12 S qM12_11 v a) (hS : S w)
    (h : wpAnyH Try.prog .any opsM12 Q S 4 (LM12 12) (a.put (some 59) v) w) : wpAnyH Try.prog .any opsM12 Q S 5 (LM12 11) a w :=
  wpAnyH_take (i := 11) hM12_11 noselM12 (by kernel_rfl) (by kernel_rfl) hQ hy hS (lM12_11.symm ▸ h)
def qM12_12 : Oper := { dst := some 60, op := Op.load 26 (Operand.tmp 59), type := 26, pos := "l03_frontiers.go:16", after := #[{ on := 11, ground := Ground.data }, { on := 4, ground := Ground.guard }], guard := some (4, true) }
theorem hM12_12 : opsM12[12]? = some qM12_12 := by kernel_rfl
theorem lM12_12 : (LM12 12).setIfInBounds 12 true = LM12 13 := by kernel_rfl
theorem tM12_12 {Q : Exit → Act → World → Prop} {S : World → Prop} {a : Act} {w : World} (v : Value) (hQ : ∀ c a w, Q (.panic c) (a.put (some 60) v) w → Q (.panic c) a w) (hy : YieldsIf Try.prog opsM12 S qM12_12 v a) (hS : S w)
    (h : wpAnyH Try.prog .any opsM12 Q S 3 (LM12 13) (a.put (some 60) v) w) : wpAnyH Try.prog .any opsM12 Q S 4 (LM12 12) a w :=
  wpAnyH_take (i := 12) hM12_12 noselM12 (by kernel_rfl) (by kernel_rfl) hQ hy hS (lM12_12.symm ▸ h)
def qM12_13 : Oper := { dst := some 61, op := Op.call { callee := Callee.value (Operand.func 53), args := #[Operand.tmp 56, Operand.tmp 60], argTypes := #[26, 26] }, type := 3, pos := "l03_frontiers.go:16", after := #[{ on := 8, ground := Ground.data }, { on := 12, ground := Ground.data }, { on := 4, ground := Ground.chain }, { on := 4, ground := Ground.guard }], guard := some (4, true) }
theorem hM12_13 : opsM12[13]? = some qM12_13 := by kernel_rfl
theorem lM12_13 : (LM12 13).setIfInBounds 13 true = LM12 14 := by kernel_rfl
theorem cM12_13 {Q : Exit → Act → World → Prop} {S : World → Prop} {a : Act} {w : World}
    (h : ∀ K' : Act → World → Prop, Shut (∀ a w, S w → (S w → wpAnyH Try.prog .any opsM12 Q S 2 (LM12 14) a w) → K' a w) → if Region.wanted qM12_13 (yielded opsM12 a.tmps) = true then Oper.wp Try.prog qM12_13 a w K' Q else K' (a.put (some 61) undef) w) :
    wpAnyH Try.prog .any opsM12 Q S 3 (LM12 13) a w :=
  wpAnyH_ready (rs := [13]) (by kernel_rfl) (by simp) (AllReadyH.cons hM12_13 (fun K' hK => h K' (lM12_13 ▸ hK)) AllReadyH.nil)
theorem tM12_13 {Q : Exit → Act → World → Prop} {S : World → Prop} {a : Act} {w : World} (v : Value) (hQ : ∀ c a w, Q (.panic c) (a.put (some 61) v) w → Q (.panic c) a w) (hy : YieldsIf Try.prog opsM12 S qM12_13 v a) (hS : S w)
    (h : wpAnyH Try.prog .any opsM12 Q S 2 (LM12 14) (a.put (some 61) v) w) : wpAnyH Try.prog .any opsM12 Q S 3 (LM12 13) a w :=
  wpAnyH_take (i := 13) hM12_13 noselM12 (by kernel_rfl) (by kernel_rfl) hQ hy hS (lM12_13.symm ▸ h)
def qM12_14 : Oper := { dst := some 62, op := Op.binOp BinOp.lss 3 (Operand.tmp 61) (Operand.const (Value.int IntKind.i64 0)) 3, type := 4, pos := "l03_frontiers.go:16", after := #[{ on := 13, ground := Ground.data }, { on := 4, ground := Ground.guard }], guard := some (4, true) }
theorem hM12_14 : opsM12[14]? = some qM12_14 := by kernel_rfl
theorem lM12_14 : (LM12 14).setIfInBounds 14 true = LM12 15 := by kernel_rfl
theorem tM12_14 {Q : Exit → Act → World → Prop} {S : World → Prop} {a : Act} {w : World} (v : Value) (hQ : ∀ c a w, Q (.panic c) (a.put (some 62) v) w → Q (.panic c) a w) (hy : YieldsIf Try.prog opsM12 S qM12_14 v a) (hS : S w)
    (h : wpAnyH Try.prog .any opsM12 Q S 1 (LM12 15) (a.put (some 62) v) w) : wpAnyH Try.prog .any opsM12 Q S 2 (LM12 14) a w :=
  wpAnyH_take (i := 14) hM12_14 noselM12 (by kernel_rfl) (by kernel_rfl) hQ hy hS (lM12_14.symm ▸ h)
def qM12_15 : Oper := { dst := some 63, op := Op.pick (Operand.tmp 52) (Operand.tmp 62) (Operand.const (Value.bool false)), type := 4, pos := "l03_frontiers.go:16", after := #[{ on := 4, ground := Ground.data }, { on := 14, ground := Ground.data }], guard := none }
theorem hM12_15 : opsM12[15]? = some qM12_15 := by kernel_rfl
theorem lM12_15 : (LM12 15).setIfInBounds 15 true = LM12 16 := by kernel_rfl
theorem tM12_15 {Q : Exit → Act → World → Prop} {S : World → Prop} {a : Act} {w : World} (v : Value) (hQ : ∀ c a w, Q (.panic c) (a.put (some 63) v) w → Q (.panic c) a w) (hy : YieldsIf Try.prog opsM12 S qM12_15 v a) (hS : S w)
    (h : wpAnyH Try.prog .any opsM12 Q S 0 (LM12 16) (a.put (some 63) v) w) : wpAnyH Try.prog .any opsM12 Q S 1 (LM12 15) a w :=
  wpAnyH_take (i := 15) hM12_15 noselM12 (by kernel_rfl) (by kernel_rfl) hQ hy hS (lM12_15.symm ▸ h)
end Go.Proofs.Ytiehpniogehkmaa.hexes
