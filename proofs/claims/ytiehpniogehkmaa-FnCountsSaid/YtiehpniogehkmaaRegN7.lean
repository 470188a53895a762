/-
  A statement of impl.minimalOf: its operations, and a theorem a step.
-/
import Derived.Test.YtiehpniogehkmaaProg
import Derived.WalkKit
import Derived.Deep.RegionHeld3
namespace Go.Proofs.Ytiehpniogehkmaa.hexes
open Go.RowKit

def findN7 (n : Nat) : Code → Option Code
  | .region id ops d => if id = n then some (.region id ops d) else none
  | .seq a b => match findN7 n a with
    | some c => some c
    | none => findN7 n b
  | .block _ c => findN7 n c
  | .scope c => findN7 n c
  | .loop c => findN7 n c
  | .cond _ a b => match findN7 n a with
    | some c => some c
    | none => findN7 n b
  | _ => none
def opsOfN7 : Option Code → Array Oper
  | some (.region _ ops _) => ops
  | _ => #[]
noncomputable def opsN7 : Array Oper := opsOfN7 (Try.f67.body.bind (findN7 7))
def schN7 : List Nat := [0, 1, 2, 3, 4, 5, 6, 7, 8, 9, 10, 11, 12, 13]
def LN7 (k : Nat) : Array Bool := ((List.range 14).map fun i => (schN7.take k).contains i).toArray
theorem noselN7 : Region.noSelect opsN7 = true := by kernel_rfl
def qN7_0 : Oper := { dst := some 18, op := Op.move (Operand.tmp 4), type := 38, pos := "l03_frontiers.go:17", after := #[], guard := none }
theorem hN7_0 : opsN7[0]? = some qN7_0 := by kernel_rfl
theorem lN7_0 : (LN7 0).setIfInBounds 0 true = LN7 1 := by kernel_rfl
theorem tN7_0 {Q : Exit → Act → World → Prop} {S : World → Prop} {a : Act} {w : World} (v : Value) (hQ : ∀ c a w, Q (.panic c) (a.put (some 18) v) w → Q (.panic c) a w) (hy : YieldsIf Try.prog opsN7 S qN7_0 v a) (hS : S w)
    (h : wpAnyH Try.prog .any opsN7 Q S 13 (LN7 1) (a.put (some 18) v) w) : wpAnyH Try.prog .any opsN7 Q S 14 (LN7 0) a w :=
  wpAnyH_take (i := 0) hN7_0 noselN7 (by kernel_rfl) (by kernel_rfl) hQ hy hS (lN7_0.symm ▸ h)
def qN7_1 : Oper := { dst := some 19, op := Op.call { callee := Callee.builtin Builtin.len, args := #[Operand.tmp 18], argTypes := #[38] }, type := 3, pos := "l03_frontiers.go:17", after := #[{ on := 0, ground := Ground.data }], guard := none }
theorem hN7_1 : opsN7[1]? = some qN7_1 := by kernel_rfl
theorem lN7_1 : (LN7 1).setIfInBounds 1 true = LN7 2 := by kernel_rfl
theorem tN7_1 {Q : Exit → Act → World → Prop} {S : World → Prop} {a : Act} {w : World} (v : Value) (hQ : ∀ c a w, Q (.panic c) (a.put (some 19) v) w → Q (.panic c) a w) (hy : YieldsIf Try.prog opsN7 S qN7_1 v a) (hS : S w)
    (h : wpAnyH Try.prog .any opsN7 Q S 12 (LN7 2) (a.put (some 19) v) w) : wpAnyH Try.prog .any opsN7 Q S 13 (LN7 1) a w :=
  wpAnyH_take (i := 1) hN7_1 noselN7 (by kernel_rfl) (by kernel_rfl) hQ hy hS (lN7_1.symm ▸ h)
def qN7_2 : Oper := { dst := some 20, op := Op.binOp BinOp.eql 3 (Operand.tmp 19) (Operand.const (Value.int IntKind.i64 0)) 3, type := 4, pos := "l03_frontiers.go:17", after := #[{ on := 1, ground := Ground.data }], guard := none }
theorem hN7_2 : opsN7[2]? = some qN7_2 := by kernel_rfl
theorem lN7_2 : (LN7 2).setIfInBounds 2 true = LN7 3 := by kernel_rfl
theorem tN7_2 {Q : Exit → Act → World → Prop} {S : World → Prop} {a : Act} {w : World} (v : Value) (hQ : ∀ c a w, Q (.panic c) (a.put (some 20) v) w → Q (.panic c) a w) (hy : YieldsIf Try.prog opsN7 S qN7_2 v a) (hS : S w)
    (h : wpAnyH Try.prog .any opsN7 Q S 11 (LN7 3) (a.put (some 20) v) w) : wpAnyH Try.prog .any opsN7 Q S 12 (LN7 2) a w :=
  wpAnyH_take (i := 2) hN7_2 noselN7 (by kernel_rfl) (by kernel_rfl) hQ hy hS (lN7_2.symm ▸ h)
def qN7_3 : Oper := { dst := some 21, op := Op.move (Operand.tmp 20), type := 4, pos := "l03_frontiers.go:17", after := #[{ on := 2, ground := Ground.data }], guard := none }
theorem hN7_3 : opsN7[3]? = some qN7_3 := by kernel_rfl
theorem lN7_3 : (LN7 3).setIfInBounds 3 true = LN7 4 := by kernel_rfl
theorem tN7_3 {Q : Exit → Act → World → Prop} {S : World → Prop} {a : Act} {w : World} (v : Value) (hQ : ∀ c a w, Q (.panic c) (a.put (some 21) v) w → Q (.panic c) a w) (hy : YieldsIf Try.prog opsN7 S qN7_3 v a) (hS : S w)
    (h : wpAnyH Try.prog .any opsN7 Q S 10 (LN7 4) (a.put (some 21) v) w) : wpAnyH Try.prog .any opsN7 Q S 11 (LN7 3) a w :=
  wpAnyH_take (i := 3) hN7_3 noselN7 (by kernel_rfl) (by kernel_rfl) hQ hy hS (lN7_3.symm ▸ h)
def qN7_4 : Oper := { dst := some 22, op := Op.move (Operand.tmp 4), type := 38, pos := "l03_frontiers.go:17", after := #[{ on := 3, ground := Ground.guard }], guard := some (3, false) }
theorem hN7_4 : opsN7[4]? = some qN7_4 := by kernel_rfl
theorem lN7_4 : (LN7 4).setIfInBounds 4 true = LN7 5 := by kernel_rfl
theorem tN7_4 {Q : Exit → Act → World → Prop} {S : World → Prop} {a : Act} {w : World} (v : Value) (hQ : ∀ c a w, Q (.panic c) (a.put (some 22) v) w → Q (.panic c) a w) (hy : YieldsIf Try.prog opsN7 S qN7_4 v a) (hS : S w)
    (h : wpAnyH Try.prog .any opsN7 Q S 9 (LN7 5) (a.put (some 22) v) w) : wpAnyH Try.prog .any opsN7 Q S 10 (LN7 4) a w :=
  wpAnyH_take (i := 4) hN7_4 noselN7 (by kernel_rfl) (by kernel_rfl) hQ hy hS (lN7_4.symm ▸ h)
def qN7_5 : Oper := { dst := some 23, op := Op.move (Operand.tmp 4), type := 38, pos := "l03_frontiers.go:17", after := #[{ on := 3, ground := Ground.guard }], guard := some (3, false) }
theorem hN7_5 : opsN7[5]? = some qN7_5 := by kernel_rfl
theorem lN7_5 : (LN7 5).setIfInBounds 5 true = LN7 6 := by kernel_rfl
theorem tN7_5 {Q : Exit → Act → World → Prop} {S : World → Prop} {a : Act} {w : World} (v : Value) (hQ : ∀ c a w, Q (.panic c) (a.put (some 23) v) w → Q (.panic c) a w) (hy : YieldsIf Try.prog opsN7 S qN7_5 v a) (hS : S w)
    (h : wpAnyH Try.prog .any opsN7 Q S 8 (LN7 6) (a.put (some 23) v) w) : wpAnyH Try.prog .any opsN7 Q S 9 (LN7 5) a w :=
  wpAnyH_take (i := 5) hN7_5 noselN7 (by kernel_rfl) (by kernel_rfl) hQ hy hS (lN7_5.symm ▸ h)
def qN7_6 : Oper := { dst := some 24, op := Op.call { callee := Callee.builtin Builtin.len, args := #[Operand.tmp 23], argTypes := #[38] }, type := 3, pos := "l03_frontiers.go:17", after := #[{ on := 5, ground := Ground.data }, { on := 3, ground := Ground.guard }], guard := some (3, false) }
theorem hN7_6 : opsN7[6]? = some qN7_6 := by kernel_rfl
theorem lN7_6 : (LN7 6).setIfInBounds 6 true = LN7 7 := by kernel_rfl
theorem tN7_6 {Q : Exit → Act → World → Prop} {S : World → Prop} {a : Act} {w : World} (v : Value) (hQ : ∀ c a w, Q (.panic c) (a.put (some 24) v) w → Q (.panic c) a w) (hy : YieldsIf Try.prog opsN7 S qN7_6 v a) (hS : S w)
    (h : wpAnyH Try.prog .any opsN7 Q S 7 (LN7 7) (a.put (some 24) v) w) : wpAnyH Try.prog .any opsN7 Q S 8 (LN7 6) a w :=
  wpAnyH_take (i := 6) hN7_6 noselN7 (by kernel_rfl) (by kernel_rfl) hQ hy hS (lN7_6.symm ▸ h)
def qN7_7 : Oper := { dst := some 25, op := Op.binOp BinOp.sub 3 (Operand.tmp 24) (Operand.const (Value.int IntKind.i64 1)) 3, type := 3, pos := "l03_frontiers.go:17", after := #[{ on := 6, ground := Ground.data }, { on := 3, ground := Ground.guard }], guard := some (3, false) }
theorem hN7_7 : opsN7[7]? = some qN7_7 := by kernel_rfl
theorem lN7_7 : (LN7 7).setIfInBounds 7 true = LN7 8 := by kernel_rfl
theorem tN7_7 {Q : Exit → Act → World → Prop} {S : World → Prop} {a : Act} {w : World} (v : Value) (hQ : ∀ c a w, Q (.panic c) (a.put (some 25) v) w → Q (.panic c) a w) (hy : YieldsIf Try.prog opsN7 S qN7_7 v a) (hS : S w)
    (h : wpAnyH Try.prog .any opsN7 Q S 6 (LN7 8) (a.put (some 25) v) w) : wpAnyH Try.prog .any opsN7 Q S 7 (LN7 7) a w :=
  wpAnyH_take (i := 7) hN7_7 noselN7 (by kernel_rfl) (by kernel_rfl) hQ hy hS (lN7_7.symm ▸ h)
def qN7_8 : Oper := { dst := some 26, op := Op.indexAddr 38 (Operand.tmp 22) (Operand.tmp 25), type := 0, pos := "l03_frontiers.go:17", after := #[{ on := 4, ground := Ground.data }, { on := 7, ground := Ground.data }, { on := 3, ground := Ground.guard }], guard := some (3, false) }
theorem hN7_8 : opsN7[8]? = some qN7_8 := by kernel_rfl
theorem lN7_8 : (LN7 8).setIfInBounds 8 true = LN7 9 := by kernel_rfl
theorem tN7_8 {Q : Exit → Act → World → Prop} {S : World → Prop} {a : Act} {w : World} (v : Value) (hQ : ∀ c a w, Q (.panic c) (a.put (some 26) v) w → Q (.panic c) a w) (hy : YieldsIf Try.prog opsN7 S qN7_8 v a) (hS : S w)
    (h : wpAnyH Try.prog .any opsN7 Q S 5 (LN7 9) (a.put (some 26) v) w) : wpAnyH Try.prog .any opsN7 Q S 6 (LN7 8) a w :=
  wpAnyH_take (i := 8) hN7_8 noselN7 (by kernel_rfl) (by kernel_rfl) hQ hy hS (lN7_8.symm ▸ h)
def qN7_9 : Oper := { dst := some 27, op := Op.load 26 (Operand.tmp 26), type := 26, pos := "l03_frontiers.go:17", after := #[{ on := 8, ground := Ground.data }, { on := 3, ground := Ground.guard }], guard := some (3, false) }
theorem hN7_9 : opsN7[9]? = some qN7_9 := by kernel_rfl
theorem lN7_9 : (LN7 9).setIfInBounds 9 true = LN7 10 := by kernel_rfl
theorem tN7_9 {Q : Exit → Act → World → Prop} {S : World → Prop} {a : Act} {w : World} (v : Value) (hQ : ∀ c a w, Q (.panic c) (a.put (some 27) v) w → Q (.panic c) a w) (hy : YieldsIf Try.prog opsN7 S qN7_9 v a) (hS : S w)
    (h : wpAnyH Try.prog .any opsN7 Q S 4 (LN7 10) (a.put (some 27) v) w) : wpAnyH Try.prog .any opsN7 Q S 5 (LN7 9) a w :=
  wpAnyH_take (i := 9) hN7_9 noselN7 (by kernel_rfl) (by kernel_rfl) hQ hy hS (lN7_9.symm ▸ h)
def qN7_10 : Oper := { dst := some 28, op := Op.load 26 (Operand.tmp 6), type := 26, pos := "l03_frontiers.go:17", after := #[{ on := 3, ground := Ground.guard }], guard := some (3, false) }
theorem hN7_10 : opsN7[10]? = some qN7_10 := by kernel_rfl
theorem lN7_10 : (LN7 10).setIfInBounds 10 true = LN7 11 := by kernel_rfl
theorem tN7_10 {Q : Exit → Act → World → Prop} {S : World → Prop} {a : Act} {w : World} (v : Value) (hQ : ∀ c a w, Q (.panic c) (a.put (some 28) v) w → Q (.panic c) a w) (hy : YieldsIf Try.prog opsN7 S qN7_10 v a) (hS : S w)
    (h : wpAnyH Try.prog .any opsN7 Q S 3 (LN7 11) (a.put (some 28) v) w) : wpAnyH Try.prog .any opsN7 Q S 4 (LN7 10) a w :=
  wpAnyH_take (i := 10) hN7_10 noselN7 (by kernel_rfl) (by kernel_rfl) hQ hy hS (lN7_10.symm ▸ h)
def qN7_11 : Oper := { dst := some 29, op := Op.call { callee := Callee.value (Operand.func 73), args := #[Operand.tmp 27, Operand.tmp 28], argTypes := #[26, 26] }, type := 4, pos := "l03_frontiers.go:17", after := #[{ on := 9, ground := Ground.data }, { on := 10, ground := Ground.data }, { on := 3, ground := Ground.chain }, { on := 3, ground := Ground.guard }], guard := some (3, false) }
theorem hN7_11 : opsN7[11]? = some qN7_11 := by kernel_rfl
theorem lN7_11 : (LN7 11).setIfInBounds 11 true = LN7 12 := by kernel_rfl
theorem cN7_11 {Q : Exit → Act → World → Prop} {S : World → Prop} {a : Act} {w : World}
    (h : ∀ K' : Act → World → Prop, Shut (∀ a w, S w → (S w → wpAnyH Try.prog .any opsN7 Q S 2 (LN7 12) a w) → K' a w) → if Region.wanted qN7_11 (yielded opsN7 a.tmps) = true then Oper.wp Try.prog qN7_11 a w K' Q else K' (a.put (some 29) undef) w) :
    wpAnyH Try.prog .any opsN7 Q S 3 (LN7 11) a w :=
  wpAnyH_ready (rs := [11]) (by kernel_rfl) (by simp) (AllReadyH.cons hN7_11 (fun K' hK => h K' (lN7_11 ▸ hK)) AllReadyH.nil)
theorem tN7_11 {Q : Exit → Act → World → Prop} {S : World → Prop} {a : Act} {w : World} (v : Value) (hQ : ∀ c a w, Q (.panic c) (a.put (some 29) v) w → Q (.panic c) a w) (hy : YieldsIf Try.prog opsN7 S qN7_11 v a) (hS : S w)
    (h : wpAnyH Try.prog .any opsN7 Q S 2 (LN7 12) (a.put (some 29) v) w) : wpAnyH Try.prog .any opsN7 Q S 3 (LN7 11) a w :=
  wpAnyH_take (i := 11) hN7_11 noselN7 (by kernel_rfl) (by kernel_rfl) hQ hy hS (lN7_11.symm ▸ h)
def qN7_12 : Oper := { dst := some 30, op := Op.unOp UnOp.not 4 (Operand.tmp 29), type := 4, pos := "l03_frontiers.go:17", after := #[{ on := 11, ground := Ground.data }, { on := 3, ground := Ground.guard }], guard := some (3, false) }
theorem hN7_12 : opsN7[12]? = some qN7_12 := by kernel_rfl
theorem lN7_12 : (LN7 12).setIfInBounds 12 true = LN7 13 := by kernel_rfl
theorem tN7_12 {Q : Exit → Act → World → Prop} {S : World → Prop} {a : Act} {w : World} (v : Value) (hQ : ∀ c a w, Q (.panic c) (a.put (some 30) v) w → Q (.panic c) a w) (hy : YieldsIf Try.prog opsN7 S qN7_12 v a) (hS : S w)
    (h : wpAnyH Try.prog .any opsN7 Q S 1 (LN7 13) (a.put (some 30) v) w) : wpAnyH Try.prog .any opsN7 Q S 2 (LN7 12) a w :=
  wpAnyH_take (i := 12) hN7_12 noselN7 (by kernel_rfl) (by kernel_rfl) hQ hy hS (lN7_12.symm ▸ h)
def qN7_13 : Oper := { dst := some 31, op := Op.pick (Operand.tmp 21) (Operand.const (Value.bool true)) (Operand.tmp 30), type := 4, pos := "l03_frontiers.go:17", after := #[{ on := 3, ground := Ground.data }, { on := 12, ground := Ground.data }], guard := none }
theorem hN7_13 : opsN7[13]? = some qN7_13 := by kernel_rfl
theorem lN7_13 : (LN7 13).setIfInBounds 13 true = LN7 14 := by kernel_rfl
theorem tN7_13 {Q : Exit → Act → World → Prop} {S : World → Prop} {a : Act} {w : World} (v : Value) (hQ : ∀ c a w, Q (.panic c) (a.put (some 31) v) w → Q (.panic c) a w) (hy : YieldsIf Try.prog opsN7 S qN7_13 v a) (hS : S w)
    (h : wpAnyH Try.prog .any opsN7 Q S 0 (LN7 14) (a.put (some 31) v) w) : wpAnyH Try.prog .any opsN7 Q S 1 (LN7 13) a w :=
  wpAnyH_take (i := 13) hN7_13 noselN7 (by kernel_rfl) (by kernel_rfl) hQ hy hS (lN7_13.symm ▸ h)
end Go.Proofs.Ytiehpniogehkmaa.hexes
