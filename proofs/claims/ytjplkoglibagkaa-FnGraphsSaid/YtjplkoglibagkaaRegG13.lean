/-
  A statement of spec.l08Any: its operations, and a theorem a step.
-/
import Derived.Test.YtjplkoglibagkaaProg
import Derived.WalkKit
import Derived.Deep.RegionHeld3
namespace Go.Proofs.Ytjplkoglibagkaa.hexes
open Go.RowKit

def findG13 (n : Nat) : Code → Option Code
  | .region id ops d => if id = n then some (.region id ops d) else none
  | .seq a b => match findG13 n a with
    | some c => some c
    | none => findG13 n b
  | .block _ c => findG13 n c
  | .scope c => findG13 n c
  | .loop c => findG13 n c
  | .cond _ a b => match findG13 n a with
    | some c => some c
    | none => findG13 n b
  | _ => none
def opsOfG13 : Option Code → Array Oper
  | some (.region _ ops _) => ops
  | _ => #[]
noncomputable def opsG13 : Array Oper := opsOfG13 (Try.f40.body.bind (findG13 13))
def schG13 : List Nat := [0, 1, 2, 3, 4, 5, 6]
def LG13 (k : Nat) : Array Bool := ((List.range 7).map fun i => (schG13.take k).contains i).toArray
theorem noselG13 : Region.noSelect opsG13 = true := by kernel_rfl
def qG13_0 : Oper := { dst := some 54, op := Op.fieldAddr 26 (Operand.tmp 3) 0, type := 0, pos := "l08_graphs.go:160", after := #[], guard := none }
theorem hG13_0 : opsG13[0]? = some qG13_0 := by kernel_rfl
def qG13_1 : Oper := { dst := some 55, op := Op.load 24 (Operand.tmp 54), type := 24, pos := "l08_graphs.go:160", after := #[{ on := 0, ground := Ground.data }], guard := none }
theorem hG13_1 : opsG13[1]? = some qG13_1 := by kernel_rfl
def qG13_2 : Oper := { dst := some 56, op := Op.call { callee := Callee.builtin Builtin.len, args := #[Operand.tmp 55], argTypes := #[24] }, type := 3, pos := "l08_graphs.go:160", after := #[{ on := 1, ground := Ground.data }], guard := none }
theorem hG13_2 : opsG13[2]? = some qG13_2 := by kernel_rfl
def qG13_3 : Oper := { dst := some 57, op := Op.move (Operand.tmp 0), type := 58, pos := "l08_graphs.go:160", after := #[], guard := none }
theorem hG13_3 : opsG13[3]? = some qG13_3 := by kernel_rfl
def qG13_4 : Oper := { dst := some 58, op := Op.call { callee := Callee.value (Operand.func 47), args := #[Operand.tmp 57, Operand.const (Value.int IntKind.i64 2)], argTypes := #[58, 3] }, type := 3, pos := "l08_graphs.go:160", after := #[{ on := 3, ground := Ground.data }], guard := none }
theorem hG13_4 : opsG13[4]? = some qG13_4 := by kernel_rfl
def qG13_5 : Oper := { dst := some 59, op := Op.binOp BinOp.add 3 (Operand.const (Value.int IntKind.i64 8)) (Operand.tmp 58) 3, type := 3, pos := "l08_graphs.go:160", after := #[{ on := 4, ground := Ground.data }], guard := none }
theorem hG13_5 : opsG13[5]? = some qG13_5 := by kernel_rfl
def qG13_6 : Oper := { dst := some 60, op := Op.binOp BinOp.lss 3 (Operand.tmp 56) (Operand.tmp 59) 3, type := 4, pos := "l08_graphs.go:160", after := #[{ on := 2, ground := Ground.data }, { on := 5, ground := Ground.data }], guard := none }
theorem hG13_6 : opsG13[6]? = some qG13_6 := by kernel_rfl
theorem tG13_e_0 {Q : Exit → Act → World → Prop} {S : World → Prop} {a : Act} {w : World} (v : Value) (hQ : ∀ c a w, Q (.panic c) (a.put (some 54) v) w → Q (.panic c) a w) (hy : YieldsIf Try.prog opsG13 S qG13_0 v a) (hS : S w)
    (h : wpAnyH Try.prog .any opsG13 Q S 6 (#[true, false, false, false, false, false, false] : Array Bool) (a.put (some 54) v) w) : wpAnyH Try.prog .any opsG13 Q S 7 (#[false, false, false, false, false, false, false] : Array Bool) a w :=
  wpAnyH_take (i := 0) hG13_0 noselG13 (by kernel_rfl) (by kernel_rfl) hQ hy hS ((show (#[false, false, false, false, false, false, false] : Array Bool).setIfInBounds 0 true = (#[true, false, false, false, false, false, false] : Array Bool) by kernel_rfl).symm ▸ h)
theorem tG13_0_1 {Q : Exit → Act → World → Prop} {S : World → Prop} {a : Act} {w : World} (v : Value) (hQ : ∀ c a w, Q (.panic c) (a.put (some 55) v) w → Q (.panic c) a w) (hy : YieldsIf Try.prog opsG13 S qG13_1 v a) (hS : S w)
    (h : wpAnyH Try.prog .any opsG13 Q S 5 (#[true, true, false, false, false, false, false] : Array Bool) (a.put (some 55) v) w) : wpAnyH Try.prog .any opsG13 Q S 6 (#[true, false, false, false, false, false, false] : Array Bool) a w :=
  wpAnyH_take (i := 1) hG13_1 noselG13 (by kernel_rfl) (by kernel_rfl) hQ hy hS ((show (#[true, false, false, false, false, false, false] : Array Bool).setIfInBounds 1 true = (#[true, true, false, false, false, false, false] : Array Bool) by kernel_rfl).symm ▸ h)
theorem tG13_01_2 {Q : Exit → Act → World → Prop} {S : World → Prop} {a : Act} {w : World} (v : Value) (hQ : ∀ c a w, Q (.panic c) (a.put (some 56) v) w → Q (.panic c) a w) (hy : YieldsIf Try.prog opsG13 S qG13_2 v a) (hS : S w)
    (h : wpAnyH Try.prog .any opsG13 Q S 4 (#[true, true, true, false, false, false, false] : Array Bool) (a.put (some 56) v) w) : wpAnyH Try.prog .any opsG13 Q S 5 (#[true, true, false, false, false, false, false] : Array Bool) a w :=
  wpAnyH_take (i := 2) hG13_2 noselG13 (by kernel_rfl) (by kernel_rfl) hQ hy hS ((show (#[true, true, false, false, false, false, false] : Array Bool).setIfInBounds 2 true = (#[true, true, true, false, false, false, false] : Array Bool) by kernel_rfl).symm ▸ h)
theorem tG13_012_3 {Q : Exit → Act → World → Prop} {S : World → Prop} {a : Act} {w : World} (v : Value) (hQ : ∀ c a w, Q (.panic c) (a.put (some 57) v) w → Q (.panic c) a w) (hy : YieldsIf Try.prog opsG13 S qG13_3 v a) (hS : S w)
    (h : wpAnyH Try.prog .any opsG13 Q S 3 (#[true, true, true, true, false, false, false] : Array Bool) (a.put (some 57) v) w) : wpAnyH Try.prog .any opsG13 Q S 4 (#[true, true, true, false, false, false, false] : Array Bool) a w :=
  wpAnyH_take (i := 3) hG13_3 noselG13 (by kernel_rfl) (by kernel_rfl) hQ hy hS ((show (#[true, true, true, false, false, false, false] : Array Bool).setIfInBounds 3 true = (#[true, true, true, true, false, false, false] : Array Bool) by kernel_rfl).symm ▸ h)
theorem tG13_01234_5 {Q : Exit → Act → World → Prop} {S : World → Prop} {a : Act} {w : World} (v : Value) (hQ : ∀ c a w, Q (.panic c) (a.put (some 59) v) w → Q (.panic c) a w) (hy : YieldsIf Try.prog opsG13 S qG13_5 v a) (hS : S w)
    (h : wpAnyH Try.prog .any opsG13 Q S 1 (#[true, true, true, true, true, true, false] : Array Bool) (a.put (some 59) v) w) : wpAnyH Try.prog .any opsG13 Q S 2 (#[true, true, true, true, true, false, false] : Array Bool) a w :=
  wpAnyH_take (i := 5) hG13_5 noselG13 (by kernel_rfl) (by kernel_rfl) hQ hy hS ((show (#[true, true, true, true, true, false, false] : Array Bool).setIfInBounds 5 true = (#[true, true, true, true, true, true, false] : Array Bool) by kernel_rfl).symm ▸ h)
theorem tG13_012345_6 {Q : Exit → Act → World → Prop} {S : World → Prop} {a : Act} {w : World} (v : Value) (hQ : ∀ c a w, Q (.panic c) (a.put (some 60) v) w → Q (.panic c) a w) (hy : YieldsIf Try.prog opsG13 S qG13_6 v a) (hS : S w)
    (h : wpAnyH Try.prog .any opsG13 Q S 0 (#[true, true, true, true, true, true, true] : Array Bool) (a.put (some 60) v) w) : wpAnyH Try.prog .any opsG13 Q S 1 (#[true, true, true, true, true, true, false] : Array Bool) a w :=
  wpAnyH_take (i := 6) hG13_6 noselG13 (by kernel_rfl) (by kernel_rfl) hQ hy hS ((show (#[true, true, true, true, true, true, false] : Array Bool).setIfInBounds 6 true = (#[true, true, true, true, true, true, true] : Array Bool) by kernel_rfl).symm ▸ h)
set_option maxRecDepth 100000 in
theorem cG13_0123_4 {Q : Exit → Act → World → Prop} {S : World → Prop} {a : Act} {w : World}
    (h4 : ∀ K' : Act → World → Prop, Shut (∀ a w, S w → (S w → wpAnyH Try.prog .any opsG13 Q S 2 (#[true, true, true, true, true, false, false] : Array Bool) a w) → K' a w) → if Region.wanted qG13_4 (yielded opsG13 a.tmps) = true then Oper.wp Try.prog qG13_4 a w K' Q else K' (a.put (some 58) undef) w) :
    wpAnyH Try.prog .any opsG13 Q S 3 (#[true, true, true, true, false, false, false] : Array Bool) a w :=
  wpAnyH_ready (rs := [4]) (by kernel_rfl) (by simp) (AllReadyH.cons hG13_4 (fun K' hK => h4 K' ((show (#[true, true, true, true, false, false, false] : Array Bool).setIfInBounds 4 true = (#[true, true, true, true, true, false, false] : Array Bool) by kernel_rfl) ▸ hK)) AllReadyH.nil)
end Go.Proofs.Ytjplkoglibagkaa.hexes
