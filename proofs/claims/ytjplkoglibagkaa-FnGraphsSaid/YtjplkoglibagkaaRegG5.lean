/-
  A statement of spec.l08Any: its operations, and a theorem a step.
-/
import Derived.Test.YtjplkoglibagkaaProg
import Derived.WalkKit
import Derived.Deep.RegionHeld3
namespace Go.Proofs.Ytjplkoglibagkaa.hexes
open Go.RowKit

def findG5 (n : Nat) : Code → Option Code
  | .region id ops d => if id = n then some (.region id ops d) else none
  | .seq a b => match findG5 n a with
    | some c => some c
    | none => findG5 n b
  | .block _ c => findG5 n c
  | .scope c => findG5 n c
  | .loop c => findG5 n c
  | .cond _ a b => match findG5 n a with
    | some c => some c
    | none => findG5 n b
  | _ => none
def opsOfG5 : Option Code → Array Oper
  | some (.region _ ops _) => ops
  | _ => #[]
noncomputable def opsG5 : Array Oper := opsOfG5 (Try.f40.body.bind (findG5 5))
def schG5 : List Nat := [0, 1, 2, 3, 4, 5, 6]
def LG5 (k : Nat) : Array Bool := ((List.range 7).map fun i => (schG5.take k).contains i).toArray
theorem noselG5 : Region.noSelect opsG5 = true := by kernel_rfl
def qG5_0 : Oper := { dst := some 16, op := Op.fieldAddr 26 (Operand.tmp 3) 0, type := 0, pos := "l08_graphs.go:152", after := #[], guard := none }
theorem hG5_0 : opsG5[0]? = some qG5_0 := by kernel_rfl
def qG5_1 : Oper := { dst := some 17, op := Op.load 24 (Operand.tmp 16), type := 24, pos := "l08_graphs.go:152", after := #[{ on := 0, ground := Ground.data }], guard := none }
theorem hG5_1 : opsG5[1]? = some qG5_1 := by kernel_rfl
def qG5_2 : Oper := { dst := some 18, op := Op.move (Operand.tmp 4), type := 3, pos := "l08_graphs.go:152", after := #[], guard := none }
theorem hG5_2 : opsG5[2]? = some qG5_2 := by kernel_rfl
def qG5_3 : Oper := { dst := some 19, op := Op.move (Operand.tmp 0), type := 58, pos := "l08_graphs.go:152", after := #[], guard := none }
theorem hG5_3 : opsG5[3]? = some qG5_3 := by kernel_rfl
def qG5_4 : Oper := { dst := some 20, op := Op.call { callee := Callee.value (Operand.func 66), args := #[Operand.tmp 19], argTypes := #[58] }, type := 37, pos := "l08_graphs.go:152", after := #[{ on := 3, ground := Ground.data }], guard := none }
theorem hG5_4 : opsG5[4]? = some qG5_4 := by kernel_rfl
def qG5_5 : Oper := { dst := some 21, op := Op.indexAddr 24 (Operand.tmp 17) (Operand.tmp 18), type := 0, pos := "l08_graphs.go:152", after := #[{ on := 1, ground := Ground.data }, { on := 2, ground := Ground.data }, { on := 0, ground := Ground.phase }, { on := 1, ground := Ground.phase }, { on := 2, ground := Ground.phase }, { on := 3, ground := Ground.phase }, { on := 4, ground := Ground.phase }], guard := none }
theorem hG5_5 : opsG5[5]? = some qG5_5 := by kernel_rfl
def qG5_6 : Oper := { dst := none, op := Op.store 37 (Operand.tmp 21) (Operand.tmp 20), type := 0, pos := "l08_graphs.go:152", after := #[{ on := 5, ground := Ground.data }, { on := 4, ground := Ground.data }, { on := 4, ground := Ground.chain }, { on := 0, ground := Ground.phase }, { on := 1, ground := Ground.phase }, { on := 2, ground := Ground.phase }, { on := 3, ground := Ground.phase }, { on := 4, ground := Ground.phase }], guard := none }
theorem hG5_6 : opsG5[6]? = some qG5_6 := by kernel_rfl
theorem tG5_e_0 {Q : Exit → Act → World → Prop} {S : World → Prop} {a : Act} {w : World} (v : Value) (hQ : ∀ c a w, Q (.panic c) (a.put (some 16) v) w → Q (.panic c) a w) (hy : YieldsIf Try.prog opsG5 S qG5_0 v a) (hS : S w)
    (h : wpAnyH Try.prog .any opsG5 Q S 6 (#[true, false, false, false, false, false, false] : Array Bool) (a.put (some 16) v) w) : wpAnyH Try.prog .any opsG5 Q S 7 (#[false, false, false, false, false, false, false] : Array Bool) a w :=
  wpAnyH_take (i := 0) hG5_0 noselG5 (by kernel_rfl) (by kernel_rfl) hQ hy hS ((show (#[false, false, false, false, false, false, false] : Array Bool).setIfInBounds 0 true = (#[true, false, false, false, false, false, false] : Array Bool) by kernel_rfl).symm ▸ h)
theorem tG5_0_1 {Q : Exit → Act → World → Prop} {S : World → Prop} {a : Act} {w : World} (v : Value) (hQ : ∀ c a w, Q (.panic c) (a.put (some 17) v) w → Q (.panic c) a w) (hy : YieldsIf Try.prog opsG5 S qG5_1 v a) (hS : S w)
    (h : wpAnyH Try.prog .any opsG5 Q S 5 (#[true, true, false, false, false, false, false] : Array Bool) (a.put (some 17) v) w) : wpAnyH Try.prog .any opsG5 Q S 6 (#[true, false, false, false, false, false, false] : Array Bool) a w :=
  wpAnyH_take (i := 1) hG5_1 noselG5 (by kernel_rfl) (by kernel_rfl) hQ hy hS ((show (#[true, false, false, false, false, false, false] : Array Bool).setIfInBounds 1 true = (#[true, true, false, false, false, false, false] : Array Bool) by kernel_rfl).symm ▸ h)
theorem tG5_01_2 {Q : Exit → Act → World → Prop} {S : World → Prop} {a : Act} {w : World} (v : Value) (hQ : ∀ c a w, Q (.panic c) (a.put (some 18) v) w → Q (.panic c) a w) (hy : YieldsIf Try.prog opsG5 S qG5_2 v a) (hS : S w)
    (h : wpAnyH Try.prog .any opsG5 Q S 4 (#[true, true, true, false, false, false, false] : Array Bool) (a.put (some 18) v) w) : wpAnyH Try.prog .any opsG5 Q S 5 (#[true, true, false, false, false, false, false] : Array Bool) a w :=
  wpAnyH_take (i := 2) hG5_2 noselG5 (by kernel_rfl) (by kernel_rfl) hQ hy hS ((show (#[true, true, false, false, false, false, false] : Array Bool).setIfInBounds 2 true = (#[true, true, true, false, false, false, false] : Array Bool) by kernel_rfl).symm ▸ h)
theorem tG5_012_3 {Q : Exit → Act → World → Prop} {S : World → Prop} {a : Act} {w : World} (v : Value) (hQ : ∀ c a w, Q (.panic c) (a.put (some 19) v) w → Q (.panic c) a w) (hy : YieldsIf Try.prog opsG5 S qG5_3 v a) (hS : S w)
    (h : wpAnyH Try.prog .any opsG5 Q S 3 (#[true, true, true, true, false, false, false] : Array Bool) (a.put (some 19) v) w) : wpAnyH Try.prog .any opsG5 Q S 4 (#[true, true, true, false, false, false, false] : Array Bool) a w :=
  wpAnyH_take (i := 3) hG5_3 noselG5 (by kernel_rfl) (by kernel_rfl) hQ hy hS ((show (#[true, true, true, false, false, false, false] : Array Bool).setIfInBounds 3 true = (#[true, true, true, true, false, false, false] : Array Bool) by kernel_rfl).symm ▸ h)
theorem tG5_01234_5 {Q : Exit → Act → World → Prop} {S : World → Prop} {a : Act} {w : World} (v : Value) (hQ : ∀ c a w, Q (.panic c) (a.put (some 21) v) w → Q (.panic c) a w) (hy : YieldsIf Try.prog opsG5 S qG5_5 v a) (hS : S w)
    (h : wpAnyH Try.prog .any opsG5 Q S 1 (#[true, true, true, true, true, true, false] : Array Bool) (a.put (some 21) v) w) : wpAnyH Try.prog .any opsG5 Q S 2 (#[true, true, true, true, true, false, false] : Array Bool) a w :=
  wpAnyH_take (i := 5) hG5_5 noselG5 (by kernel_rfl) (by kernel_rfl) hQ hy hS ((show (#[true, true, true, true, true, false, false] : Array Bool).setIfInBounds 5 true = (#[true, true, true, true, true, true, false] : Array Bool) by kernel_rfl).symm ▸ h)
set_option maxRecDepth 100000 in
theorem cG5_012345_6 {Q : Exit → Act → World → Prop} {S : World → Prop} {a : Act} {w : World}
    (h6 : ∀ K' : Act → World → Prop, Shut (∀ a w, S w → (S w → wpAnyH Try.prog .any opsG5 Q S 0 (#[true, true, true, true, true, true, true] : Array Bool) a w) → K' a w) → if Region.wanted qG5_6 (yielded opsG5 a.tmps) = true then Oper.wp Try.prog qG5_6 a w K' Q else K' (a.put (none) undef) w) :
    wpAnyH Try.prog .any opsG5 Q S 1 (#[true, true, true, true, true, true, false] : Array Bool) a w :=
  wpAnyH_ready (rs := [6]) (by kernel_rfl) (by simp) (AllReadyH.cons hG5_6 (fun K' hK => h6 K' ((show (#[true, true, true, true, true, true, false] : Array Bool).setIfInBounds 6 true = (#[true, true, true, true, true, true, true] : Array Bool) by kernel_rfl) ▸ hK)) AllReadyH.nil)
set_option maxRecDepth 100000 in
theorem cG5_0123_4 {Q : Exit → Act → World → Prop} {S : World → Prop} {a : Act} {w : World}
    (h4 : ∀ K' : Act → World → Prop, Shut (∀ a w, S w → (S w → wpAnyH Try.prog .any opsG5 Q S 2 (#[true, true, true, true, true, false, false] : Array Bool) a w) → K' a w) → if Region.wanted qG5_4 (yielded opsG5 a.tmps) = true then Oper.wp Try.prog qG5_4 a w K' Q else K' (a.put (some 20) undef) w) :
    wpAnyH Try.prog .any opsG5 Q S 3 (#[true, true, true, true, false, false, false] : Array Bool) a w :=
  wpAnyH_ready (rs := [4]) (by kernel_rfl) (by simp) (AllReadyH.cons hG5_4 (fun K' hK => h4 K' ((show (#[true, true, true, true, false, false, false] : Array Bool).setIfInBounds 4 true = (#[true, true, true, true, true, false, false] : Array Bool) by kernel_rfl) ▸ hK)) AllReadyH.nil)
end Go.Proofs.Ytjplkoglibagkaa.hexes
