/-
  A statement of spec.DrawSameGraph: its operations, and a theorem a step.
-/
import Derived.Test.YtjplkoglibagkaaProg
import Derived.WalkKit
import Derived.Deep.RegionHeld3
namespace Go.Proofs.Ytjplkoglibagkaa.hexes
open Go.RowKit

def findG4 (n : Nat) : Code → Option Code
  | .region id ops d => if id = n then some (.region id ops d) else none
  | .seq a b => match findG4 n a with
    | some c => some c
    | none => findG4 n b
  | .block _ c => findG4 n c
  | .scope c => findG4 n c
  | .loop c => findG4 n c
  | .cond _ a b => match findG4 n a with
    | some c => some c
    | none => findG4 n b
  | _ => none
def opsOfG4 : Option Code → Array Oper
  | some (.region _ ops _) => ops
  | _ => #[]
noncomputable def opsG4 : Array Oper := opsOfG4 (Try.f23.body.bind (findG4 4))
def schG4 : List Nat := [0, 1, 2, 3, 4]
def LG4 (k : Nat) : Array Bool := ((List.range 5).map fun i => (schG4.take k).contains i).toArray
theorem noselG4 : Region.noSelect opsG4 = true := by kernel_rfl
def qG4_0 : Oper := { dst := some 12, op := Op.load 26 (Operand.tmp 5), type := 26, pos := "l08_graphs.go:187", after := #[], guard := none }
theorem hG4_0 : opsG4[0]? = some qG4_0 := by kernel_rfl
def qG4_1 : Oper := { dst := some 13, op := Op.load 26 (Operand.tmp 5), type := 26, pos := "l08_graphs.go:187", after := #[], guard := none }
theorem hG4_1 : opsG4[1]? = some qG4_1 := by kernel_rfl
def qG4_2 : Oper := { dst := some 14, op := Op.call { callee := Callee.value (Operand.func 52), args := #[Operand.tmp 13], argTypes := #[26] }, type := 26, pos := "l08_graphs.go:187", after := #[{ on := 1, ground := Ground.data }], guard := none }
theorem hG4_2 : opsG4[2]? = some qG4_2 := by kernel_rfl
def qG4_3 : Oper := { dst := none, op := Op.store 26 (Operand.tmp 2) (Operand.tmp 12), type := 0, pos := "l08_graphs.go:187", after := #[{ on := 0, ground := Ground.data }, { on := 2, ground := Ground.chain }, { on := 0, ground := Ground.phase }, { on := 1, ground := Ground.textOnly Departure.lateStores }, { on := 2, ground := Ground.textOnly Departure.lateStoresUnsure }], guard := none }
theorem hG4_3 : opsG4[3]? = some qG4_3 := by kernel_rfl
def qG4_4 : Oper := { dst := none, op := Op.store 26 (Operand.tmp 3) (Operand.tmp 14), type := 0, pos := "l08_graphs.go:187", after := #[{ on := 2, ground := Ground.data }, { on := 3, ground := Ground.chain }, { on := 0, ground := Ground.phase }, { on := 1, ground := Ground.phase }, { on := 2, ground := Ground.phase }, { on := 3, ground := Ground.phase }], guard := none }
theorem hG4_4 : opsG4[4]? = some qG4_4 := by kernel_rfl
theorem tG4_e_0 {Q : Exit → Act → World → Prop} {S : World → Prop} {a : Act} {w : World} (v : Value) (hQ : ∀ c a w, Q (.panic c) (a.put (some 12) v) w → Q (.panic c) a w) (hy : YieldsIf Try.prog opsG4 S qG4_0 v a) (hS : S w)
    (h : wpAnyH Try.prog .any opsG4 Q S 4 (#[true, false, false, false, false] : Array Bool) (a.put (some 12) v) w) : wpAnyH Try.prog .any opsG4 Q S 5 (#[false, false, false, false, false] : Array Bool) a w :=
  wpAnyH_take (i := 0) hG4_0 noselG4 (by kernel_rfl) (by kernel_rfl) hQ hy hS ((show (#[false, false, false, false, false] : Array Bool).setIfInBounds 0 true = (#[true, false, false, false, false] : Array Bool) by kernel_rfl).symm ▸ h)
theorem tG4_0_1 {Q : Exit → Act → World → Prop} {S : World → Prop} {a : Act} {w : World} (v : Value) (hQ : ∀ c a w, Q (.panic c) (a.put (some 13) v) w → Q (.panic c) a w) (hy : YieldsIf Try.prog opsG4 S qG4_1 v a) (hS : S w)
    (h : wpAnyH Try.prog .any opsG4 Q S 3 (#[true, true, false, false, false] : Array Bool) (a.put (some 13) v) w) : wpAnyH Try.prog .any opsG4 Q S 4 (#[true, false, false, false, false] : Array Bool) a w :=
  wpAnyH_take (i := 1) hG4_1 noselG4 (by kernel_rfl) (by kernel_rfl) hQ hy hS ((show (#[true, false, false, false, false] : Array Bool).setIfInBounds 1 true = (#[true, true, false, false, false] : Array Bool) by kernel_rfl).symm ▸ h)
set_option maxRecDepth 100000 in
theorem cG4_0123_4 {Q : Exit → Act → World → Prop} {S : World → Prop} {a : Act} {w : World}
    (h4 : ∀ K' : Act → World → Prop, Shut (∀ a w, S w → (S w → wpAnyH Try.prog .any opsG4 Q S 0 (#[true, true, true, true, true] : Array Bool) a w) → K' a w) → if Region.wanted qG4_4 (yielded opsG4 a.tmps) = true then Oper.wp Try.prog qG4_4 a w K' Q else K' (a.put (none) undef) w) :
    wpAnyH Try.prog .any opsG4 Q S 1 (#[true, true, true, true, false] : Array Bool) a w :=
  wpAnyH_ready (rs := [4]) (by kernel_rfl) (by simp) (AllReadyH.cons hG4_4 (fun K' hK => h4 K' ((show (#[true, true, true, true, false] : Array Bool).setIfInBounds 4 true = (#[true, true, true, true, true] : Array Bool) by kernel_rfl) ▸ hK)) AllReadyH.nil)
set_option maxRecDepth 100000 in
theorem cG4_012_3 {Q : Exit → Act → World → Prop} {S : World → Prop} {a : Act} {w : World}
    (h3 : ∀ K' : Act → World → Prop, Shut (∀ a w, S w → (S w → wpAnyH Try.prog .any opsG4 Q S 1 (#[true, true, true, true, false] : Array Bool) a w) → K' a w) → if Region.wanted qG4_3 (yielded opsG4 a.tmps) = true then Oper.wp Try.prog qG4_3 a w K' Q else K' (a.put (none) undef) w) :
    wpAnyH Try.prog .any opsG4 Q S 2 (#[true, true, true, false, false] : Array Bool) a w :=
  wpAnyH_ready (rs := [3]) (by kernel_rfl) (by simp) (AllReadyH.cons hG4_3 (fun K' hK => h3 K' ((show (#[true, true, true, false, false] : Array Bool).setIfInBounds 3 true = (#[true, true, true, true, false] : Array Bool) by kernel_rfl) ▸ hK)) AllReadyH.nil)
set_option maxRecDepth 100000 in
theorem cG4_01_2 {Q : Exit → Act → World → Prop} {S : World → Prop} {a : Act} {w : World}
    (h2 : ∀ K' : Act → World → Prop, Shut (∀ a w, S w → (S w → wpAnyH Try.prog .any opsG4 Q S 2 (#[true, true, true, false, false] : Array Bool) a w) → K' a w) → if Region.wanted qG4_2 (yielded opsG4 a.tmps) = true then Oper.wp Try.prog qG4_2 a w K' Q else K' (a.put (some 14) undef) w) :
    wpAnyH Try.prog .any opsG4 Q S 3 (#[true, true, false, false, false] : Array Bool) a w :=
  wpAnyH_ready (rs := [2]) (by kernel_rfl) (by simp) (AllReadyH.cons hG4_2 (fun K' hK => h2 K' ((show (#[true, true, false, false, false] : Array Bool).setIfInBounds 2 true = (#[true, true, true, false, false] : Array Bool) by kernel_rfl) ▸ hK)) AllReadyH.nil)
end Go.Proofs.Ytjplkoglibagkaa.hexes
