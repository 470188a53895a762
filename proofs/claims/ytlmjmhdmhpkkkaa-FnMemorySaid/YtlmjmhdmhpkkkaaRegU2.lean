/-
  A statement of impl.PutCell: its operations, and a theorem a step.
-/
import Derived.Test.YtlmjmhdmhpkkkaaProg
import Derived.WalkKit
import Derived.Deep.RegionHeld3
namespace Go.Proofs.Ytlmjmhdmhpkkkaa.hexes
open Go.RowKit

def findU2 (n : Nat) : Code → Option Code
  | .region id ops d => if id = n then some (.region id ops d) else none
  | .seq a b => match findU2 n a with
    | some c => some c
    | none => findU2 n b
  | .block _ c => findU2 n c
  | .scope c => findU2 n c
  | .loop c => findU2 n c
  | .cond _ a b => match findU2 n a with
    | some c => some c
    | none => findU2 n b
  | _ => none
def opsOfU2 : Option Code → Array Oper
  | some (.region _ ops _) => ops
  | _ => #[]
noncomputable def opsU2 : Array Oper := opsOfU2 (Try.f19.body.bind (findU2 1))
def schU2 : List Nat := [0, 2, 1, 3, 4]
def LU2 (k : Nat) : Array Bool := ((List.range 5).map fun i => (schU2.take k).contains i).toArray
theorem noselU2 : Region.noSelect opsU2 = true := by kernel_rfl
def qU2_0 : Oper := { dst := some 5, op := Op.move (Operand.tmp 0), type := 24, pos := "l09_memory.go:69", after := #[], guard := none }
theorem hU2_0 : opsU2[0]? = some qU2_0 := by kernel_rfl
theorem lU2_0 : (LU2 0).setIfInBounds 0 true = LU2 1 := by kernel_rfl
theorem tU2_0 {Q : Exit → Act → World → Prop} {S : World → Prop} {a : Act} {w : World} (v : Value) (hQ : ∀ c a w, Q (.panic c) (a.put (some 5) v) w → Q (.panic c) a w) (hy : YieldsIf Try.prog opsU2 S qU2_0 v a) (hS : S w)
    (h : wpAnyH Try.prog .any opsU2 Q S 4 (LU2 1) (a.put (some 5) v) w) : wpAnyH Try.prog .any opsU2 Q S 5 (LU2 0) a w :=
  wpAnyH_take (i := 0) hU2_0 noselU2 (by kernel_rfl) (by kernel_rfl) hQ hy hS (lU2_0.symm ▸ h)
def qU2_2 : Oper := { dst := some 7, op := Op.load 26 (Operand.tmp 3), type := 26, pos := "l09_memory.go:69", after := #[], guard := none }
theorem hU2_2 : opsU2[2]? = some qU2_2 := by kernel_rfl
theorem lU2_1 : (LU2 1).setIfInBounds 2 true = LU2 2 := by kernel_rfl
theorem tU2_1 {Q : Exit → Act → World → Prop} {S : World → Prop} {a : Act} {w : World} (v : Value) (hQ : ∀ c a w, Q (.panic c) (a.put (some 7) v) w → Q (.panic c) a w) (hy : YieldsIf Try.prog opsU2 S qU2_2 v a) (hS : S w)
    (h : wpAnyH Try.prog .any opsU2 Q S 3 (LU2 2) (a.put (some 7) v) w) : wpAnyH Try.prog .any opsU2 Q S 4 (LU2 1) a w :=
  wpAnyH_take (i := 2) hU2_2 noselU2 (by kernel_rfl) (by kernel_rfl) hQ hy hS (lU2_1.symm ▸ h)
def qU2_1 : Oper := { dst := some 6, op := Op.call { callee := Callee.value (Operand.func 45), args := #[Operand.tmp 5], argTypes := #[24] }, type := 70, pos := "l09_memory.go:69", after := #[{ on := 0, ground := Ground.data }], guard := none }
theorem hU2_1 : opsU2[1]? = some qU2_1 := by kernel_rfl
theorem lU2_2 : (LU2 2).setIfInBounds 1 true = LU2 3 := by kernel_rfl
set_option maxRecDepth 100000 in
theorem cU2_2 {Q : Exit → Act → World → Prop} {S : World → Prop} {a : Act} {w : World}
    (h : ∀ K' : Act → World → Prop, Shut (∀ a w, S w → (S w → wpAnyH Try.prog .any opsU2 Q S 2 (LU2 3) a w) → K' a w) → if Region.wanted qU2_1 (yielded opsU2 a.tmps) = true then Oper.wp Try.prog qU2_1 a w K' Q else K' (a.put (some 6) undef) w) :
    wpAnyH Try.prog .any opsU2 Q S 3 (LU2 2) a w :=
  wpAnyH_ready (rs := [1]) (by kernel_rfl) (by simp) (AllReadyH.cons hU2_1 (fun K' hK => h K' (lU2_2 ▸ hK)) AllReadyH.nil)
theorem tU2_2 {Q : Exit → Act → World → Prop} {S : World → Prop} {a : Act} {w : World} (v : Value) (hQ : ∀ c a w, Q (.panic c) (a.put (some 6) v) w → Q (.panic c) a w) (hy : YieldsIf Try.prog opsU2 S qU2_1 v a) (hS : S w)
    (h : wpAnyH Try.prog .any opsU2 Q S 2 (LU2 3) (a.put (some 6) v) w) : wpAnyH Try.prog .any opsU2 Q S 3 (LU2 2) a w :=
  wpAnyH_take (i := 1) hU2_1 noselU2 (by kernel_rfl) (by kernel_rfl) hQ hy hS (lU2_2.symm ▸ h)
def qU2_3 : Oper := { dst := some 8, op := Op.call { callee := Callee.value (Operand.func 47), args := #[Operand.tmp 6, Operand.tmp 7], argTypes := #[70, 26] }, type := 24, pos := "l09_memory.go:69", after := #[{ on := 1, ground := Ground.data }, { on := 2, ground := Ground.data }, { on := 1, ground := Ground.chain }], guard := none }
theorem hU2_3 : opsU2[3]? = some qU2_3 := by kernel_rfl
theorem lU2_3 : (LU2 3).setIfInBounds 3 true = LU2 4 := by kernel_rfl
set_option maxRecDepth 100000 in
theorem cU2_3 {Q : Exit → Act → World → Prop} {S : World → Prop} {a : Act} {w : World}
    (h : ∀ K' : Act → World → Prop, Shut (∀ a w, S w → (S w → wpAnyH Try.prog .any opsU2 Q S 1 (LU2 4) a w) → K' a w) → if Region.wanted qU2_3 (yielded opsU2 a.tmps) = true then Oper.wp Try.prog qU2_3 a w K' Q else K' (a.put (some 8) undef) w) :
    wpAnyH Try.prog .any opsU2 Q S 2 (LU2 3) a w :=
  wpAnyH_ready (rs := [3]) (by kernel_rfl) (by simp) (AllReadyH.cons hU2_3 (fun K' hK => h K' (lU2_3 ▸ hK)) AllReadyH.nil)
theorem tU2_3 {Q : Exit → Act → World → Prop} {S : World → Prop} {a : Act} {w : World} (v : Value) (hQ : ∀ c a w, Q (.panic c) (a.put (some 8) v) w → Q (.panic c) a w) (hy : YieldsIf Try.prog opsU2 S qU2_3 v a) (hS : S w)
    (h : wpAnyH Try.prog .any opsU2 Q S 1 (LU2 4) (a.put (some 8) v) w) : wpAnyH Try.prog .any opsU2 Q S 2 (LU2 3) a w :=
  wpAnyH_take (i := 3) hU2_3 noselU2 (by kernel_rfl) (by kernel_rfl) hQ hy hS (lU2_3.symm ▸ h)
def qU2_4 : Oper := { dst := some 4, op := Op.assign (Operand.tmp 8), type := 24, pos := "l09_memory.go:69", after := #[{ on := 3, ground := Ground.data }, { on := 3, ground := Ground.chain }, { on := 0, ground := Ground.phase }, { on := 1, ground := Ground.phase }, { on := 2, ground := Ground.phase }, { on := 3, ground := Ground.phase }], guard := none }
theorem hU2_4 : opsU2[4]? = some qU2_4 := by kernel_rfl
theorem lU2_4 : (LU2 4).setIfInBounds 4 true = LU2 5 := by kernel_rfl
theorem tU2_4 {Q : Exit → Act → World → Prop} {S : World → Prop} {a : Act} {w : World} (v : Value) (hQ : ∀ c a w, Q (.panic c) (a.put (some 4) v) w → Q (.panic c) a w) (hy : YieldsIf Try.prog opsU2 S qU2_4 v a) (hS : S w)
    (h : wpAnyH Try.prog .any opsU2 Q S 0 (LU2 5) (a.put (some 4) v) w) : wpAnyH Try.prog .any opsU2 Q S 1 (LU2 4) a w :=
  wpAnyH_take (i := 4) hU2_4 noselU2 (by kernel_rfl) (by kernel_rfl) hQ hy hS (lU2_4.symm ▸ h)
end Go.Proofs.Ytlmjmhdmhpkkkaa.hexes
