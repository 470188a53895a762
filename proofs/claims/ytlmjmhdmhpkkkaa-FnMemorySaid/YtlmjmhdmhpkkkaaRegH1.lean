/-
  A statement of impl.HasCell: its operations, and a theorem a step.
-/
import Derived.Test.YtlmjmhdmhpkkkaaProg
import Derived.WalkKit
import Derived.Deep.RegionHeld3
namespace Go.Proofs.Ytlmjmhdmhpkkkaa.hexes
open Go.RowKit

def findH1 (n : Nat) : Code → Option Code
  | .region id ops d => if id = n then some (.region id ops d) else none
  | .seq a b => match findH1 n a with
    | some c => some c
    | none => findH1 n b
  | .block _ c => findH1 n c
  | .scope c => findH1 n c
  | .loop c => findH1 n c
  | .cond _ a b => match findH1 n a with
    | some c => some c
    | none => findH1 n b
  | _ => none
def opsOfH1 : Option Code → Array Oper
  | some (.region _ ops _) => ops
  | _ => #[]
noncomputable def opsH1 : Array Oper := opsOfH1 (Try.f26.body.bind (findH1 1))
def schH1 : List Nat := [0, 2, 1, 3, 4]
def LH1 (k : Nat) : Array Bool := ((List.range 5).map fun i => (schH1.take k).contains i).toArray
theorem noselH1 : Region.noSelect opsH1 = true := by kernel_rfl
def qH1_0 : Oper := { dst := some 5, op := Op.move (Operand.tmp 0), type := 24, pos := "l09_memory.go:73", after := #[], guard := none }
theorem hH1_0 : opsH1[0]? = some qH1_0 := by kernel_rfl
theorem lH1_0 : (LH1 0).setIfInBounds 0 true = LH1 1 := by kernel_rfl
theorem tH1_0 {Q : Exit → Act → World → Prop} {S : World → Prop} {a : Act} {w : World} (v : Value) (hQ : ∀ c a w, Q (.panic c) (a.put (some 5) v) w → Q (.panic c) a w) (hy : YieldsIf Try.prog opsH1 S qH1_0 v a) (hS : S w)
    (h : wpAnyH Try.prog .any opsH1 Q S 4 (LH1 1) (a.put (some 5) v) w) : wpAnyH Try.prog .any opsH1 Q S 5 (LH1 0) a w :=
  wpAnyH_take (i := 0) hH1_0 noselH1 (by kernel_rfl) (by kernel_rfl) hQ hy hS (lH1_0.symm ▸ h)
def qH1_2 : Oper := { dst := some 7, op := Op.load 26 (Operand.tmp 3), type := 26, pos := "l09_memory.go:73", after := #[], guard := none }
theorem hH1_2 : opsH1[2]? = some qH1_2 := by kernel_rfl
theorem lH1_1 : (LH1 1).setIfInBounds 2 true = LH1 2 := by kernel_rfl
theorem tH1_1 {Q : Exit → Act → World → Prop} {S : World → Prop} {a : Act} {w : World} (v : Value) (hQ : ∀ c a w, Q (.panic c) (a.put (some 7) v) w → Q (.panic c) a w) (hy : YieldsIf Try.prog opsH1 S qH1_2 v a) (hS : S w)
    (h : wpAnyH Try.prog .any opsH1 Q S 3 (LH1 2) (a.put (some 7) v) w) : wpAnyH Try.prog .any opsH1 Q S 4 (LH1 1) a w :=
  wpAnyH_take (i := 2) hH1_2 noselH1 (by kernel_rfl) (by kernel_rfl) hQ hy hS (lH1_1.symm ▸ h)
def qH1_1 : Oper := { dst := some 6, op := Op.call { callee := Callee.value (Operand.func 45), args := #[Operand.tmp 5], argTypes := #[24] }, type := 70, pos := "l09_memory.go:73", after := #[{ on := 0, ground := Ground.data }], guard := none }
theorem hH1_1 : opsH1[1]? = some qH1_1 := by kernel_rfl
theorem lH1_2 : (LH1 2).setIfInBounds 1 true = LH1 3 := by kernel_rfl
set_option maxRecDepth 100000 in
theorem cH1_2 {Q : Exit → Act → World → Prop} {S : World → Prop} {a : Act} {w : World}
    (h : ∀ K' : Act → World → Prop, Shut (∀ a w, S w → (S w → wpAnyH Try.prog .any opsH1 Q S 2 (LH1 3) a w) → K' a w) → if Region.wanted qH1_1 (yielded opsH1 a.tmps) = true then Oper.wp Try.prog qH1_1 a w K' Q else K' (a.put (some 6) undef) w) :
    wpAnyH Try.prog .any opsH1 Q S 3 (LH1 2) a w :=
  wpAnyH_ready (rs := [1]) (by kernel_rfl) (by simp) (AllReadyH.cons hH1_1 (fun K' hK => h K' (lH1_2 ▸ hK)) AllReadyH.nil)
theorem tH1_2 {Q : Exit → Act → World → Prop} {S : World → Prop} {a : Act} {w : World} (v : Value) (hQ : ∀ c a w, Q (.panic c) (a.put (some 6) v) w → Q (.panic c) a w) (hy : YieldsIf Try.prog opsH1 S qH1_1 v a) (hS : S w)
    (h : wpAnyH Try.prog .any opsH1 Q S 2 (LH1 3) (a.put (some 6) v) w) : wpAnyH Try.prog .any opsH1 Q S 3 (LH1 2) a w :=
  wpAnyH_take (i := 1) hH1_1 noselH1 (by kernel_rfl) (by kernel_rfl) hQ hy hS (lH1_2.symm ▸ h)
def qH1_3 : Oper := { dst := some 8, op := Op.call { callee := Callee.value (Operand.func 50), args := #[Operand.tmp 6, Operand.tmp 7], argTypes := #[70, 26] }, type := 4, pos := "l09_memory.go:73", after := #[{ on := 1, ground := Ground.data }, { on := 2, ground := Ground.data }, { on := 1, ground := Ground.chain }], guard := none }
theorem hH1_3 : opsH1[3]? = some qH1_3 := by kernel_rfl
theorem lH1_3 : (LH1 3).setIfInBounds 3 true = LH1 4 := by kernel_rfl
set_option maxRecDepth 100000 in
theorem cH1_3 {Q : Exit → Act → World → Prop} {S : World → Prop} {a : Act} {w : World}
    (h : ∀ K' : Act → World → Prop, Shut (∀ a w, S w → (S w → wpAnyH Try.prog .any opsH1 Q S 1 (LH1 4) a w) → K' a w) → if Region.wanted qH1_3 (yielded opsH1 a.tmps) = true then Oper.wp Try.prog qH1_3 a w K' Q else K' (a.put (some 8) undef) w) :
    wpAnyH Try.prog .any opsH1 Q S 2 (LH1 3) a w :=
  wpAnyH_ready (rs := [3]) (by kernel_rfl) (by simp) (AllReadyH.cons hH1_3 (fun K' hK => h K' (lH1_3 ▸ hK)) AllReadyH.nil)
theorem tH1_3 {Q : Exit → Act → World → Prop} {S : World → Prop} {a : Act} {w : World} (v : Value) (hQ : ∀ c a w, Q (.panic c) (a.put (some 8) v) w → Q (.panic c) a w) (hy : YieldsIf Try.prog opsH1 S qH1_3 v a) (hS : S w)
    (h : wpAnyH Try.prog .any opsH1 Q S 1 (LH1 4) (a.put (some 8) v) w) : wpAnyH Try.prog .any opsH1 Q S 2 (LH1 3) a w :=
  wpAnyH_take (i := 3) hH1_3 noselH1 (by kernel_rfl) (by kernel_rfl) hQ hy hS (lH1_3.symm ▸ h)
def qH1_4 : Oper := { dst := some 4, op := Op.assign (Operand.tmp 8), type := 4, pos := "l09_memory.go:73", after := #[{ on := 3, ground := Ground.data }, { on := 3, ground := Ground.chain }, { on := 0, ground := Ground.phase }, { on := 1, ground := Ground.phase }, { on := 2, ground := Ground.phase }, { on := 3, ground := Ground.phase }], guard := none }
theorem hH1_4 : opsH1[4]? = some qH1_4 := by kernel_rfl
theorem lH1_4 : (LH1 4).setIfInBounds 4 true = LH1 5 := by kernel_rfl
theorem tH1_4 {Q : Exit → Act → World → Prop} {S : World → Prop} {a : Act} {w : World} (v : Value) (hQ : ∀ c a w, Q (.panic c) (a.put (some 4) v) w → Q (.panic c) a w) (hy : YieldsIf Try.prog opsH1 S qH1_4 v a) (hS : S w)
    (h : wpAnyH Try.prog .any opsH1 Q S 0 (LH1 5) (a.put (some 4) v) w) : wpAnyH Try.prog .any opsH1 Q S 1 (LH1 4) a w :=
  wpAnyH_take (i := 4) hH1_4 noselH1 (by kernel_rfl) (by kernel_rfl) hQ hy hS (lH1_4.symm ▸ h)
end Go.Proofs.Ytlmjmhdmhpkkkaa.hexes
