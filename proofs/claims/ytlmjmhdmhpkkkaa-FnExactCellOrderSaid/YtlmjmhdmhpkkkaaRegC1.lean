/-
  A statement of laws.FnExactCellOrder: its operations, and a theorem a step.
-/
import Derived.Test.YtlmjmhdmhpkkkaaProg
import Derived.WalkKit
import Derived.Deep.RegionHeld3
namespace Go.Proofs.Ytlmjmhdmhpkkkaa.hexes
open Go.RowKit

def findC1 (n : Nat) : Code → Option Code
  | .region id ops d => if id = n then some (.region id ops d) else none
  | .seq a b => match findC1 n a with
    | some c => some c
    | none => findC1 n b
  | .block _ c => findC1 n c
  | .scope c => findC1 n c
  | .loop c => findC1 n c
  | .cond _ a b => match findC1 n a with
    | some c => some c
    | none => findC1 n b
  | _ => none
def opsOfC1 : Option Code → Array Oper
  | some (.region _ ops _) => ops
  | _ => #[]
noncomputable def opsC1 : Array Oper := opsOfC1 (Try.f4.body.bind (findC1 1))
def schC1 : List Nat := [0, 2, 1, 3, 4, 5]
def LC1 (k : Nat) : Array Bool := ((List.range 6).map fun i => (schC1.take k).contains i).toArray
theorem noselC1 : Region.noSelect opsC1 = true := by kernel_rfl
def qC1_0 : Oper := { dst := some 7, op := Op.load 48 (Operand.tmp 2), type := 48, pos := "exact.go:3008", after := #[], guard := none }
theorem hC1_0 : opsC1[0]? = some qC1_0 := by kernel_rfl
theorem lC1_0 : (LC1 0).setIfInBounds 0 true = LC1 1 := by kernel_rfl
theorem tC1_0 {Q : Exit → Act → World → Prop} {S : World → Prop} {a : Act} {w : World} (v : Value) (hQ : ∀ c a w, Q (.panic c) (a.put (some 7) v) w → Q (.panic c) a w) (hy : YieldsIf Try.prog opsC1 S qC1_0 v a) (hS : S w)
    (h : wpAnyH Try.prog .any opsC1 Q S 5 (LC1 1) (a.put (some 7) v) w) : wpAnyH Try.prog .any opsC1 Q S 6 (LC1 0) a w :=
  wpAnyH_take (i := 0) hC1_0 noselC1 (by kernel_rfl) (by kernel_rfl) hQ hy hS (lC1_0.symm ▸ h)
def qC1_2 : Oper := { dst := some 9, op := Op.load 48 (Operand.tmp 3), type := 48, pos := "exact.go:3008", after := #[], guard := none }
theorem hC1_2 : opsC1[2]? = some qC1_2 := by kernel_rfl
theorem lC1_1 : (LC1 1).setIfInBounds 2 true = LC1 2 := by kernel_rfl
theorem tC1_1 {Q : Exit → Act → World → Prop} {S : World → Prop} {a : Act} {w : World} (v : Value) (hQ : ∀ c a w, Q (.panic c) (a.put (some 9) v) w → Q (.panic c) a w) (hy : YieldsIf Try.prog opsC1 S qC1_2 v a) (hS : S w)
    (h : wpAnyH Try.prog .any opsC1 Q S 4 (LC1 2) (a.put (some 9) v) w) : wpAnyH Try.prog .any opsC1 Q S 5 (LC1 1) a w :=
  wpAnyH_take (i := 2) hC1_2 noselC1 (by kernel_rfl) (by kernel_rfl) hQ hy hS (lC1_1.symm ▸ h)
def qC1_1 : Oper := { dst := some 8, op := Op.call { callee := Callee.value (Operand.func 32), args := #[Operand.tmp 7], argTypes := #[48] }, type := 26, pos := "exact.go:3008", after := #[{ on := 0, ground := Ground.data }], guard := none }
theorem hC1_1 : opsC1[1]? = some qC1_1 := by kernel_rfl
theorem lC1_2 : (LC1 2).setIfInBounds 1 true = LC1 3 := by kernel_rfl
set_option maxRecDepth 100000 in
theorem cC1_2 {Q : Exit → Act → World → Prop} {S : World → Prop} {a : Act} {w : World}
    (h : ∀ K' : Act → World → Prop, Shut (∀ a w, S w → (S w → wpAnyH Try.prog .any opsC1 Q S 3 (LC1 3) a w) → K' a w) → if Region.wanted qC1_1 (yielded opsC1 a.tmps) = true then Oper.wp Try.prog qC1_1 a w K' Q else K' (a.put (some 8) undef) w) :
    wpAnyH Try.prog .any opsC1 Q S 4 (LC1 2) a w :=
  wpAnyH_ready (rs := [1]) (by kernel_rfl) (by simp) (AllReadyH.cons hC1_1 (fun K' hK => h K' (lC1_2 ▸ hK)) AllReadyH.nil)
theorem tC1_2 {Q : Exit → Act → World → Prop} {S : World → Prop} {a : Act} {w : World} (v : Value) (hQ : ∀ c a w, Q (.panic c) (a.put (some 8) v) w → Q (.panic c) a w) (hy : YieldsIf Try.prog opsC1 S qC1_1 v a) (hS : S w)
    (h : wpAnyH Try.prog .any opsC1 Q S 3 (LC1 3) (a.put (some 8) v) w) : wpAnyH Try.prog .any opsC1 Q S 4 (LC1 2) a w :=
  wpAnyH_take (i := 1) hC1_1 noselC1 (by kernel_rfl) (by kernel_rfl) hQ hy hS (lC1_2.symm ▸ h)
def qC1_3 : Oper := { dst := some 10, op := Op.call { callee := Callee.value (Operand.func 32), args := #[Operand.tmp 9], argTypes := #[48] }, type := 26, pos := "exact.go:3008", after := #[{ on := 2, ground := Ground.data }, { on := 1, ground := Ground.chain }], guard := none }
theorem hC1_3 : opsC1[3]? = some qC1_3 := by kernel_rfl
theorem lC1_3 : (LC1 3).setIfInBounds 3 true = LC1 4 := by kernel_rfl
set_option maxRecDepth 100000 in
theorem cC1_3 {Q : Exit → Act → World → Prop} {S : World → Prop} {a : Act} {w : World}
    (h : ∀ K' : Act → World → Prop, Shut (∀ a w, S w → (S w → wpAnyH Try.prog .any opsC1 Q S 2 (LC1 4) a w) → K' a w) → if Region.wanted qC1_3 (yielded opsC1 a.tmps) = true then Oper.wp Try.prog qC1_3 a w K' Q else K' (a.put (some 10) undef) w) :
    wpAnyH Try.prog .any opsC1 Q S 3 (LC1 3) a w :=
  wpAnyH_ready (rs := [3]) (by kernel_rfl) (by simp) (AllReadyH.cons hC1_3 (fun K' hK => h K' (lC1_3 ▸ hK)) AllReadyH.nil)
theorem tC1_3 {Q : Exit → Act → World → Prop} {S : World → Prop} {a : Act} {w : World} (v : Value) (hQ : ∀ c a w, Q (.panic c) (a.put (some 10) v) w → Q (.panic c) a w) (hy : YieldsIf Try.prog opsC1 S qC1_3 v a) (hS : S w)
    (h : wpAnyH Try.prog .any opsC1 Q S 2 (LC1 4) (a.put (some 10) v) w) : wpAnyH Try.prog .any opsC1 Q S 3 (LC1 3) a w :=
  wpAnyH_take (i := 3) hC1_3 noselC1 (by kernel_rfl) (by kernel_rfl) hQ hy hS (lC1_3.symm ▸ h)
def qC1_4 : Oper := { dst := some 11, op := Op.call { callee := Callee.value (Operand.func 30), args := #[Operand.tmp 8, Operand.tmp 10], argTypes := #[26, 26] }, type := 3, pos := "exact.go:3008", after := #[{ on := 1, ground := Ground.data }, { on := 3, ground := Ground.data }, { on := 3, ground := Ground.chain }], guard := none }
theorem hC1_4 : opsC1[4]? = some qC1_4 := by kernel_rfl
theorem lC1_4 : (LC1 4).setIfInBounds 4 true = LC1 5 := by kernel_rfl
set_option maxRecDepth 100000 in
theorem cC1_4 {Q : Exit → Act → World → Prop} {S : World → Prop} {a : Act} {w : World}
    (h : ∀ K' : Act → World → Prop, Shut (∀ a w, S w → (S w → wpAnyH Try.prog .any opsC1 Q S 1 (LC1 5) a w) → K' a w) → if Region.wanted qC1_4 (yielded opsC1 a.tmps) = true then Oper.wp Try.prog qC1_4 a w K' Q else K' (a.put (some 11) undef) w) :
    wpAnyH Try.prog .any opsC1 Q S 2 (LC1 4) a w :=
  wpAnyH_ready (rs := [4]) (by kernel_rfl) (by simp) (AllReadyH.cons hC1_4 (fun K' hK => h K' (lC1_4 ▸ hK)) AllReadyH.nil)
theorem tC1_4 {Q : Exit → Act → World → Prop} {S : World → Prop} {a : Act} {w : World} (v : Value) (hQ : ∀ c a w, Q (.panic c) (a.put (some 11) v) w → Q (.panic c) a w) (hy : YieldsIf Try.prog opsC1 S qC1_4 v a) (hS : S w)
    (h : wpAnyH Try.prog .any opsC1 Q S 1 (LC1 5) (a.put (some 11) v) w) : wpAnyH Try.prog .any opsC1 Q S 2 (LC1 4) a w :=
  wpAnyH_take (i := 4) hC1_4 noselC1 (by kernel_rfl) (by kernel_rfl) hQ hy hS (lC1_4.symm ▸ h)
def qC1_5 : Oper := { dst := some 5, op := Op.assign (Operand.tmp 11), type := 3, pos := "exact.go:3008", after := #[{ on := 4, ground := Ground.data }, { on := 4, ground := Ground.chain }, { on := 0, ground := Ground.phase }, { on := 1, ground := Ground.phase }, { on := 2, ground := Ground.phase }, { on := 3, ground := Ground.phase }, { on := 4, ground := Ground.phase }], guard := none }
theorem hC1_5 : opsC1[5]? = some qC1_5 := by kernel_rfl
theorem lC1_5 : (LC1 5).setIfInBounds 5 true = LC1 6 := by kernel_rfl
theorem tC1_5 {Q : Exit → Act → World → Prop} {S : World → Prop} {a : Act} {w : World} (v : Value) (hQ : ∀ c a w, Q (.panic c) (a.put (some 5) v) w → Q (.panic c) a w) (hy : YieldsIf Try.prog opsC1 S qC1_5 v a) (hS : S w)
    (h : wpAnyH Try.prog .any opsC1 Q S 0 (LC1 6) (a.put (some 5) v) w) : wpAnyH Try.prog .any opsC1 Q S 1 (LC1 5) a w :=
  wpAnyH_take (i := 5) hC1_5 noselC1 (by kernel_rfl) (by kernel_rfl) hQ hy hS (lC1_5.symm ▸ h)
end Go.Proofs.Ytlmjmhdmhpkkkaa.hexes
