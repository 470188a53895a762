/-
  A statement of laws.FnExactCellOrder: its operations, and a theorem a step.
-/
import Derived.Test.YtlmjmhdmhpkkkaaProg
import Derived.WalkKit
import Derived.Deep.RegionHeld3
namespace Go.Proofs.Ytlmjmhdmhpkkkaa.hexes
open Go.RowKit

def findC2 (n : Nat) : Code → Option Code
  | .region id ops d => if id = n then some (.region id ops d) else none
  | .seq a b => match findC2 n a with
    | some c => some c
    | none => findC2 n b
  | .block _ c => findC2 n c
  | .scope c => findC2 n c
  | .loop c => findC2 n c
  | .cond _ a b => match findC2 n a with
    | some c => some c
    | none => findC2 n b
  | _ => none
def opsOfC2 : Option Code → Array Oper
  | some (.region _ ops _) => ops
  | _ => #[]
noncomputable def opsC2 : Array Oper := opsOfC2 (Try.f4.body.bind (findC2 2))
def schC2 : List Nat := [0, 2, 1, 3, 4, 5]
def LC2 (k : Nat) : Array Bool := ((List.range 6).map fun i => (schC2.take k).contains i).toArray
theorem noselC2 : Region.noSelect opsC2 = true := by kernel_rfl
def qC2_0 : Oper := { dst := some 12, op := Op.load 48 (Operand.tmp 2), type := 48, pos := "exact.go:3009", after := #[], guard := none }
theorem hC2_0 : opsC2[0]? = some qC2_0 := by kernel_rfl
theorem lC2_0 : (LC2 0).setIfInBounds 0 true = LC2 1 := by kernel_rfl
theorem tC2_0 {Q : Exit → Act → World → Prop} {S : World → Prop} {a : Act} {w : World} (v : Value) (hQ : ∀ c a w, Q (.panic c) (a.put (some 12) v) w → Q (.panic c) a w) (hy : YieldsIf Try.prog opsC2 S qC2_0 v a) (hS : S w)
    (h : wpAnyH Try.prog .any opsC2 Q S 5 (LC2 1) (a.put (some 12) v) w) : wpAnyH Try.prog .any opsC2 Q S 6 (LC2 0) a w :=
  wpAnyH_take (i := 0) hC2_0 noselC2 (by kernel_rfl) (by kernel_rfl) hQ hy hS (lC2_0.symm ▸ h)
def qC2_2 : Oper := { dst := some 14, op := Op.load 48 (Operand.tmp 3), type := 48, pos := "exact.go:3009", after := #[], guard := none }
theorem hC2_2 : opsC2[2]? = some qC2_2 := by kernel_rfl
theorem lC2_1 : (LC2 1).setIfInBounds 2 true = LC2 2 := by kernel_rfl
theorem tC2_1 {Q : Exit → Act → World → Prop} {S : World → Prop} {a : Act} {w : World} (v : Value) (hQ : ∀ c a w, Q (.panic c) (a.put (some 14) v) w → Q (.panic c) a w) (hy : YieldsIf Try.prog opsC2 S qC2_2 v a) (hS : S w)
    (h : wpAnyH Try.prog .any opsC2 Q S 4 (LC2 2) (a.put (some 14) v) w) : wpAnyH Try.prog .any opsC2 Q S 5 (LC2 1) a w :=
  wpAnyH_take (i := 2) hC2_2 noselC2 (by kernel_rfl) (by kernel_rfl) hQ hy hS (lC2_1.symm ▸ h)
def qC2_1 : Oper := { dst := some 13, op := Op.call { callee := Callee.value (Operand.func 32), args := #[Operand.tmp 12], argTypes := #[48] }, type := 26, pos := "exact.go:3009", after := #[{ on := 0, ground := Ground.data }], guard := none }
theorem hC2_1 : opsC2[1]? = some qC2_1 := by kernel_rfl
theorem lC2_2 : (LC2 2).setIfInBounds 1 true = LC2 3 := by kernel_rfl
set_option maxRecDepth 100000 in
theorem cC2_2 {Q : Exit → Act → World → Prop} {S : World → Prop} {a : Act} {w : World}
    (h : ∀ K' : Act → World → Prop, Shut (∀ a w, S w → (S w → wpAnyH Try.prog .any opsC2 Q S 3 (LC2 3) a w) → K' a w) → if Region.wanted qC2_1 (yielded opsC2 a.tmps) = true then Oper.wp Try.prog qC2_1 a w K' Q else K' (a.put (some 13) undef) w) :
    wpAnyH Try.prog .any opsC2 Q S 4 (LC2 2) a w :=
  wpAnyH_ready (rs := [1]) (by kernel_rfl) (by simp) (AllReadyH.cons hC2_1 (fun K' hK => h K' (lC2_2 ▸ hK)) AllReadyH.nil)
theorem tC2_2 {Q : Exit → Act → World → Prop} {S : World → Prop} {a : Act} {w : World} (v : Value) (hQ : ∀ c a w, Q (.panic c) (a.put (some 13) v) w → Q (.panic c) a w) (hy : YieldsIf Try.prog opsC2 S qC2_1 v a) (hS : S w)
    (h : wpAnyH Try.prog .any opsC2 Q S 3 (LC2 3) (a.put (some 13) v) w) : wpAnyH Try.prog .any opsC2 Q S 4 (LC2 2) a w :=
  wpAnyH_take (i := 1) hC2_1 noselC2 (by kernel_rfl) (by kernel_rfl) hQ hy hS (lC2_2.symm ▸ h)
def qC2_3 : Oper := { dst := some 15, op := Op.call { callee := Callee.value (Operand.func 32), args := #[Operand.tmp 14], argTypes := #[48] }, type := 26, pos := "exact.go:3009", after := #[{ on := 2, ground := Ground.data }, { on := 1, ground := Ground.chain }], guard := none }
theorem hC2_3 : opsC2[3]? = some qC2_3 := by kernel_rfl
theorem lC2_3 : (LC2 3).setIfInBounds 3 true = LC2 4 := by kernel_rfl
set_option maxRecDepth 100000 in
theorem cC2_3 {Q : Exit → Act → World → Prop} {S : World → Prop} {a : Act} {w : World}
    (h : ∀ K' : Act → World → Prop, Shut (∀ a w, S w → (S w → wpAnyH Try.prog .any opsC2 Q S 2 (LC2 4) a w) → K' a w) → if Region.wanted qC2_3 (yielded opsC2 a.tmps) = true then Oper.wp Try.prog qC2_3 a w K' Q else K' (a.put (some 15) undef) w) :
    wpAnyH Try.prog .any opsC2 Q S 3 (LC2 3) a w :=
  wpAnyH_ready (rs := [3]) (by kernel_rfl) (by simp) (AllReadyH.cons hC2_3 (fun K' hK => h K' (lC2_3 ▸ hK)) AllReadyH.nil)
theorem tC2_3 {Q : Exit → Act → World → Prop} {S : World → Prop} {a : Act} {w : World} (v : Value) (hQ : ∀ c a w, Q (.panic c) (a.put (some 15) v) w → Q (.panic c) a w) (hy : YieldsIf Try.prog opsC2 S qC2_3 v a) (hS : S w)
    (h : wpAnyH Try.prog .any opsC2 Q S 2 (LC2 4) (a.put (some 15) v) w) : wpAnyH Try.prog .any opsC2 Q S 3 (LC2 3) a w :=
  wpAnyH_take (i := 3) hC2_3 noselC2 (by kernel_rfl) (by kernel_rfl) hQ hy hS (lC2_3.symm ▸ h)
def qC2_4 : Oper := { dst := some 16, op := Op.call { callee := Callee.value (Operand.func 29), args := #[Operand.tmp 13, Operand.tmp 15], argTypes := #[26, 26] }, type := 3, pos := "exact.go:3009", after := #[{ on := 1, ground := Ground.data }, { on := 3, ground := Ground.data }, { on := 3, ground := Ground.chain }], guard := none }
theorem hC2_4 : opsC2[4]? = some qC2_4 := by kernel_rfl
theorem lC2_4 : (LC2 4).setIfInBounds 4 true = LC2 5 := by kernel_rfl
set_option maxRecDepth 100000 in
theorem cC2_4 {Q : Exit → Act → World → Prop} {S : World → Prop} {a : Act} {w : World}
    (h : ∀ K' : Act → World → Prop, Shut (∀ a w, S w → (S w → wpAnyH Try.prog .any opsC2 Q S 1 (LC2 5) a w) → K' a w) → if Region.wanted qC2_4 (yielded opsC2 a.tmps) = true then Oper.wp Try.prog qC2_4 a w K' Q else K' (a.put (some 16) undef) w) :
    wpAnyH Try.prog .any opsC2 Q S 2 (LC2 4) a w :=
  wpAnyH_ready (rs := [4]) (by kernel_rfl) (by simp) (AllReadyH.cons hC2_4 (fun K' hK => h K' (lC2_4 ▸ hK)) AllReadyH.nil)
theorem tC2_4 {Q : Exit → Act → World → Prop} {S : World → Prop} {a : Act} {w : World} (v : Value) (hQ : ∀ c a w, Q (.panic c) (a.put (some 16) v) w → Q (.panic c) a w) (hy : YieldsIf Try.prog opsC2 S qC2_4 v a) (hS : S w)
    (h : wpAnyH Try.prog .any opsC2 Q S 1 (LC2 5) (a.put (some 16) v) w) : wpAnyH Try.prog .any opsC2 Q S 2 (LC2 4) a w :=
  wpAnyH_take (i := 4) hC2_4 noselC2 (by kernel_rfl) (by kernel_rfl) hQ hy hS (lC2_4.symm ▸ h)
def qC2_5 : Oper := { dst := some 6, op := Op.assign (Operand.tmp 16), type := 3, pos := "exact.go:3009", after := #[{ on := 4, ground := Ground.data }, { on := 4, ground := Ground.chain }, { on := 0, ground := Ground.phase }, { on := 1, ground := Ground.phase }, { on := 2, ground := Ground.phase }, { on := 3, ground := Ground.phase }, { on := 4, ground := Ground.phase }], guard := none }
theorem hC2_5 : opsC2[5]? = some qC2_5 := by kernel_rfl
theorem lC2_5 : (LC2 5).setIfInBounds 5 true = LC2 6 := by kernel_rfl
theorem tC2_5 {Q : Exit → Act → World → Prop} {S : World → Prop} {a : Act} {w : World} (v : Value) (hQ : ∀ c a w, Q (.panic c) (a.put (some 6) v) w → Q (.panic c) a w) (hy : YieldsIf Try.prog opsC2 S qC2_5 v a) (hS : S w)
    (h : wpAnyH Try.prog .any opsC2 Q S 0 (LC2 6) (a.put (some 6) v) w) : wpAnyH Try.prog .any opsC2 Q S 1 (LC2 5) a w :=
  wpAnyH_take (i := 5) hC2_5 noselC2 (by kernel_rfl) (by kernel_rfl) hQ hy hS (lC2_5.symm ▸ h)
end Go.Proofs.Ytlmjmhdmhpkkkaa.hexes
