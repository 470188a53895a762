/-
  A statement of laws.FnExactRecordOrder: its operations, and a theorem a step.
-/
import Derived.Test.YtdmbkjebagnloaaProg
import Derived.WalkKit
import Derived.Deep.RegionHeld3
namespace Go.Proofs.Ytdmbkjebagnloaa.hexes
open Go.RowKit

def findL1 (n : Nat) : Code → Option Code
  | .region id ops d => if id = n then some (.region id ops d) else none
  | .seq a b => match findL1 n a with
    | some c => some c
    | none => findL1 n b
  | .block _ c => findL1 n c
  | .scope c => findL1 n c
  | .loop c => findL1 n c
  | .cond _ a b => match findL1 n a with
    | some c => some c
    | none => findL1 n b
  | _ => none
def opsOfL1 : Option Code → Array Oper
  | some (.region _ ops _) => ops
  | _ => #[]
noncomputable def opsL1 : Array Oper := opsOfL1 (Try.f5.body.bind (findL1 1))
def schL1 : List Nat := [0, 2, 1, 3, 4, 5]
def LL1 (k : Nat) : Array Bool := ((List.range 6).map fun i => (schL1.take k).contains i).toArray
theorem noselL1 : Region.noSelect opsL1 = true := by kernel_rfl
def qL1_0 : Oper := { dst := some 7, op := Op.load 32 (Operand.tmp 2), type := 32, pos := "exact.go:2325", after := #[], guard := none }
theorem hL1_0 : opsL1[0]? = some qL1_0 := by kernel_rfl
theorem lL1_0 : (LL1 0).setIfInBounds 0 true = LL1 1 := by kernel_rfl
theorem tL1_0 {Q : Exit → Act → World → Prop} {S : World → Prop} {a : Act} {w : World} (v : Value) (hQ : ∀ c a w, Q (.panic c) (a.put (some 7) v) w → Q (.panic c) a w) (hy : YieldsIf Try.prog opsL1 S qL1_0 v a) (hS : S w)
    (h : wpAnyH Try.prog .any opsL1 Q S 5 (LL1 1) (a.put (some 7) v) w) : wpAnyH Try.prog .any opsL1 Q S 6 (LL1 0) a w :=
  wpAnyH_take (i := 0) hL1_0 noselL1 (by kernel_rfl) (by kernel_rfl) hQ hy hS (lL1_0.symm ▸ h)
def qL1_2 : Oper := { dst := some 9, op := Op.load 32 (Operand.tmp 3), type := 32, pos := "exact.go:2325", after := #[], guard := none }
theorem hL1_2 : opsL1[2]? = some qL1_2 := by kernel_rfl
theorem lL1_1 : (LL1 1).setIfInBounds 2 true = LL1 2 := by kernel_rfl
theorem tL1_1 {Q : Exit → Act → World → Prop} {S : World → Prop} {a : Act} {w : World} (v : Value) (hQ : ∀ c a w, Q (.panic c) (a.put (some 9) v) w → Q (.panic c) a w) (hy : YieldsIf Try.prog opsL1 S qL1_2 v a) (hS : S w)
    (h : wpAnyH Try.prog .any opsL1 Q S 4 (LL1 2) (a.put (some 9) v) w) : wpAnyH Try.prog .any opsL1 Q S 5 (LL1 1) a w :=
  wpAnyH_take (i := 2) hL1_2 noselL1 (by kernel_rfl) (by kernel_rfl) hQ hy hS (lL1_1.symm ▸ h)
def qL1_1 : Oper := { dst := some 8, op := Op.call { callee := Callee.value (Operand.func 17), args := #[Operand.tmp 7], argTypes := #[32] }, type := 36, pos := "exact.go:2325", after := #[{ on := 0, ground := Ground.data }], guard := none }
theorem hL1_1 : opsL1[1]? = some qL1_1 := by kernel_rfl
theorem lL1_2 : (LL1 2).setIfInBounds 1 true = LL1 3 := by kernel_rfl
set_option maxRecDepth 100000 in
theorem cL1_2 {Q : Exit → Act → World → Prop} {S : World → Prop} {a : Act} {w : World}
    (h : ∀ K' : Act → World → Prop, Shut (∀ a w, S w → (S w → wpAnyH Try.prog .any opsL1 Q S 3 (LL1 3) a w) → K' a w) → if Region.wanted qL1_1 (yielded opsL1 a.tmps) = true then Oper.wp Try.prog qL1_1 a w K' Q else K' (a.put (some 8) undef) w) :
    wpAnyH Try.prog .any opsL1 Q S 4 (LL1 2) a w :=
  wpAnyH_ready (rs := [1]) (by kernel_rfl) (by simp) (AllReadyH.cons hL1_1 (fun K' hK => h K' (lL1_2 ▸ hK)) AllReadyH.nil)
theorem tL1_2 {Q : Exit → Act → World → Prop} {S : World → Prop} {a : Act} {w : World} (v : Value) (hQ : ∀ c a w, Q (.panic c) (a.put (some 8) v) w → Q (.panic c) a w) (hy : YieldsIf Try.prog opsL1 S qL1_1 v a) (hS : S w)
    (h : wpAnyH Try.prog .any opsL1 Q S 3 (LL1 3) (a.put (some 8) v) w) : wpAnyH Try.prog .any opsL1 Q S 4 (LL1 2) a w :=
  wpAnyH_take (i := 1) hL1_1 noselL1 (by kernel_rfl) (by kernel_rfl) hQ hy hS (lL1_2.symm ▸ h)
def qL1_3 : Oper := { dst := some 10, op := Op.call { callee := Callee.value (Operand.func 17), args := #[Operand.tmp 9], argTypes := #[32] }, type := 36, pos := "exact.go:2325", after := #[{ on := 2, ground := Ground.data }, { on := 1, ground := Ground.chain }], guard := none }
theorem hL1_3 : opsL1[3]? = some qL1_3 := by kernel_rfl
theorem lL1_3 : (LL1 3).setIfInBounds 3 true = LL1 4 := by kernel_rfl
set_option maxRecDepth 100000 in
theorem cL1_3 {Q : Exit → Act → World → Prop} {S : World → Prop} {a : Act} {w : World}
    (h : ∀ K' : Act → World → Prop, Shut (∀ a w, S w → (S w → wpAnyH Try.prog .any opsL1 Q S 2 (LL1 4) a w) → K' a w) → if Region.wanted qL1_3 (yielded opsL1 a.tmps) = true then Oper.wp Try.prog qL1_3 a w K' Q else K' (a.put (some 10) undef) w) :
    wpAnyH Try.prog .any opsL1 Q S 3 (LL1 3) a w :=
  wpAnyH_ready (rs := [3]) (by kernel_rfl) (by simp) (AllReadyH.cons hL1_3 (fun K' hK => h K' (lL1_3 ▸ hK)) AllReadyH.nil)
theorem tL1_3 {Q : Exit → Act → World → Prop} {S : World → Prop} {a : Act} {w : World} (v : Value) (hQ : ∀ c a w, Q (.panic c) (a.put (some 10) v) w → Q (.panic c) a w) (hy : YieldsIf Try.prog opsL1 S qL1_3 v a) (hS : S w)
    (h : wpAnyH Try.prog .any opsL1 Q S 2 (LL1 4) (a.put (some 10) v) w) : wpAnyH Try.prog .any opsL1 Q S 3 (LL1 3) a w :=
  wpAnyH_take (i := 3) hL1_3 noselL1 (by kernel_rfl) (by kernel_rfl) hQ hy hS (lL1_3.symm ▸ h)
def qL1_4 : Oper := { dst := some 11, op := Op.call { callee := Callee.value (Operand.func 19), args := #[Operand.tmp 8, Operand.tmp 10], argTypes := #[36, 36] }, type := 3, pos := "exact.go:2325", after := #[{ on := 1, ground := Ground.data }, { on := 3, ground := Ground.data }, { on := 3, ground := Ground.chain }], guard := none }
theorem hL1_4 : opsL1[4]? = some qL1_4 := by kernel_rfl
theorem lL1_4 : (LL1 4).setIfInBounds 4 true = LL1 5 := by kernel_rfl
set_option maxRecDepth 100000 in
theorem cL1_4 {Q : Exit → Act → World → Prop} {S : World → Prop} {a : Act} {w : World}
    (h : ∀ K' : Act → World → Prop, Shut (∀ a w, S w → (S w → wpAnyH Try.prog .any opsL1 Q S 1 (LL1 5) a w) → K' a w) → if Region.wanted qL1_4 (yielded opsL1 a.tmps) = true then Oper.wp Try.prog qL1_4 a w K' Q else K' (a.put (some 11) undef) w) :
    wpAnyH Try.prog .any opsL1 Q S 2 (LL1 4) a w :=
  wpAnyH_ready (rs := [4]) (by kernel_rfl) (by simp) (AllReadyH.cons hL1_4 (fun K' hK => h K' (lL1_4 ▸ hK)) AllReadyH.nil)
theorem tL1_4 {Q : Exit → Act → World → Prop} {S : World → Prop} {a : Act} {w : World} (v : Value) (hQ : ∀ c a w, Q (.panic c) (a.put (some 11) v) w → Q (.panic c) a w) (hy : YieldsIf Try.prog opsL1 S qL1_4 v a) (hS : S w)
    (h : wpAnyH Try.prog .any opsL1 Q S 1 (LL1 5) (a.put (some 11) v) w) : wpAnyH Try.prog .any opsL1 Q S 2 (LL1 4) a w :=
  wpAnyH_take (i := 4) hL1_4 noselL1 (by kernel_rfl) (by kernel_rfl) hQ hy hS (lL1_4.symm ▸ h)
def qL1_5 : Oper := { dst := some 5, op := Op.assign (Operand.tmp 11), type := 3, pos := "exact.go:2325", after := #[{ on := 4, ground := Ground.data }, { on := 4, ground := Ground.chain }, { on := 0, ground := Ground.phase }, { on := 1, ground := Ground.phase }, { on := 2, ground := Ground.phase }, { on := 3, ground := Ground.phase }, { on := 4, ground := Ground.phase }], guard := none }
theorem hL1_5 : opsL1[5]? = some qL1_5 := by kernel_rfl
theorem lL1_5 : (LL1 5).setIfInBounds 5 true = LL1 6 := by kernel_rfl
theorem tL1_5 {Q : Exit → Act → World → Prop} {S : World → Prop} {a : Act} {w : World} (v : Value) (hQ : ∀ c a w, Q (.panic c) (a.put (some 5) v) w → Q (.panic c) a w) (hy : YieldsIf Try.prog opsL1 S qL1_5 v a) (hS : S w)
    (h : wpAnyH Try.prog .any opsL1 Q S 0 (LL1 6) (a.put (some 5) v) w) : wpAnyH Try.prog .any opsL1 Q S 1 (LL1 5) a w :=
  wpAnyH_take (i := 5) hL1_5 noselL1 (by kernel_rfl) (by kernel_rfl) hQ hy hS (lL1_5.symm ▸ h)
end Go.Proofs.Ytdmbkjebagnloaa.hexes
