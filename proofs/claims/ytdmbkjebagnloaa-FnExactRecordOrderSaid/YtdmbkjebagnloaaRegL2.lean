/-
  A statement of laws.FnExactRecordOrder: its operations, and a theorem a step.
-/
import Derived.Test.YtdmbkjebagnloaaProg
import Derived.WalkKit
import Derived.Deep.RegionHeld3
namespace Go.Proofs.Ytdmbkjebagnloaa.hexes
open Go.RowKit

def findL2 (n : Nat) : Code → Option Code
  | .region id ops d => if id = n then some (.region id ops d) else none
  | .seq a b => match findL2 n a with
    | some c => some c
    | none => findL2 n b
  | .block _ c => findL2 n c
  | .scope c => findL2 n c
  | .loop c => findL2 n c
  | .cond _ a b => match findL2 n a with
    | some c => some c
    | none => findL2 n b
  | _ => none
def opsOfL2 : Option Code → Array Oper
  | some (.region _ ops _) => ops
  | _ => #[]
noncomputable def opsL2 : Array Oper := opsOfL2 (Try.f5.body.bind (findL2 2))
def schL2 : List Nat := [0, 2, 1, 3, 4, 5]
def LL2 (k : Nat) : Array Bool := ((List.range 6).map fun i => (schL2.take k).contains i).toArray
theorem noselL2 : Region.noSelect opsL2 = true := by kernel_rfl
def qL2_0 : Oper := { dst := some 12, op := Op.load 32 (Operand.tmp 2), type := 32, pos := "exact.go:2326", after := #[], guard := none }
theorem hL2_0 : opsL2[0]? = some qL2_0 := by kernel_rfl
theorem lL2_0 : (LL2 0).setIfInBounds 0 true = LL2 1 := by kernel_rfl
theorem tL2_0 {Q : Exit → Act → World → Prop} {S : World → Prop} {a : Act} {w : World} (v : Value) (hQ : ∀ c a w, Q (.panic c) (a.put (some 12) v) w → Q (.panic c) a w) (hy : YieldsIf Try.prog opsL2 S qL2_0 v a) (hS : S w)
    (h : wpAnyH Try.prog .any opsL2 Q S 5 (LL2 1) (a.put (some 12) v) w) : wpAnyH Try.prog .any opsL2 Q S 6 (LL2 0) a w :=
  wpAnyH_take (i := 0) hL2_0 noselL2 (by kernel_rfl) (by kernel_rfl) hQ hy hS (lL2_0.symm ▸ h)
def qL2_2 : Oper := { dst := some 14, op := Op.load 32 (Operand.tmp 3), type := 32, pos := "exact.go:2326", after := #[], guard := none }
theorem hL2_2 : opsL2[2]? = some qL2_2 := by kernel_rfl
theorem lL2_1 : (LL2 1).setIfInBounds 2 true = LL2 2 := by kernel_rfl
theorem tL2_1 {Q : Exit → Act → World → Prop} {S : World → Prop} {a : Act} {w : World} (v : Value) (hQ : ∀ c a w, Q (.panic c) (a.put (some 14) v) w → Q (.panic c) a w) (hy : YieldsIf Try.prog opsL2 S qL2_2 v a) (hS : S w)
    (h : wpAnyH Try.prog .any opsL2 Q S 4 (LL2 2) (a.put (some 14) v) w) : wpAnyH Try.prog .any opsL2 Q S 5 (LL2 1) a w :=
  wpAnyH_take (i := 2) hL2_2 noselL2 (by kernel_rfl) (by kernel_rfl) hQ hy hS (lL2_1.symm ▸ h)
def qL2_1 : Oper := { dst := some 13, op := Op.call { callee := Callee.value (Operand.func 17), args := #[Operand.tmp 12], argTypes := #[32] }, type := 36, pos := "exact.go:2326", after := #[{ on := 0, ground := Ground.data }], guard := none }
theorem hL2_1 : opsL2[1]? = some qL2_1 := by kernel_rfl
theorem lL2_2 : (LL2 2).setIfInBounds 1 true = LL2 3 := by kernel_rfl
set_option maxRecDepth 100000 in
theorem cL2_2 {Q : Exit → Act → World → Prop} {S : World → Prop} {a : Act} {w : World}
    (h : ∀ K' : Act → World → Prop, Shut (∀ a w, S w → (S w → wpAnyH Try.prog .any opsL2 Q S 3 (LL2 3) a w) → K' a w) → if Region.wanted qL2_1 (yielded opsL2 a.tmps) = true then Oper.wp Try.prog qL2_1 a w K' Q else K' (a.put (some 13) undef) w) :
    wpAnyH Try.prog .any opsL2 Q S 4 (LL2 2) a w :=
  wpAnyH_ready (rs := [1]) (by kernel_rfl) (by simp) (AllReadyH.cons hL2_1 (fun K' hK => h K' (lL2_2 ▸ hK)) AllReadyH.nil)
theorem tL2_2 {Q : Exit → Act → World → Prop} {S : World → Prop} {a : Act} {w : World} (v : Value) (hQ : ∀ c a w, Q (.panic c) (a.put (some 13) v) w → Q (.panic c) a w) (hy : YieldsIf Try.prog opsL2 S qL2_1 v a) (hS : S w)
    (h : wpAnyH Try.prog .any opsL2 Q S 3 (LL2 3) (a.put (some 13) v) w) : wpAnyH Try.prog .any opsL2 Q S 4 (LL2 2) a w :=
  wpAnyH_take (i := 1) hL2_1 noselL2 (by kernel_rfl) (by kernel_rfl) hQ hy hS (lL2_2.symm ▸ h)
def qL2_3 : Oper := { dst := some 15, op := Op.call { callee := Callee.value (Operand.func 17), args := #[Operand.tmp 14], argTypes := #[32] }, type := 36, pos := "exact.go:2326", after := #[{ on := 2, ground := Ground.data }, { on := 1, ground := Ground.chain }], guard := none }
theorem hL2_3 : opsL2[3]? = some qL2_3 := by kernel_rfl
theorem lL2_3 : (LL2 3).setIfInBounds 3 true = LL2 4 := by kernel_rfl
set_option maxRecDepth 100000 in
theorem cL2_3 {Q : Exit → Act → World → Prop} {S : World → Prop} {a : Act} {w : World}
    (h : ∀ K' : Act → World → Prop, Shut (∀ a w, S w → (S w → wpAnyH Try.prog .any opsL2 Q S 2 (LL2 4) a w) → K' a w) → if Region.wanted qL2_3 (yielded opsL2 a.tmps) = true then Oper.wp Try.prog qL2_3 a w K' Q else K' (a.put (some 15) undef) w) :
    wpAnyH Try.prog .any opsL2 Q S 3 (LL2 3) a w :=
  wpAnyH_ready (rs := [3]) (by kernel_rfl) (by simp) (AllReadyH.cons hL2_3 (fun K' hK => h K' (lL2_3 ▸ hK)) AllReadyH.nil)
theorem tL2_3 {Q : Exit → Act → World → Prop} {S : World → Prop} {a : Act} {w : World} (v : Value) (hQ : ∀ c a w, Q (.panic c) (a.put (some 15) v) w → Q (.panic c) a w) (hy : YieldsIf Try.prog opsL2 S qL2_3 v a) (hS : S w)
    (h : wpAnyH Try.prog .any opsL2 Q S 2 (LL2 4) (a.put (some 15) v) w) : wpAnyH Try.prog .any opsL2 Q S 3 (LL2 3) a w :=
  wpAnyH_take (i := 3) hL2_3 noselL2 (by kernel_rfl) (by kernel_rfl) hQ hy hS (lL2_3.symm ▸ h)
def qL2_4 : Oper := { dst := some 16, op := Op.call { callee := Callee.value (Operand.func 20), args := #[Operand.tmp 13, Operand.tmp 15], argTypes := #[36, 36] }, type := 3, pos := "exact.go:2326", after := #[{ on := 1, ground := Ground.data }, { on := 3, ground := Ground.data }, { on := 3, ground := Ground.chain }], guard := none }
theorem hL2_4 : opsL2[4]? = some qL2_4 := by kernel_rfl
theorem lL2_4 : (LL2 4).setIfInBounds 4 true = LL2 5 := by kernel_rfl
set_option maxRecDepth 100000 in
theorem cL2_4 {Q : Exit → Act → World → Prop} {S : World → Prop} {a : Act} {w : World}
    (h : ∀ K' : Act → World → Prop, Shut (∀ a w, S w → (S w → wpAnyH Try.prog .any opsL2 Q S 1 (LL2 5) a w) → K' a w) → if Region.wanted qL2_4 (yielded opsL2 a.tmps) = true then Oper.wp Try.prog qL2_4 a w K' Q else K' (a.put (some 16) undef) w) :
    wpAnyH Try.prog .any opsL2 Q S 2 (LL2 4) a w :=
  wpAnyH_ready (rs := [4]) (by kernel_rfl) (by simp) (AllReadyH.cons hL2_4 (fun K' hK => h K' (lL2_4 ▸ hK)) AllReadyH.nil)
theorem tL2_4 {Q : Exit → Act → World → Prop} {S : World → Prop} {a : Act} {w : World} (v : Value) (hQ : ∀ c a w, Q (.panic c) (a.put (some 16) v) w → Q (.panic c) a w) (hy : YieldsIf Try.prog opsL2 S qL2_4 v a) (hS : S w)
    (h : wpAnyH Try.prog .any opsL2 Q S 1 (LL2 5) (a.put (some 16) v) w) : wpAnyH Try.prog .any opsL2 Q S 2 (LL2 4) a w :=
  wpAnyH_take (i := 4) hL2_4 noselL2 (by kernel_rfl) (by kernel_rfl) hQ hy hS (lL2_4.symm ▸ h)
def qL2_5 : Oper := { dst := some 6, op := Op.assign (Operand.tmp 16), type := 3, pos := "exact.go:2326", after := #[{ on := 4, ground := Ground.data }, { on := 4, ground := Ground.chain }, { on := 0, ground := Ground.phase }, { on := 1, ground := Ground.phase }, { on := 2, ground := Ground.phase }, { on := 3, ground := Ground.phase }, { on := 4, ground := Ground.phase }], guard := none }
theorem hL2_5 : opsL2[5]? = some qL2_5 := by kernel_rfl
theorem lL2_5 : (LL2 5).setIfInBounds 5 true = LL2 6 := by kernel_rfl
theorem tL2_5 {Q : Exit → Act → World → Prop} {S : World → Prop} {a : Act} {w : World} (v : Value) (hQ : ∀ c a w, Q (.panic c) (a.put (some 6) v) w → Q (.panic c) a w) (hy : YieldsIf Try.prog opsL2 S qL2_5 v a) (hS : S w)
    (h : wpAnyH Try.prog .any opsL2 Q S 0 (LL2 6) (a.put (some 6) v) w) : wpAnyH Try.prog .any opsL2 Q S 1 (LL2 5) a w :=
  wpAnyH_take (i := 5) hL2_5 noselL2 (by kernel_rfl) (by kernel_rfl) hQ hy hS (lL2_5.symm ▸ h)
end Go.Proofs.Ytdmbkjebagnloaa.hexes
