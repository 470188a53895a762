/-
  A statement of laws.FnExactSendOn: its operations, and a theorem a step.
-/
import Derived.Test.YtidpjpakodndhaaProg
import Derived.WalkKit
import Derived.Deep.RegionHeld3
namespace Go.Proofs.Ytidpjpakodndhaa.hexes
open Go.RowKit

def findK5 (n : Nat) : Code → Option Code
  | .region id ops d => if id = n then some (.region id ops d) else none
  | .seq a b => match findK5 n a with
    | some c => some c
    | none => findK5 n b
  | .block _ c => findK5 n c
  | .scope c => findK5 n c
  | .loop c => findK5 n c
  | .cond _ a b => match findK5 n a with
    | some c => some c
    | none => findK5 n b
  | _ => none
def opsOfK5 : Option Code → Array Oper
  | some (.region _ ops _) => ops
  | _ => #[]
noncomputable def opsK5 : Array Oper := opsOfK5 (Try.f7.body.bind (findK5 5))
def schK5 : List Nat := [0, 2, 8, 1, 3, 4, 5, 6, 7, 9, 10]
def LK5 (k : Nat) : Array Bool := ((List.range 11).map fun i => (schK5.take k).contains i).toArray
theorem noselK5 : Region.noSelect opsK5 = true := by kernel_rfl
def qK5_0 : Oper := { dst := some 22, op := Op.load 52 (Operand.tmp 2), type := 52, pos := "exact.go:2576", after := #[], guard := none }
theorem hK5_0 : opsK5[0]? = some qK5_0 := by kernel_rfl
def qK5_1 : Oper := { dst := some 23, op := Op.call { callee := Callee.value (Operand.func 37), args := #[Operand.tmp 22], argTypes := #[52] }, type := 26, pos := "exact.go:2576", after := #[{ on := 0, ground := Ground.data }], guard := none }
theorem hK5_1 : opsK5[1]? = some qK5_1 := by kernel_rfl
def qK5_2 : Oper := { dst := some 24, op := Op.load 58 (Operand.tmp 3), type := 58, pos := "exact.go:2576", after := #[], guard := none }
theorem hK5_2 : opsK5[2]? = some qK5_2 := by kernel_rfl
def qK5_3 : Oper := { dst := some 25, op := Op.call { callee := Callee.value (Operand.func 38), args := #[Operand.tmp 24], argTypes := #[58] }, type := 30, pos := "exact.go:2576", after := #[{ on := 2, ground := Ground.data }, { on := 1, ground := Ground.chain }], guard := none }
theorem hK5_3 : opsK5[3]? = some qK5_3 := by kernel_rfl
def qK5_4 : Oper := { dst := some 26, op := Op.call { callee := Callee.value (Operand.func 15), args := #[Operand.tmp 23, Operand.tmp 25], argTypes := #[26, 30] }, type := 33, pos := "exact.go:2576", after := #[{ on := 1, ground := Ground.data }, { on := 3, ground := Ground.data }, { on := 3, ground := Ground.chain }], guard := none }
theorem hK5_4 : opsK5[4]? = some qK5_4 := by kernel_rfl
def qK5_5 : Oper := { dst := some 21, op := Op.move (Operand.tmp 26), type := 33, pos := "exact.go:2576", after := #[{ on := 4, ground := Ground.data }], guard := none }
theorem hK5_5 : opsK5[5]? = some qK5_5 := by kernel_rfl
def qK5_6 : Oper := { dst := some 27, op := Op.extract (Operand.tmp 21) 0, type := 26, pos := "exact.go:2576", after := #[{ on := 5, ground := Ground.data }], guard := none }
theorem hK5_6 : opsK5[6]? = some qK5_6 := by kernel_rfl
def qK5_7 : Oper := { dst := some 28, op := Op.extract (Operand.tmp 21) 1, type := 4, pos := "exact.go:2576", after := #[{ on := 5, ground := Ground.data }, { on := 9, ground := Ground.gcOnly Departure.lateStores }], guard := none }
theorem hK5_7 : opsK5[7]? = some qK5_7 := by kernel_rfl
def qK5_8 : Oper := { dst := some 6, op := Op.alloc 26, type := 0, pos := "exact.go:2576", after := #[], guard := none }
theorem hK5_8 : opsK5[8]? = some qK5_8 := by kernel_rfl
def qK5_9 : Oper := { dst := none, op := Op.store 26 (Operand.tmp 6) (Operand.tmp 27), type := 0, pos := "exact.go:2576", after := #[{ on := 8, ground := Ground.data }, { on := 6, ground := Ground.data }, { on := 4, ground := Ground.chain }, { on := 0, ground := Ground.phase }, { on := 1, ground := Ground.phase }, { on := 2, ground := Ground.phase }, { on := 3, ground := Ground.phase }, { on := 4, ground := Ground.phase }, { on := 5, ground := Ground.phase }, { on := 6, ground := Ground.phase }, { on := 7, ground := Ground.textOnly Departure.lateStores }, { on := 8, ground := Ground.phase }], guard := none }
theorem hK5_9 : opsK5[9]? = some qK5_9 := by kernel_rfl
def qK5_10 : Oper := { dst := some 7, op := Op.assign (Operand.tmp 28), type := 4, pos := "exact.go:2576", after := #[{ on := 7, ground := Ground.data }, { on := 9, ground := Ground.chain }, { on := 0, ground := Ground.phase }, { on := 1, ground := Ground.phase }, { on := 2, ground := Ground.phase }, { on := 3, ground := Ground.phase }, { on := 4, ground := Ground.phase }, { on := 5, ground := Ground.phase }, { on := 6, ground := Ground.phase }, { on := 7, ground := Ground.phase }, { on := 8, ground := Ground.phase }, { on := 9, ground := Ground.phase }], guard := none }
theorem hK5_10 : opsK5[10]? = some qK5_10 := by kernel_rfl
theorem tK5_e_0 {Q : Exit → Act → World → Prop} {S : World → Prop} {a : Act} {w : World} (v : Value) (hQ : ∀ c a w, Q (.panic c) (a.put (some 22) v) w → Q (.panic c) a w) (hy : YieldsIf Try.prog opsK5 S qK5_0 v a) (hS : S w)
    (h : wpAnyH Try.prog .any opsK5 Q S 10 (#[true, false, false, false, false, false, false, false, false, false, false] : Array Bool) (a.put (some 22) v) w) : wpAnyH Try.prog .any opsK5 Q S 11 (#[false, false, false, false, false, false, false, false, false, false, false] : Array Bool) a w :=
  wpAnyH_take (i := 0) hK5_0 noselK5 (by kernel_rfl) (by kernel_rfl) hQ hy hS ((show (#[false, false, false, false, false, false, false, false, false, false, false] : Array Bool).setIfInBounds 0 true = (#[true, false, false, false, false, false, false, false, false, false, false] : Array Bool) by kernel_rfl).symm ▸ h)
theorem tK5_0_2 {Q : Exit → Act → World → Prop} {S : World → Prop} {a : Act} {w : World} (v : Value) (hQ : ∀ c a w, Q (.panic c) (a.put (some 24) v) w → Q (.panic c) a w) (hy : YieldsIf Try.prog opsK5 S qK5_2 v a) (hS : S w)
    (h : wpAnyH Try.prog .any opsK5 Q S 9 (#[true, false, true, false, false, false, false, false, false, false, false] : Array Bool) (a.put (some 24) v) w) : wpAnyH Try.prog .any opsK5 Q S 10 (#[true, false, false, false, false, false, false, false, false, false, false] : Array Bool) a w :=
  wpAnyH_take (i := 2) hK5_2 noselK5 (by kernel_rfl) (by kernel_rfl) hQ hy hS ((show (#[true, false, false, false, false, false, false, false, false, false, false] : Array Bool).setIfInBounds 2 true = (#[true, false, true, false, false, false, false, false, false, false, false] : Array Bool) by kernel_rfl).symm ▸ h)
set_option maxRecDepth 100000 in
theorem cK5_02_18 {Q : Exit → Act → World → Prop} {S : World → Prop} {a : Act} {w : World}
    (h1 : ∀ K' : Act → World → Prop, Shut (∀ a w, S w → (S w → wpAnyH Try.prog .any opsK5 Q S 8 (#[true, true, true, false, false, false, false, false, false, false, false] : Array Bool) a w) → K' a w) → if Region.wanted qK5_1 (yielded opsK5 a.tmps) = true then Oper.wp Try.prog qK5_1 a w K' Q else K' (a.put (some 23) undef) w)
    (h8 : ∀ K' : Act → World → Prop, Shut (∀ a w, S w → (S w → wpAnyH Try.prog .any opsK5 Q S 8 (#[true, false, true, false, false, false, false, false, true, false, false] : Array Bool) a w) → K' a w) → if Region.wanted qK5_8 (yielded opsK5 a.tmps) = true then Oper.wp Try.prog qK5_8 a w K' Q else K' (a.put (some 6) undef) w) :
    wpAnyH Try.prog .any opsK5 Q S 9 (#[true, false, true, false, false, false, false, false, false, false, false] : Array Bool) a w :=
  wpAnyH_ready (rs := [1, 8]) (by kernel_rfl) (by simp) (AllReadyH.cons hK5_1 (fun K' hK => h1 K' ((show (#[true, false, true, false, false, false, false, false, false, false, false] : Array Bool).setIfInBounds 1 true = (#[true, true, true, false, false, false, false, false, false, false, false] : Array Bool) by kernel_rfl) ▸ hK)) (AllReadyH.cons hK5_8 (fun K' hK => h8 K' ((show (#[true, false, true, false, false, false, false, false, false, false, false] : Array Bool).setIfInBounds 8 true = (#[true, false, true, false, false, false, false, false, true, false, false] : Array Bool) by kernel_rfl) ▸ hK)) AllReadyH.nil))
set_option maxRecDepth 100000 in
theorem cK5_012_38 {Q : Exit → Act → World → Prop} {S : World → Prop} {a : Act} {w : World}
    (h3 : ∀ K' : Act → World → Prop, Shut (∀ a w, S w → (S w → wpAnyH Try.prog .any opsK5 Q S 7 (#[true, true, true, true, false, false, false, false, false, false, false] : Array Bool) a w) → K' a w) → if Region.wanted qK5_3 (yielded opsK5 a.tmps) = true then Oper.wp Try.prog qK5_3 a w K' Q else K' (a.put (some 25) undef) w)
    (h8 : ∀ K' : Act → World → Prop, Shut (∀ a w, S w → (S w → wpAnyH Try.prog .any opsK5 Q S 7 (#[true, true, true, false, false, false, false, false, true, false, false] : Array Bool) a w) → K' a w) → if Region.wanted qK5_8 (yielded opsK5 a.tmps) = true then Oper.wp Try.prog qK5_8 a w K' Q else K' (a.put (some 6) undef) w) :
    wpAnyH Try.prog .any opsK5 Q S 8 (#[true, true, true, false, false, false, false, false, false, false, false] : Array Bool) a w :=
  wpAnyH_ready (rs := [3, 8]) (by kernel_rfl) (by simp) (AllReadyH.cons hK5_3 (fun K' hK => h3 K' ((show (#[true, true, true, false, false, false, false, false, false, false, false] : Array Bool).setIfInBounds 3 true = (#[true, true, true, true, false, false, false, false, false, false, false] : Array Bool) by kernel_rfl) ▸ hK)) (AllReadyH.cons hK5_8 (fun K' hK => h8 K' ((show (#[true, true, true, false, false, false, false, false, false, false, false] : Array Bool).setIfInBounds 8 true = (#[true, true, true, false, false, false, false, false, true, false, false] : Array Bool) by kernel_rfl) ▸ hK)) AllReadyH.nil))
set_option maxRecDepth 100000 in
theorem cK5_0123_48 {Q : Exit → Act → World → Prop} {S : World → Prop} {a : Act} {w : World}
    (h4 : ∀ K' : Act → World → Prop, Shut (∀ a w, S w → (S w → wpAnyH Try.prog .any opsK5 Q S 6 (#[true, true, true, true, true, false, false, false, false, false, false] : Array Bool) a w) → K' a w) → if Region.wanted qK5_4 (yielded opsK5 a.tmps) = true then Oper.wp Try.prog qK5_4 a w K' Q else K' (a.put (some 26) undef) w)
    (h8 : ∀ K' : Act → World → Prop, Shut (∀ a w, S w → (S w → wpAnyH Try.prog .any opsK5 Q S 6 (#[true, true, true, true, false, false, false, false, true, false, false] : Array Bool) a w) → K' a w) → if Region.wanted qK5_8 (yielded opsK5 a.tmps) = true then Oper.wp Try.prog qK5_8 a w K' Q else K' (a.put (some 6) undef) w) :
    wpAnyH Try.prog .any opsK5 Q S 7 (#[true, true, true, true, false, false, false, false, false, false, false] : Array Bool) a w :=
  wpAnyH_ready (rs := [4, 8]) (by kernel_rfl) (by simp) (AllReadyH.cons hK5_4 (fun K' hK => h4 K' ((show (#[true, true, true, true, false, false, false, false, false, false, false] : Array Bool).setIfInBounds 4 true = (#[true, true, true, true, true, false, false, false, false, false, false] : Array Bool) by kernel_rfl) ▸ hK)) (AllReadyH.cons hK5_8 (fun K' hK => h8 K' ((show (#[true, true, true, true, false, false, false, false, false, false, false] : Array Bool).setIfInBounds 8 true = (#[true, true, true, true, false, false, false, false, true, false, false] : Array Bool) by kernel_rfl) ▸ hK)) AllReadyH.nil))
theorem tK5_01234_5 {Q : Exit → Act → World → Prop} {S : World → Prop} {a : Act} {w : World} (v : Value) (hQ : ∀ c a w, Q (.panic c) (a.put (some 21) v) w → Q (.panic c) a w) (hy : YieldsIf Try.prog opsK5 S qK5_5 v a) (hS : S w)
    (h : wpAnyH Try.prog .any opsK5 Q S 5 (#[true, true, true, true, true, true, false, false, false, false, false] : Array Bool) (a.put (some 21) v) w) : wpAnyH Try.prog .any opsK5 Q S 6 (#[true, true, true, true, true, false, false, false, false, false, false] : Array Bool) a w :=
  wpAnyH_take (i := 5) hK5_5 noselK5 (by kernel_rfl) (by kernel_rfl) hQ hy hS ((show (#[true, true, true, true, true, false, false, false, false, false, false] : Array Bool).setIfInBounds 5 true = (#[true, true, true, true, true, true, false, false, false, false, false] : Array Bool) by kernel_rfl).symm ▸ h)
theorem tK5_012345_6 {Q : Exit → Act → World → Prop} {S : World → Prop} {a : Act} {w : World} (v : Value) (hQ : ∀ c a w, Q (.panic c) (a.put (some 27) v) w → Q (.panic c) a w) (hy : YieldsIf Try.prog opsK5 S qK5_6 v a) (hS : S w)
    (h : wpAnyH Try.prog .any opsK5 Q S 4 (#[true, true, true, true, true, true, true, false, false, false, false] : Array Bool) (a.put (some 27) v) w) : wpAnyH Try.prog .any opsK5 Q S 5 (#[true, true, true, true, true, true, false, false, false, false, false] : Array Bool) a w :=
  wpAnyH_take (i := 6) hK5_6 noselK5 (by kernel_rfl) (by kernel_rfl) hQ hy hS ((show (#[true, true, true, true, true, true, false, false, false, false, false] : Array Bool).setIfInBounds 6 true = (#[true, true, true, true, true, true, true, false, false, false, false] : Array Bool) by kernel_rfl).symm ▸ h)
theorem tK5_0123456_7 {Q : Exit → Act → World → Prop} {S : World → Prop} {a : Act} {w : World} (v : Value) (hQ : ∀ c a w, Q (.panic c) (a.put (some 28) v) w → Q (.panic c) a w) (hy : YieldsIf Try.prog opsK5 S qK5_7 v a) (hS : S w)
    (h : wpAnyH Try.prog .any opsK5 Q S 3 (#[true, true, true, true, true, true, true, true, false, false, false] : Array Bool) (a.put (some 28) v) w) : wpAnyH Try.prog .any opsK5 Q S 4 (#[true, true, true, true, true, true, true, false, false, false, false] : Array Bool) a w :=
  wpAnyH_take (i := 7) hK5_7 noselK5 (by kernel_rfl) (by kernel_rfl) hQ hy hS ((show (#[true, true, true, true, true, true, true, false, false, false, false] : Array Bool).setIfInBounds 7 true = (#[true, true, true, true, true, true, true, true, false, false, false] : Array Bool) by kernel_rfl).symm ▸ h)
set_option maxRecDepth 100000 in
theorem cK5_01234567_8 {Q : Exit → Act → World → Prop} {S : World → Prop} {a : Act} {w : World}
    (h8 : ∀ K' : Act → World → Prop, Shut (∀ a w, S w → (S w → wpAnyH Try.prog .any opsK5 Q S 2 (#[true, true, true, true, true, true, true, true, true, false, false] : Array Bool) a w) → K' a w) → if Region.wanted qK5_8 (yielded opsK5 a.tmps) = true then Oper.wp Try.prog qK5_8 a w K' Q else K' (a.put (some 6) undef) w) :
    wpAnyH Try.prog .any opsK5 Q S 3 (#[true, true, true, true, true, true, true, true, false, false, false] : Array Bool) a w :=
  wpAnyH_ready (rs := [8]) (by kernel_rfl) (by simp) (AllReadyH.cons hK5_8 (fun K' hK => h8 K' ((show (#[true, true, true, true, true, true, true, true, false, false, false] : Array Bool).setIfInBounds 8 true = (#[true, true, true, true, true, true, true, true, true, false, false] : Array Bool) by kernel_rfl) ▸ hK)) AllReadyH.nil)
set_option maxRecDepth 100000 in
theorem cK5_012345678_9 {Q : Exit → Act → World → Prop} {S : World → Prop} {a : Act} {w : World}
    (h9 : ∀ K' : Act → World → Prop, Shut (∀ a w, S w → (S w → wpAnyH Try.prog .any opsK5 Q S 1 (#[true, true, true, true, true, true, true, true, true, true, false] : Array Bool) a w) → K' a w) → if Region.wanted qK5_9 (yielded opsK5 a.tmps) = true then Oper.wp Try.prog qK5_9 a w K' Q else K' (a.put (none) undef) w) :
    wpAnyH Try.prog .any opsK5 Q S 2 (#[true, true, true, true, true, true, true, true, true, false, false] : Array Bool) a w :=
  wpAnyH_ready (rs := [9]) (by kernel_rfl) (by simp) (AllReadyH.cons hK5_9 (fun K' hK => h9 K' ((show (#[true, true, true, true, true, true, true, true, true, false, false] : Array Bool).setIfInBounds 9 true = (#[true, true, true, true, true, true, true, true, true, true, false] : Array Bool) by kernel_rfl) ▸ hK)) AllReadyH.nil)
theorem tK5_0123456789_10 {Q : Exit → Act → World → Prop} {S : World → Prop} {a : Act} {w : World} (v : Value) (hQ : ∀ c a w, Q (.panic c) (a.put (some 7) v) w → Q (.panic c) a w) (hy : YieldsIf Try.prog opsK5 S qK5_10 v a) (hS : S w)
    (h : wpAnyH Try.prog .any opsK5 Q S 0 (#[true, true, true, true, true, true, true, true, true, true, true] : Array Bool) (a.put (some 7) v) w) : wpAnyH Try.prog .any opsK5 Q S 1 (#[true, true, true, true, true, true, true, true, true, true, false] : Array Bool) a w :=
  wpAnyH_take (i := 10) hK5_10 noselK5 (by kernel_rfl) (by kernel_rfl) hQ hy hS ((show (#[true, true, true, true, true, true, true, true, true, true, false] : Array Bool).setIfInBounds 10 true = (#[true, true, true, true, true, true, true, true, true, true, true] : Array Bool) by kernel_rfl).symm ▸ h)
set_option maxRecDepth 100000 in
theorem cK5_01238_4 {Q : Exit → Act → World → Prop} {S : World → Prop} {a : Act} {w : World}
    (h4 : ∀ K' : Act → World → Prop, Shut (∀ a w, S w → (S w → wpAnyH Try.prog .any opsK5 Q S 5 (#[true, true, true, true, true, false, false, false, true, false, false] : Array Bool) a w) → K' a w) → if Region.wanted qK5_4 (yielded opsK5 a.tmps) = true then Oper.wp Try.prog qK5_4 a w K' Q else K' (a.put (some 26) undef) w) :
    wpAnyH Try.prog .any opsK5 Q S 6 (#[true, true, true, true, false, false, false, false, true, false, false] : Array Bool) a w :=
  wpAnyH_ready (rs := [4]) (by kernel_rfl) (by simp) (AllReadyH.cons hK5_4 (fun K' hK => h4 K' ((show (#[true, true, true, true, false, false, false, false, true, false, false] : Array Bool).setIfInBounds 4 true = (#[true, true, true, true, true, false, false, false, true, false, false] : Array Bool) by kernel_rfl) ▸ hK)) AllReadyH.nil)
theorem tK5_012348_5 {Q : Exit → Act → World → Prop} {S : World → Prop} {a : Act} {w : World} (v : Value) (hQ : ∀ c a w, Q (.panic c) (a.put (some 21) v) w → Q (.panic c) a w) (hy : YieldsIf Try.prog opsK5 S qK5_5 v a) (hS : S w)
    (h : wpAnyH Try.prog .any opsK5 Q S 4 (#[true, true, true, true, true, true, false, false, true, false, false] : Array Bool) (a.put (some 21) v) w) : wpAnyH Try.prog .any opsK5 Q S 5 (#[true, true, true, true, true, false, false, false, true, false, false] : Array Bool) a w :=
  wpAnyH_take (i := 5) hK5_5 noselK5 (by kernel_rfl) (by kernel_rfl) hQ hy hS ((show (#[true, true, true, true, true, false, false, false, true, false, false] : Array Bool).setIfInBounds 5 true = (#[true, true, true, true, true, true, false, false, true, false, false] : Array Bool) by kernel_rfl).symm ▸ h)
theorem tK5_0123458_6 {Q : Exit → Act → World → Prop} {S : World → Prop} {a : Act} {w : World} (v : Value) (hQ : ∀ c a w, Q (.panic c) (a.put (some 27) v) w → Q (.panic c) a w) (hy : YieldsIf Try.prog opsK5 S qK5_6 v a) (hS : S w)
    (h : wpAnyH Try.prog .any opsK5 Q S 3 (#[true, true, true, true, true, true, true, false, true, false, false] : Array Bool) (a.put (some 27) v) w) : wpAnyH Try.prog .any opsK5 Q S 4 (#[true, true, true, true, true, true, false, false, true, false, false] : Array Bool) a w :=
  wpAnyH_take (i := 6) hK5_6 noselK5 (by kernel_rfl) (by kernel_rfl) hQ hy hS ((show (#[true, true, true, true, true, true, false, false, true, false, false] : Array Bool).setIfInBounds 6 true = (#[true, true, true, true, true, true, true, false, true, false, false] : Array Bool) by kernel_rfl).symm ▸ h)
theorem tK5_01234568_7 {Q : Exit → Act → World → Prop} {S : World → Prop} {a : Act} {w : World} (v : Value) (hQ : ∀ c a w, Q (.panic c) (a.put (some 28) v) w → Q (.panic c) a w) (hy : YieldsIf Try.prog opsK5 S qK5_7 v a) (hS : S w)
    (h : wpAnyH Try.prog .any opsK5 Q S 2 (#[true, true, true, true, true, true, true, true, true, false, false] : Array Bool) (a.put (some 28) v) w) : wpAnyH Try.prog .any opsK5 Q S 3 (#[true, true, true, true, true, true, true, false, true, false, false] : Array Bool) a w :=
  wpAnyH_take (i := 7) hK5_7 noselK5 (by kernel_rfl) (by kernel_rfl) hQ hy hS ((show (#[true, true, true, true, true, true, true, false, true, false, false] : Array Bool).setIfInBounds 7 true = (#[true, true, true, true, true, true, true, true, true, false, false] : Array Bool) by kernel_rfl).symm ▸ h)
set_option maxRecDepth 100000 in
theorem cK5_0128_3 {Q : Exit → Act → World → Prop} {S : World → Prop} {a : Act} {w : World}
    (h3 : ∀ K' : Act → World → Prop, Shut (∀ a w, S w → (S w → wpAnyH Try.prog .any opsK5 Q S 6 (#[true, true, true, true, false, false, false, false, true, false, false] : Array Bool) a w) → K' a w) → if Region.wanted qK5_3 (yielded opsK5 a.tmps) = true then Oper.wp Try.prog qK5_3 a w K' Q else K' (a.put (some 25) undef) w) :
    wpAnyH Try.prog .any opsK5 Q S 7 (#[true, true, true, false, false, false, false, false, true, false, false] : Array Bool) a w :=
  wpAnyH_ready (rs := [3]) (by kernel_rfl) (by simp) (AllReadyH.cons hK5_3 (fun K' hK => h3 K' ((show (#[true, true, true, false, false, false, false, false, true, false, false] : Array Bool).setIfInBounds 3 true = (#[true, true, true, true, false, false, false, false, true, false, false] : Array Bool) by kernel_rfl) ▸ hK)) AllReadyH.nil)
set_option maxRecDepth 100000 in
theorem cK5_028_1 {Q : Exit → Act → World → Prop} {S : World → Prop} {a : Act} {w : World}
    (h1 : ∀ K' : Act → World → Prop, Shut (∀ a w, S w → (S w → wpAnyH Try.prog .any opsK5 Q S 7 (#[true, true, true, false, false, false, false, false, true, false, false] : Array Bool) a w) → K' a w) → if Region.wanted qK5_1 (yielded opsK5 a.tmps) = true then Oper.wp Try.prog qK5_1 a w K' Q else K' (a.put (some 23) undef) w) :
    wpAnyH Try.prog .any opsK5 Q S 8 (#[true, false, true, false, false, false, false, false, true, false, false] : Array Bool) a w :=
  wpAnyH_ready (rs := [1]) (by kernel_rfl) (by simp) (AllReadyH.cons hK5_1 (fun K' hK => h1 K' ((show (#[true, false, true, false, false, false, false, false, true, false, false] : Array Bool).setIfInBounds 1 true = (#[true, true, true, false, false, false, false, false, true, false, false] : Array Bool) by kernel_rfl) ▸ hK)) AllReadyH.nil)
end Go.Proofs.Ytidpjpakodndhaa.hexes
