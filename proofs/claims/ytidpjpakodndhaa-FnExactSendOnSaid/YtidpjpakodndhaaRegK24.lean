/-
  A statement of laws.FnExactSendOn: its operations, and a theorem a step.
-/
import Derived.Test.YtidpjpakodndhaaProg
import Derived.WalkKit
import Derived.Deep.RegionHeld3
namespace Go.Proofs.Ytidpjpakodndhaa.hexes
open Go.RowKit

def findK24 (n : Nat) : Code → Option Code
  | .region id ops d => if id = n then some (.region id ops d) else none
  | .seq a b => match findK24 n a with
    | some c => some c
    | none => findK24 n b
  | .block _ c => findK24 n c
  | .scope c => findK24 n c
  | .loop c => findK24 n c
  | .cond _ a b => match findK24 n a with
    | some c => some c
    | none => findK24 n b
  | _ => none
def opsOfK24 : Option Code → Array Oper
  | some (.region _ ops _) => ops
  | _ => #[]
noncomputable def opsK24 : Array Oper := opsOfK24 (Try.f7.body.bind (findK24 24))
def schK24 : List Nat := [0, 2, 8, 1, 3, 4, 5, 6, 7, 9, 10]
def LK24 (k : Nat) : Array Bool := ((List.range 11).map fun i => (schK24.take k).contains i).toArray
theorem noselK24 : Region.noSelect opsK24 = true := by kernel_rfl
def qK24_0 : Oper := { dst := some 80, op := Op.load 52 (Operand.tmp 2), type := 52, pos := "exact.go:2600", after := #[], guard := none }
theorem hK24_0 : opsK24[0]? = some qK24_0 := by kernel_rfl
def qK24_1 : Oper := { dst := some 81, op := Op.call { callee := Callee.value (Operand.func 37), args := #[Operand.tmp 80], argTypes := #[52] }, type := 26, pos := "exact.go:2600", after := #[{ on := 0, ground := Ground.data }], guard := none }
theorem hK24_1 : opsK24[1]? = some qK24_1 := by kernel_rfl
def qK24_2 : Oper := { dst := some 82, op := Op.load 58 (Operand.tmp 3), type := 58, pos := "exact.go:2600", after := #[], guard := none }
theorem hK24_2 : opsK24[2]? = some qK24_2 := by kernel_rfl
def qK24_3 : Oper := { dst := some 83, op := Op.call { callee := Callee.value (Operand.func 38), args := #[Operand.tmp 82], argTypes := #[58] }, type := 30, pos := "exact.go:2600", after := #[{ on := 2, ground := Ground.data }, { on := 1, ground := Ground.chain }], guard := none }
theorem hK24_3 : opsK24[3]? = some qK24_3 := by kernel_rfl
def qK24_4 : Oper := { dst := some 84, op := Op.call { callee := Callee.value (Operand.func 14), args := #[Operand.tmp 81, Operand.tmp 83], argTypes := #[26, 30] }, type := 33, pos := "exact.go:2600", after := #[{ on := 1, ground := Ground.data }, { on := 3, ground := Ground.data }, { on := 3, ground := Ground.chain }], guard := none }
theorem hK24_4 : opsK24[4]? = some qK24_4 := by kernel_rfl
def qK24_5 : Oper := { dst := some 79, op := Op.move (Operand.tmp 84), type := 33, pos := "exact.go:2600", after := #[{ on := 4, ground := Ground.data }], guard := none }
theorem hK24_5 : opsK24[5]? = some qK24_5 := by kernel_rfl
def qK24_6 : Oper := { dst := some 85, op := Op.extract (Operand.tmp 79) 0, type := 26, pos := "exact.go:2600", after := #[{ on := 5, ground := Ground.data }], guard := none }
theorem hK24_6 : opsK24[6]? = some qK24_6 := by kernel_rfl
def qK24_7 : Oper := { dst := some 86, op := Op.extract (Operand.tmp 79) 1, type := 4, pos := "exact.go:2600", after := #[{ on := 5, ground := Ground.data }, { on := 9, ground := Ground.gcOnly Departure.lateStores }], guard := none }
theorem hK24_7 : opsK24[7]? = some qK24_7 := by kernel_rfl
def qK24_8 : Oper := { dst := some 14, op := Op.alloc 26, type := 0, pos := "exact.go:2600", after := #[], guard := none }
theorem hK24_8 : opsK24[8]? = some qK24_8 := by kernel_rfl
def qK24_9 : Oper := { dst := none, op := Op.store 26 (Operand.tmp 14) (Operand.tmp 85), type := 0, pos := "exact.go:2600", after := #[{ on := 8, ground := Ground.data }, { on := 6, ground := Ground.data }, { on := 4, ground := Ground.chain }, { on := 0, ground := Ground.phase }, { on := 1, ground := Ground.phase }, { on := 2, ground := Ground.phase }, { on := 3, ground := Ground.phase }, { on := 4, ground := Ground.phase }, { on := 5, ground := Ground.phase }, { on := 6, ground := Ground.phase }, { on := 7, ground := Ground.textOnly Departure.lateStores }, { on := 8, ground := Ground.phase }], guard := none }
theorem hK24_9 : opsK24[9]? = some qK24_9 := by kernel_rfl
def qK24_10 : Oper := { dst := some 15, op := Op.assign (Operand.tmp 86), type := 4, pos := "exact.go:2600", after := #[{ on := 7, ground := Ground.data }, { on := 9, ground := Ground.chain }, { on := 0, ground := Ground.phase }, { on := 1, ground := Ground.phase }, { on := 2, ground := Ground.phase }, { on := 3, ground := Ground.phase }, { on := 4, ground := Ground.phase }, { on := 5, ground := Ground.phase }, { on := 6, ground := Ground.phase }, { on := 7, ground := Ground.phase }, { on := 8, ground := Ground.phase }, { on := 9, ground := Ground.phase }], guard := none }
theorem hK24_10 : opsK24[10]? = some qK24_10 := by kernel_rfl
theorem tK24_e_0 {Q : Exit → Act → World → Prop} {S : World → Prop} {a : Act} {w : World} (v : Value) (hQ : ∀ c a w, Q (.panic c) (a.put (some 80) v) w → Q (.panic c) a w) (hy : YieldsIf Try.prog opsK24 S qK24_0 v a) (hS : S w)
    (h : wpAnyH Try.prog .any opsK24 Q S 10 (#[true, false, false, false, false, false, false, false, false, false, false] : Array Bool) (a.put (some 80) v) w) : wpAnyH Try.prog .any opsK24 Q S 11 (#[false, false, false, false, false, false, false, false, false, false, false] : Array Bool) a w :=
  wpAnyH_take (i := 0) hK24_0 noselK24 (by kernel_rfl) (by kernel_rfl) hQ hy hS ((show (#[false, false, false, false, false, false, false, false, false, false, false] : Array Bool).setIfInBounds 0 true = (#[true, false, false, false, false, false, false, false, false, false, false] : Array Bool) by kernel_rfl).symm ▸ h)
theorem tK24_0_2 {Q : Exit → Act → World → Prop} {S : World → Prop} {a : Act} {w : World} (v : Value) (hQ : ∀ c a w, Q (.panic c) (a.put (some 82) v) w → Q (.panic c) a w) (hy : YieldsIf Try.prog opsK24 S qK24_2 v a) (hS : S w)
    (h : wpAnyH Try.prog .any opsK24 Q S 9 (#[true, false, true, false, false, false, false, false, false, false, false] : Array Bool) (a.put (some 82) v) w) : wpAnyH Try.prog .any opsK24 Q S 10 (#[true, false, false, false, false, false, false, false, false, false, false] : Array Bool) a w :=
  wpAnyH_take (i := 2) hK24_2 noselK24 (by kernel_rfl) (by kernel_rfl) hQ hy hS ((show (#[true, false, false, false, false, false, false, false, false, false, false] : Array Bool).setIfInBounds 2 true = (#[true, false, true, false, false, false, false, false, false, false, false] : Array Bool) by kernel_rfl).symm ▸ h)
set_option maxRecDepth 100000 in
theorem cK24_02_18 {Q : Exit → Act → World → Prop} {S : World → Prop} {a : Act} {w : World}
    (h1 : ∀ K' : Act → World → Prop, Shut (∀ a w, S w → (S w → wpAnyH Try.prog .any opsK24 Q S 8 (#[true, true, true, false, false, false, false, false, false, false, false] : Array Bool) a w) → K' a w) → if Region.wanted qK24_1 (yielded opsK24 a.tmps) = true then Oper.wp Try.prog qK24_1 a w K' Q else K' (a.put (some 81) undef) w)
    (h8 : ∀ K' : Act → World → Prop, Shut (∀ a w, S w → (S w → wpAnyH Try.prog .any opsK24 Q S 8 (#[true, false, true, false, false, false, false, false, true, false, false] : Array Bool) a w) → K' a w) → if Region.wanted qK24_8 (yielded opsK24 a.tmps) = true then Oper.wp Try.prog qK24_8 a w K' Q else K' (a.put (some 14) undef) w) :
    wpAnyH Try.prog .any opsK24 Q S 9 (#[true, false, true, false, false, false, false, false, false, false, false] : Array Bool) a w :=
  wpAnyH_ready (rs := [1, 8]) (by kernel_rfl) (by simp) (AllReadyH.cons hK24_1 (fun K' hK => h1 K' ((show (#[true, false, true, false, false, false, false, false, false, false, false] : Array Bool).setIfInBounds 1 true = (#[true, true, true, false, false, false, false, false, false, false, false] : Array Bool) by kernel_rfl) ▸ hK)) (AllReadyH.cons hK24_8 (fun K' hK => h8 K' ((show (#[true, false, true, false, false, false, false, false, false, false, false] : Array Bool).setIfInBounds 8 true = (#[true, false, true, false, false, false, false, false, true, false, false] : Array Bool) by kernel_rfl) ▸ hK)) AllReadyH.nil))
set_option maxRecDepth 100000 in
theorem cK24_012_38 {Q : Exit → Act → World → Prop} {S : World → Prop} {a : Act} {w : World}
    (h3 : ∀ K' : Act → World → Prop, Shut (∀ a w, S w → (S w → wpAnyH Try.prog .any opsK24 Q S 7 (#[true, true, true, true, false, false, false, false, false, false, false] : Array Bool) a w) → K' a w) → if Region.wanted qK24_3 (yielded opsK24 a.tmps) = true then Oper.wp Try.prog qK24_3 a w K' Q else K' (a.put (some 83) undef) w)
    (h8 : ∀ K' : Act → World → Prop, Shut (∀ a w, S w → (S w → wpAnyH Try.prog .any opsK24 Q S 7 (#[true, true, true, false, false, false, false, false, true, false, false] : Array Bool) a w) → K' a w) → if Region.wanted qK24_8 (yielded opsK24 a.tmps) = true then Oper.wp Try.prog qK24_8 a w K' Q else K' (a.put (some 14) undef) w) :
    wpAnyH Try.prog .any opsK24 Q S 8 (#[true, true, true, false, false, false, false, false, false, false, false] : Array Bool) a w :=
  wpAnyH_ready (rs := [3, 8]) (by kernel_rfl) (by simp) (AllReadyH.cons hK24_3 (fun K' hK => h3 K' ((show (#[true, true, true, false, false, false, false, false, false, false, false] : Array Bool).setIfInBounds 3 true = (#[true, true, true, true, false, false, false, false, false, false, false] : Array Bool) by kernel_rfl) ▸ hK)) (AllReadyH.cons hK24_8 (fun K' hK => h8 K' ((show (#[true, true, true, false, false, false, false, false, false, false, false] : Array Bool).setIfInBounds 8 true = (#[true, true, true, false, false, false, false, false, true, false, false] : Array Bool) by kernel_rfl) ▸ hK)) AllReadyH.nil))
set_option maxRecDepth 100000 in
theorem cK24_0123_48 {Q : Exit → Act → World → Prop} {S : World → Prop} {a : Act} {w : World}
    (h4 : ∀ K' : Act → World → Prop, Shut (∀ a w, S w → (S w → wpAnyH Try.prog .any opsK24 Q S 6 (#[true, true, true, true, true, false, false, false, false, false, false] : Array Bool) a w) → K' a w) → if Region.wanted qK24_4 (yielded opsK24 a.tmps) = true then Oper.wp Try.prog qK24_4 a w K' Q else K' (a.put (some 84) undef) w)
    (h8 : ∀ K' : Act → World → Prop, Shut (∀ a w, S w → (S w → wpAnyH Try.prog .any opsK24 Q S 6 (#[true, true, true, true, false, false, false, false, true, false, false] : Array Bool) a w) → K' a w) → if Region.wanted qK24_8 (yielded opsK24 a.tmps) = true then Oper.wp Try.prog qK24_8 a w K' Q else K' (a.put (some 14) undef) w) :
    wpAnyH Try.prog .any opsK24 Q S 7 (#[true, true, true, true, false, false, false, false, false, false, false] : Array Bool) a w :=
  wpAnyH_ready (rs := [4, 8]) (by kernel_rfl) (by simp) (AllReadyH.cons hK24_4 (fun K' hK => h4 K' ((show (#[true, true, true, true, false, false, false, false, false, false, false] : Array Bool).setIfInBounds 4 true = (#[true, true, true, true, true, false, false, false, false, false, false] : Array Bool) by kernel_rfl) ▸ hK)) (AllReadyH.cons hK24_8 (fun K' hK => h8 K' ((show (#[true, true, true, true, false, false, false, false, false, false, false] : Array Bool).setIfInBounds 8 true = (#[true, true, true, true, false, false, false, false, true, false, false] : Array Bool) by kernel_rfl) ▸ hK)) AllReadyH.nil))
theorem tK24_01234_5 {Q : Exit → Act → World → Prop} {S : World → Prop} {a : Act} {w : World} (v : Value) (hQ : ∀ c a w, Q (.panic c) (a.put (some 79) v) w → Q (.panic c) a w) (hy : YieldsIf Try.prog opsK24 S qK24_5 v a) (hS : S w)
    (h : wpAnyH Try.prog .any opsK24 Q S 5 (#[true, true, true, true, true, true, false, false, false, false, false] : Array Bool) (a.put (some 79) v) w) : wpAnyH Try.prog .any opsK24 Q S 6 (#[true, true, true, true, true, false, false, false, false, false, false] : Array Bool) a w :=
  wpAnyH_take (i := 5) hK24_5 noselK24 (by kernel_rfl) (by kernel_rfl) hQ hy hS ((show (#[true, true, true, true, true, false, false, false, false, false, false] : Array Bool).setIfInBounds 5 true = (#[true, true, true, true, true, true, false, false, false, false, false] : Array Bool) by kernel_rfl).symm ▸ h)
theorem tK24_012345_6 {Q : Exit → Act → World → Prop} {S : World → Prop} {a : Act} {w : World} (v : Value) (hQ : ∀ c a w, Q (.panic c) (a.put (some 85) v) w → Q (.panic c) a w) (hy : YieldsIf Try.prog opsK24 S qK24_6 v a) (hS : S w)
    (h : wpAnyH Try.prog .any opsK24 Q S 4 (#[true, true, true, true, true, true, true, false, false, false, false] : Array Bool) (a.put (some 85) v) w) : wpAnyH Try.prog .any opsK24 Q S 5 (#[true, true, true, true, true, true, false, false, false, false, false] : Array Bool) a w :=
  wpAnyH_take (i := 6) hK24_6 noselK24 (by kernel_rfl) (by kernel_rfl) hQ hy hS ((show (#[true, true, true, true, true, true, false, false, false, false, false] : Array Bool).setIfInBounds 6 true = (#[true, true, true, true, true, true, true, false, false, false, false] : Array Bool) by kernel_rfl).symm ▸ h)
theorem tK24_0123456_7 {Q : Exit → Act → World → Prop} {S : World → Prop} {a : Act} {w : World} (v : Value) (hQ : ∀ c a w, Q (.panic c) (a.put (some 86) v) w → Q (.panic c) a w) (hy : YieldsIf Try.prog opsK24 S qK24_7 v a) (hS : S w)
    (h : wpAnyH Try.prog .any opsK24 Q S 3 (#[true, true, true, true, true, true, true, true, false, false, false] : Array Bool) (a.put (some 86) v) w) : wpAnyH Try.prog .any opsK24 Q S 4 (#[true, true, true, true, true, true, true, false, false, false, false] : Array Bool) a w :=
  wpAnyH_take (i := 7) hK24_7 noselK24 (by kernel_rfl) (by kernel_rfl) hQ hy hS ((show (#[true, true, true, true, true, true, true, false, false, false, false] : Array Bool).setIfInBounds 7 true = (#[true, true, true, true, true, true, true, true, false, false, false] : Array Bool) by kernel_rfl).symm ▸ h)
set_option maxRecDepth 100000 in
theorem cK24_01234567_8 {Q : Exit → Act → World → Prop} {S : World → Prop} {a : Act} {w : World}
    (h8 : ∀ K' : Act → World → Prop, Shut (∀ a w, S w → (S w → wpAnyH Try.prog .any opsK24 Q S 2 (#[true, true, true, true, true, true, true, true, true, false, false] : Array Bool) a w) → K' a w) → if Region.wanted qK24_8 (yielded opsK24 a.tmps) = true then Oper.wp Try.prog qK24_8 a w K' Q else K' (a.put (some 14) undef) w) :
    wpAnyH Try.prog .any opsK24 Q S 3 (#[true, true, true, true, true, true, true, true, false, false, false] : Array Bool) a w :=
  wpAnyH_ready (rs := [8]) (by kernel_rfl) (by simp) (AllReadyH.cons hK24_8 (fun K' hK => h8 K' ((show (#[true, true, true, true, true, true, true, true, false, false, false] : Array Bool).setIfInBounds 8 true = (#[true, true, true, true, true, true, true, true, true, false, false] : Array Bool) by kernel_rfl) ▸ hK)) AllReadyH.nil)
set_option maxRecDepth 100000 in
theorem cK24_012345678_9 {Q : Exit → Act → World → Prop} {S : World → Prop} {a : Act} {w : World}
    (h9 : ∀ K' : Act → World → Prop, Shut (∀ a w, S w → (S w → wpAnyH Try.prog .any opsK24 Q S 1 (#[true, true, true, true, true, true, true, true, true, true, false] : Array Bool) a w) → K' a w) → if Region.wanted qK24_9 (yielded opsK24 a.tmps) = true then Oper.wp Try.prog qK24_9 a w K' Q else K' (a.put (none) undef) w) :
    wpAnyH Try.prog .any opsK24 Q S 2 (#[true, true, true, true, true, true, true, true, true, false, false] : Array Bool) a w :=
  wpAnyH_ready (rs := [9]) (by kernel_rfl) (by simp) (AllReadyH.cons hK24_9 (fun K' hK => h9 K' ((show (#[true, true, true, true, true, true, true, true, true, false, false] : Array Bool).setIfInBounds 9 true = (#[true, true, true, true, true, true, true, true, true, true, false] : Array Bool) by kernel_rfl) ▸ hK)) AllReadyH.nil)
theorem tK24_0123456789_10 {Q : Exit → Act → World → Prop} {S : World → Prop} {a : Act} {w : World} (v : Value) (hQ : ∀ c a w, Q (.panic c) (a.put (some 15) v) w → Q (.panic c) a w) (hy : YieldsIf Try.prog opsK24 S qK24_10 v a) (hS : S w)
    (h : wpAnyH Try.prog .any opsK24 Q S 0 (#[true, true, true, true, true, true, true, true, true, true, true] : Array Bool) (a.put (some 15) v) w) : wpAnyH Try.prog .any opsK24 Q S 1 (#[true, true, true, true, true, true, true, true, true, true, false] : Array Bool) a w :=
  wpAnyH_take (i := 10) hK24_10 noselK24 (by kernel_rfl) (by kernel_rfl) hQ hy hS ((show (#[true, true, true, true, true, true, true, true, true, true, false] : Array Bool).setIfInBounds 10 true = (#[true, true, true, true, true, true, true, true, true, true, true] : Array Bool) by kernel_rfl).symm ▸ h)
set_option maxRecDepth 100000 in
theorem cK24_01238_4 {Q : Exit → Act → World → Prop} {S : World → Prop} {a : Act} {w : World}
    (h4 : ∀ K' : Act → World → Prop, Shut (∀ a w, S w → (S w → wpAnyH Try.prog .any opsK24 Q S 5 (#[true, true, true, true, true, false, false, false, true, false, false] : Array Bool) a w) → K' a w) → if Region.wanted qK24_4 (yielded opsK24 a.tmps) = true then Oper.wp Try.prog qK24_4 a w K' Q else K' (a.put (some 84) undef) w) :
    wpAnyH Try.prog .any opsK24 Q S 6 (#[true, true, true, true, false, false, false, false, true, false, false] : Array Bool) a w :=
  wpAnyH_ready (rs := [4]) (by kernel_rfl) (by simp) (AllReadyH.cons hK24_4 (fun K' hK => h4 K' ((show (#[true, true, true, true, false, false, false, false, true, false, false] : Array Bool).setIfInBounds 4 true = (#[true, true, true, true, true, false, false, false, true, false, false] : Array Bool) by kernel_rfl) ▸ hK)) AllReadyH.nil)
theorem tK24_012348_5 {Q : Exit → Act → World → Prop} {S : World → Prop} {a : Act} {w : World} (v : Value) (hQ : ∀ c a w, Q (.panic c) (a.put (some 79) v) w → Q (.panic c) a w) (hy : YieldsIf Try.prog opsK24 S qK24_5 v a) (hS : S w)
    (h : wpAnyH Try.prog .any opsK24 Q S 4 (#[true, true, true, true, true, true, false, false, true, false, false] : Array Bool) (a.put (some 79) v) w) : wpAnyH Try.prog .any opsK24 Q S 5 (#[true, true, true, true, true, false, false, false, true, false, false] : Array Bool) a w :=
  wpAnyH_take (i := 5) hK24_5 noselK24 (by kernel_rfl) (by kernel_rfl) hQ hy hS ((show (#[true, true, true, true, true, false, false, false, true, false, false] : Array Bool).setIfInBounds 5 true = (#[true, true, true, true, true, true, false, false, true, false, false] : Array Bool) by kernel_rfl).symm ▸ h)
theorem tK24_0123458_6 {Q : Exit → Act → World → Prop} {S : World → Prop} {a : Act} {w : World} (v : Value) (hQ : ∀ c a w, Q (.panic c) (a.put (some 85) v) w → Q (.panic c) a w) (hy : YieldsIf Try.prog opsK24 S qK24_6 v a) (hS : S w)
    (h : wpAnyH Try.prog .any opsK24 Q S 3 (#[true, true, true, true, true, true, true, false, true, false, false] : Array Bool) (a.put (some 85) v) w) : wpAnyH Try.prog .any opsK24 Q S 4 (#[true, true, true, true, true, true, false, false, true, false, false] : Array Bool) a w :=
  wpAnyH_take (i := 6) hK24_6 noselK24 (by kernel_rfl) (by kernel_rfl) hQ hy hS ((show (#[true, true, true, true, true, true, false, false, true, false, false] : Array Bool).setIfInBounds 6 true = (#[true, true, true, true, true, true, true, false, true, false, false] : Array Bool) by kernel_rfl).symm ▸ h)
theorem tK24_01234568_7 {Q : Exit → Act → World → Prop} {S : World → Prop} {a : Act} {w : World} (v : Value) (hQ : ∀ c a w, Q (.panic c) (a.put (some 86) v) w → Q (.panic c) a w) (hy : YieldsIf Try.prog opsK24 S qK24_7 v a) (hS : S w)
    (h : wpAnyH Try.prog .any opsK24 Q S 2 (#[true, true, true, true, true, true, true, true, true, false, false] : Array Bool) (a.put (some 86) v) w) : wpAnyH Try.prog .any opsK24 Q S 3 (#[true, true, true, true, true, true, true, false, true, false, false] : Array Bool) a w :=
  wpAnyH_take (i := 7) hK24_7 noselK24 (by kernel_rfl) (by kernel_rfl) hQ hy hS ((show (#[true, true, true, true, true, true, true, false, true, false, false] : Array Bool).setIfInBounds 7 true = (#[true, true, true, true, true, true, true, true, true, false, false] : Array Bool) by kernel_rfl).symm ▸ h)
set_option maxRecDepth 100000 in
theorem cK24_0128_3 {Q : Exit → Act → World → Prop} {S : World → Prop} {a : Act} {w : World}
    (h3 : ∀ K' : Act → World → Prop, Shut (∀ a w, S w → (S w → wpAnyH Try.prog .any opsK24 Q S 6 (#[true, true, true, true, false, false, false, false, true, false, false] : Array Bool) a w) → K' a w) → if Region.wanted qK24_3 (yielded opsK24 a.tmps) = true then Oper.wp Try.prog qK24_3 a w K' Q else K' (a.put (some 83) undef) w) :
    wpAnyH Try.prog .any opsK24 Q S 7 (#[true, true, true, false, false, false, false, false, true, false, false] : Array Bool) a w :=
  wpAnyH_ready (rs := [3]) (by kernel_rfl) (by simp) (AllReadyH.cons hK24_3 (fun K' hK => h3 K' ((show (#[true, true, true, false, false, false, false, false, true, false, false] : Array Bool).setIfInBounds 3 true = (#[true, true, true, true, false, false, false, false, true, false, false] : Array Bool) by kernel_rfl) ▸ hK)) AllReadyH.nil)
set_option maxRecDepth 100000 in
theorem cK24_028_1 {Q : Exit → Act → World → Prop} {S : World → Prop} {a : Act} {w : World}
    (h1 : ∀ K' : Act → World → Prop, Shut (∀ a w, S w → (S w → wpAnyH Try.prog .any opsK24 Q S 7 (#[true, true, true, false, false, false, false, false, true, false, false] : Array Bool) a w) → K' a w) → if Region.wanted qK24_1 (yielded opsK24 a.tmps) = true then Oper.wp Try.prog qK24_1 a w K' Q else K' (a.put (some 81) undef) w) :
    wpAnyH Try.prog .any opsK24 Q S 8 (#[true, false, true, false, false, false, false, false, true, false, false] : Array Bool) a w :=
  wpAnyH_ready (rs := [1]) (by kernel_rfl) (by simp) (AllReadyH.cons hK24_1 (fun K' hK => h1 K' ((show (#[true, false, true, false, false, false, false, false, true, false, false] : Array Bool).setIfInBounds 1 true = (#[true, true, true, false, false, false, false, false, true, false, false] : Array Bool) by kernel_rfl) ▸ hK)) AllReadyH.nil)
end Go.Proofs.Ytidpjpakodndhaa.hexes
