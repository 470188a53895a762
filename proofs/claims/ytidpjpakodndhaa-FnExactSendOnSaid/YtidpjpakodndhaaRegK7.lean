/-
  A statement of laws.FnExactSendOn: its operations, and a theorem a step.
-/
import Derived.Test.YtidpjpakodndhaaProg
import Derived.WalkKit
import Derived.Deep.RegionHeld3
namespace Go.Proofs.Ytidpjpakodndhaa.hexes
open Go.RowKit

def findK7 (n : Nat) : Code → Option Code
  | .region id ops d => if id = n then some (.region id ops d) else none
  | .seq a b => match findK7 n a with
    | some c => some c
    | none => findK7 n b
  | .block _ c => findK7 n c
  | .scope c => findK7 n c
  | .loop c => findK7 n c
  | .cond _ a b => match findK7 n a with
    | some c => some c
    | none => findK7 n b
  | _ => none
def opsOfK7 : Option Code → Array Oper
  | some (.region _ ops _) => ops
  | _ => #[]
noncomputable def opsK7 : Array Oper := opsOfK7 (Try.f7.body.bind (findK7 7))
def schK7 : List Nat := [0, 1, 7, 2, 3, 4, 5, 6, 8, 9]
def LK7 (k : Nat) : Array Bool := ((List.range 10).map fun i => (schK7.take k).contains i).toArray
theorem noselK7 : Region.noSelect opsK7 = true := by kernel_rfl
def qK7_0 : Oper := { dst := some 32, op := Op.load 26 (Operand.tmp 8), type := 26, pos := "exact.go:2578", after := #[], guard := none }
theorem hK7_0 : opsK7[0]? = some qK7_0 := by kernel_rfl
def qK7_1 : Oper := { dst := some 33, op := Op.load 58 (Operand.tmp 3), type := 58, pos := "exact.go:2578", after := #[], guard := none }
theorem hK7_1 : opsK7[1]? = some qK7_1 := by kernel_rfl
def qK7_2 : Oper := { dst := some 34, op := Op.call { callee := Callee.value (Operand.func 38), args := #[Operand.tmp 33], argTypes := #[58] }, type := 30, pos := "exact.go:2578", after := #[{ on := 1, ground := Ground.data }], guard := none }
theorem hK7_2 : opsK7[2]? = some qK7_2 := by kernel_rfl
def qK7_3 : Oper := { dst := some 35, op := Op.call { callee := Callee.value (Operand.func 14), args := #[Operand.tmp 32, Operand.tmp 34], argTypes := #[26, 30] }, type := 33, pos := "exact.go:2578", after := #[{ on := 0, ground := Ground.data }, { on := 2, ground := Ground.data }, { on := 2, ground := Ground.chain }], guard := none }
theorem hK7_3 : opsK7[3]? = some qK7_3 := by kernel_rfl
def qK7_4 : Oper := { dst := some 31, op := Op.move (Operand.tmp 35), type := 33, pos := "exact.go:2578", after := #[{ on := 3, ground := Ground.data }], guard := none }
theorem hK7_4 : opsK7[4]? = some qK7_4 := by kernel_rfl
def qK7_5 : Oper := { dst := some 36, op := Op.extract (Operand.tmp 31) 0, type := 26, pos := "exact.go:2578", after := #[{ on := 4, ground := Ground.data }], guard := none }
theorem hK7_5 : opsK7[5]? = some qK7_5 := by kernel_rfl
def qK7_6 : Oper := { dst := some 37, op := Op.extract (Operand.tmp 31) 1, type := 4, pos := "exact.go:2578", after := #[{ on := 4, ground := Ground.data }, { on := 8, ground := Ground.gcOnly Departure.lateStores }], guard := none }
theorem hK7_6 : opsK7[6]? = some qK7_6 := by kernel_rfl
def qK7_7 : Oper := { dst := some 9, op := Op.alloc 26, type := 0, pos := "exact.go:2578", after := #[], guard := none }
theorem hK7_7 : opsK7[7]? = some qK7_7 := by kernel_rfl
def qK7_8 : Oper := { dst := none, op := Op.store 26 (Operand.tmp 9) (Operand.tmp 36), type := 0, pos := "exact.go:2578", after := #[{ on := 7, ground := Ground.data }, { on := 5, ground := Ground.data }, { on := 3, ground := Ground.chain }, { on := 0, ground := Ground.phase }, { on := 1, ground := Ground.phase }, { on := 2, ground := Ground.phase }, { on := 3, ground := Ground.phase }, { on := 4, ground := Ground.phase }, { on := 5, ground := Ground.phase }, { on := 6, ground := Ground.textOnly Departure.lateStores }, { on := 7, ground := Ground.phase }], guard := none }
theorem hK7_8 : opsK7[8]? = some qK7_8 := by kernel_rfl
def qK7_9 : Oper := { dst := some 10, op := Op.assign (Operand.tmp 37), type := 4, pos := "exact.go:2578", after := #[{ on := 6, ground := Ground.data }, { on := 8, ground := Ground.chain }, { on := 0, ground := Ground.phase }, { on := 1, ground := Ground.phase }, { on := 2, ground := Ground.phase }, { on := 3, ground := Ground.phase }, { on := 4, ground := Ground.phase }, { on := 5, ground := Ground.phase }, { on := 6, ground := Ground.phase }, { on := 7, ground := Ground.phase }, { on := 8, ground := Ground.phase }], guard := none }
theorem hK7_9 : opsK7[9]? = some qK7_9 := by kernel_rfl
theorem tK7_e_0 {Q : Exit → Act → World → Prop} {S : World → Prop} {a : Act} {w : World} (v : Value) (hQ : ∀ c a w, Q (.panic c) (a.put (some 32) v) w → Q (.panic c) a w) (hy : YieldsIf Try.prog opsK7 S qK7_0 v a) (hS : S w)
    (h : wpAnyH Try.prog .any opsK7 Q S 9 (#[true, false, false, false, false, false, false, false, false, false] : Array Bool) (a.put (some 32) v) w) : wpAnyH Try.prog .any opsK7 Q S 10 (#[false, false, false, false, false, false, false, false, false, false] : Array Bool) a w :=
  wpAnyH_take (i := 0) hK7_0 noselK7 (by kernel_rfl) (by kernel_rfl) hQ hy hS ((show (#[false, false, false, false, false, false, false, false, false, false] : Array Bool).setIfInBounds 0 true = (#[true, false, false, false, false, false, false, false, false, false] : Array Bool) by kernel_rfl).symm ▸ h)
theorem tK7_0_1 {Q : Exit → Act → World → Prop} {S : World → Prop} {a : Act} {w : World} (v : Value) (hQ : ∀ c a w, Q (.panic c) (a.put (some 33) v) w → Q (.panic c) a w) (hy : YieldsIf Try.prog opsK7 S qK7_1 v a) (hS : S w)
    (h : wpAnyH Try.prog .any opsK7 Q S 8 (#[true, true, false, false, false, false, false, false, false, false] : Array Bool) (a.put (some 33) v) w) : wpAnyH Try.prog .any opsK7 Q S 9 (#[true, false, false, false, false, false, false, false, false, false] : Array Bool) a w :=
  wpAnyH_take (i := 1) hK7_1 noselK7 (by kernel_rfl) (by kernel_rfl) hQ hy hS ((show (#[true, false, false, false, false, false, false, false, false, false] : Array Bool).setIfInBounds 1 true = (#[true, true, false, false, false, false, false, false, false, false] : Array Bool) by kernel_rfl).symm ▸ h)
set_option maxRecDepth 100000 in
theorem cK7_01_27 {Q : Exit → Act → World → Prop} {S : World → Prop} {a : Act} {w : World}
    (h2 : ∀ K' : Act → World → Prop, Shut (∀ a w, S w → (S w → wpAnyH Try.prog .any opsK7 Q S 7 (#[true, true, true, false, false, false, false, false, false, false] : Array Bool) a w) → K' a w) → if Region.wanted qK7_2 (yielded opsK7 a.tmps) = true then Oper.wp Try.prog qK7_2 a w K' Q else K' (a.put (some 34) undef) w)
    (h7 : ∀ K' : Act → World → Prop, Shut (∀ a w, S w → (S w → wpAnyH Try.prog .any opsK7 Q S 7 (#[true, true, false, false, false, false, false, true, false, false] : Array Bool) a w) → K' a w) → if Region.wanted qK7_7 (yielded opsK7 a.tmps) = true then Oper.wp Try.prog qK7_7 a w K' Q else K' (a.put (some 9) undef) w) :
    wpAnyH Try.prog .any opsK7 Q S 8 (#[true, true, false, false, false, false, false, false, false, false] : Array Bool) a w :=
  wpAnyH_ready (rs := [2, 7]) (by kernel_rfl) (by simp) (AllReadyH.cons hK7_2 (fun K' hK => h2 K' ((show (#[true, true, false, false, false, false, false, false, false, false] : Array Bool).setIfInBounds 2 true = (#[true, true, true, false, false, false, false, false, false, false] : Array Bool) by kernel_rfl) ▸ hK)) (AllReadyH.cons hK7_7 (fun K' hK => h7 K' ((show (#[true, true, false, false, false, false, false, false, false, false] : Array Bool).setIfInBounds 7 true = (#[true, true, false, false, false, false, false, true, false, false] : Array Bool) by kernel_rfl) ▸ hK)) AllReadyH.nil))
set_option maxRecDepth 100000 in
theorem cK7_012_37 {Q : Exit → Act → World → Prop} {S : World → Prop} {a : Act} {w : World}
    (h3 : ∀ K' : Act → World → Prop, Shut (∀ a w, S w → (S w → wpAnyH Try.prog .any opsK7 Q S 6 (#[true, true, true, true, false, false, false, false, false, false] : Array Bool) a w) → K' a w) → if Region.wanted qK7_3 (yielded opsK7 a.tmps) = true then Oper.wp Try.prog qK7_3 a w K' Q else K' (a.put (some 35) undef) w)
    (h7 : ∀ K' : Act → World → Prop, Shut (∀ a w, S w → (S w → wpAnyH Try.prog .any opsK7 Q S 6 (#[true, true, true, false, false, false, false, true, false, false] : Array Bool) a w) → K' a w) → if Region.wanted qK7_7 (yielded opsK7 a.tmps) = true then Oper.wp Try.prog qK7_7 a w K' Q else K' (a.put (some 9) undef) w) :
    wpAnyH Try.prog .any opsK7 Q S 7 (#[true, true, true, false, false, false, false, false, false, false] : Array Bool) a w :=
  wpAnyH_ready (rs := [3, 7]) (by kernel_rfl) (by simp) (AllReadyH.cons hK7_3 (fun K' hK => h3 K' ((show (#[true, true, true, false, false, false, false, false, false, false] : Array Bool).setIfInBounds 3 true = (#[true, true, true, true, false, false, false, false, false, false] : Array Bool) by kernel_rfl) ▸ hK)) (AllReadyH.cons hK7_7 (fun K' hK => h7 K' ((show (#[true, true, true, false, false, false, false, false, false, false] : Array Bool).setIfInBounds 7 true = (#[true, true, true, false, false, false, false, true, false, false] : Array Bool) by kernel_rfl) ▸ hK)) AllReadyH.nil))
theorem tK7_0123_4 {Q : Exit → Act → World → Prop} {S : World → Prop} {a : Act} {w : World} (v : Value) (hQ : ∀ c a w, Q (.panic c) (a.put (some 31) v) w → Q (.panic c) a w) (hy : YieldsIf Try.prog opsK7 S qK7_4 v a) (hS : S w)
    (h : wpAnyH Try.prog .any opsK7 Q S 5 (#[true, true, true, true, true, false, false, false, false, false] : Array Bool) (a.put (some 31) v) w) : wpAnyH Try.prog .any opsK7 Q S 6 (#[true, true, true, true, false, false, false, false, false, false] : Array Bool) a w :=
  wpAnyH_take (i := 4) hK7_4 noselK7 (by kernel_rfl) (by kernel_rfl) hQ hy hS ((show (#[true, true, true, true, false, false, false, false, false, false] : Array Bool).setIfInBounds 4 true = (#[true, true, true, true, true, false, false, false, false, false] : Array Bool) by kernel_rfl).symm ▸ h)
theorem tK7_01234_5 {Q : Exit → Act → World → Prop} {S : World → Prop} {a : Act} {w : World} (v : Value) (hQ : ∀ c a w, Q (.panic c) (a.put (some 36) v) w → Q (.panic c) a w) (hy : YieldsIf Try.prog opsK7 S qK7_5 v a) (hS : S w)
    (h : wpAnyH Try.prog .any opsK7 Q S 4 (#[true, true, true, true, true, true, false, false, false, false] : Array Bool) (a.put (some 36) v) w) : wpAnyH Try.prog .any opsK7 Q S 5 (#[true, true, true, true, true, false, false, false, false, false] : Array Bool) a w :=
  wpAnyH_take (i := 5) hK7_5 noselK7 (by kernel_rfl) (by kernel_rfl) hQ hy hS ((show (#[true, true, true, true, true, false, false, false, false, false] : Array Bool).setIfInBounds 5 true = (#[true, true, true, true, true, true, false, false, false, false] : Array Bool) by kernel_rfl).symm ▸ h)
theorem tK7_012345_6 {Q : Exit → Act → World → Prop} {S : World → Prop} {a : Act} {w : World} (v : Value) (hQ : ∀ c a w, Q (.panic c) (a.put (some 37) v) w → Q (.panic c) a w) (hy : YieldsIf Try.prog opsK7 S qK7_6 v a) (hS : S w)
    (h : wpAnyH Try.prog .any opsK7 Q S 3 (#[true, true, true, true, true, true, true, false, false, false] : Array Bool) (a.put (some 37) v) w) : wpAnyH Try.prog .any opsK7 Q S 4 (#[true, true, true, true, true, true, false, false, false, false] : Array Bool) a w :=
  wpAnyH_take (i := 6) hK7_6 noselK7 (by kernel_rfl) (by kernel_rfl) hQ hy hS ((show (#[true, true, true, true, true, true, false, false, false, false] : Array Bool).setIfInBounds 6 true = (#[true, true, true, true, true, true, true, false, false, false] : Array Bool) by kernel_rfl).symm ▸ h)
set_option maxRecDepth 100000 in
theorem cK7_0123456_7 {Q : Exit → Act → World → Prop} {S : World → Prop} {a : Act} {w : World}
    (h7 : ∀ K' : Act → World → Prop, Shut (∀ a w, S w → (S w → wpAnyH Try.prog .any opsK7 Q S 2 (#[true, true, true, true, true, true, true, true, false, false] : Array Bool) a w) → K' a w) → if Region.wanted qK7_7 (yielded opsK7 a.tmps) = true then Oper.wp Try.prog qK7_7 a w K' Q else K' (a.put (some 9) undef) w) :
    wpAnyH Try.prog .any opsK7 Q S 3 (#[true, true, true, true, true, true, true, false, false, false] : Array Bool) a w :=
  wpAnyH_ready (rs := [7]) (by kernel_rfl) (by simp) (AllReadyH.cons hK7_7 (fun K' hK => h7 K' ((show (#[true, true, true, true, true, true, true, false, false, false] : Array Bool).setIfInBounds 7 true = (#[true, true, true, true, true, true, true, true, false, false] : Array Bool) by kernel_rfl) ▸ hK)) AllReadyH.nil)
set_option maxRecDepth 100000 in
theorem cK7_01234567_8 {Q : Exit → Act → World → Prop} {S : World → Prop} {a : Act} {w : World}
    (h8 : ∀ K' : Act → World → Prop, Shut (∀ a w, S w → (S w → wpAnyH Try.prog .any opsK7 Q S 1 (#[true, true, true, true, true, true, true, true, true, false] : Array Bool) a w) → K' a w) → if Region.wanted qK7_8 (yielded opsK7 a.tmps) = true then Oper.wp Try.prog qK7_8 a w K' Q else K' (a.put (none) undef) w) :
    wpAnyH Try.prog .any opsK7 Q S 2 (#[true, true, true, true, true, true, true, true, false, false] : Array Bool) a w :=
  wpAnyH_ready (rs := [8]) (by kernel_rfl) (by simp) (AllReadyH.cons hK7_8 (fun K' hK => h8 K' ((show (#[true, true, true, true, true, true, true, true, false, false] : Array Bool).setIfInBounds 8 true = (#[true, true, true, true, true, true, true, true, true, false] : Array Bool) by kernel_rfl) ▸ hK)) AllReadyH.nil)
theorem tK7_012345678_9 {Q : Exit → Act → World → Prop} {S : World → Prop} {a : Act} {w : World} (v : Value) (hQ : ∀ c a w, Q (.panic c) (a.put (some 10) v) w → Q (.panic c) a w) (hy : YieldsIf Try.prog opsK7 S qK7_9 v a) (hS : S w)
    (h : wpAnyH Try.prog .any opsK7 Q S 0 (#[true, true, true, true, true, true, true, true, true, true] : Array Bool) (a.put (some 10) v) w) : wpAnyH Try.prog .any opsK7 Q S 1 (#[true, true, true, true, true, true, true, true, true, false] : Array Bool) a w :=
  wpAnyH_take (i := 9) hK7_9 noselK7 (by kernel_rfl) (by kernel_rfl) hQ hy hS ((show (#[true, true, true, true, true, true, true, true, true, false] : Array Bool).setIfInBounds 9 true = (#[true, true, true, true, true, true, true, true, true, true] : Array Bool) by kernel_rfl).symm ▸ h)
set_option maxRecDepth 100000 in
theorem cK7_0127_3 {Q : Exit → Act → World → Prop} {S : World → Prop} {a : Act} {w : World}
    (h3 : ∀ K' : Act → World → Prop, Shut (∀ a w, S w → (S w → wpAnyH Try.prog .any opsK7 Q S 5 (#[true, true, true, true, false, false, false, true, false, false] : Array Bool) a w) → K' a w) → if Region.wanted qK7_3 (yielded opsK7 a.tmps) = true then Oper.wp Try.prog qK7_3 a w K' Q else K' (a.put (some 35) undef) w) :
    wpAnyH Try.prog .any opsK7 Q S 6 (#[true, true, true, false, false, false, false, true, false, false] : Array Bool) a w :=
  wpAnyH_ready (rs := [3]) (by kernel_rfl) (by simp) (AllReadyH.cons hK7_3 (fun K' hK => h3 K' ((show (#[true, true, true, false, false, false, false, true, false, false] : Array Bool).setIfInBounds 3 true = (#[true, true, true, true, false, false, false, true, false, false] : Array Bool) by kernel_rfl) ▸ hK)) AllReadyH.nil)
theorem tK7_01237_4 {Q : Exit → Act → World → Prop} {S : World → Prop} {a : Act} {w : World} (v : Value) (hQ : ∀ c a w, Q (.panic c) (a.put (some 31) v) w → Q (.panic c) a w) (hy : YieldsIf Try.prog opsK7 S qK7_4 v a) (hS : S w)
    (h : wpAnyH Try.prog .any opsK7 Q S 4 (#[true, true, true, true, true, false, false, true, false, false] : Array Bool) (a.put (some 31) v) w) : wpAnyH Try.prog .any opsK7 Q S 5 (#[true, true, true, true, false, false, false, true, false, false] : Array Bool) a w :=
  wpAnyH_take (i := 4) hK7_4 noselK7 (by kernel_rfl) (by kernel_rfl) hQ hy hS ((show (#[true, true, true, true, false, false, false, true, false, false] : Array Bool).setIfInBounds 4 true = (#[true, true, true, true, true, false, false, true, false, false] : Array Bool) by kernel_rfl).symm ▸ h)
theorem tK7_012347_5 {Q : Exit → Act → World → Prop} {S : World → Prop} {a : Act} {w : World} (v : Value) (hQ : ∀ c a w, Q (.panic c) (a.put (some 36) v) w → Q (.panic c) a w) (hy : YieldsIf Try.prog opsK7 S qK7_5 v a) (hS : S w)
    (h : wpAnyH Try.prog .any opsK7 Q S 3 (#[true, true, true, true, true, true, false, true, false, false] : Array Bool) (a.put (some 36) v) w) : wpAnyH Try.prog .any opsK7 Q S 4 (#[true, true, true, true, true, false, false, true, false, false] : Array Bool) a w :=
  wpAnyH_take (i := 5) hK7_5 noselK7 (by kernel_rfl) (by kernel_rfl) hQ hy hS ((show (#[true, true, true, true, true, false, false, true, false, false] : Array Bool).setIfInBounds 5 true = (#[true, true, true, true, true, true, false, true, false, false] : Array Bool) by kernel_rfl).symm ▸ h)
theorem tK7_0123457_6 {Q : Exit → Act → World → Prop} {S : World → Prop} {a : Act} {w : World} (v : Value) (hQ : ∀ c a w, Q (.panic c) (a.put (some 37) v) w → Q (.panic c) a w) (hy : YieldsIf Try.prog opsK7 S qK7_6 v a) (hS : S w)
    (h : wpAnyH Try.prog .any opsK7 Q S 2 (#[true, true, true, true, true, true, true, true, false, false] : Array Bool) (a.put (some 37) v) w) : wpAnyH Try.prog .any opsK7 Q S 3 (#[true, true, true, true, true, true, false, true, false, false] : Array Bool) a w :=
  wpAnyH_take (i := 6) hK7_6 noselK7 (by kernel_rfl) (by kernel_rfl) hQ hy hS ((show (#[true, true, true, true, true, true, false, true, false, false] : Array Bool).setIfInBounds 6 true = (#[true, true, true, true, true, true, true, true, false, false] : Array Bool) by kernel_rfl).symm ▸ h)
set_option maxRecDepth 100000 in
theorem cK7_017_2 {Q : Exit → Act → World → Prop} {S : World → Prop} {a : Act} {w : World}
    (h2 : ∀ K' : Act → World → Prop, Shut (∀ a w, S w → (S w → wpAnyH Try.prog .any opsK7 Q S 6 (#[true, true, true, false, false, false, false, true, false, false] : Array Bool) a w) → K' a w) → if Region.wanted qK7_2 (yielded opsK7 a.tmps) = true then Oper.wp Try.prog qK7_2 a w K' Q else K' (a.put (some 34) undef) w) :
    wpAnyH Try.prog .any opsK7 Q S 7 (#[true, true, false, false, false, false, false, true, false, false] : Array Bool) a w :=
  wpAnyH_ready (rs := [2]) (by kernel_rfl) (by simp) (AllReadyH.cons hK7_2 (fun K' hK => h2 K' ((show (#[true, true, false, false, false, false, false, true, false, false] : Array Bool).setIfInBounds 2 true = (#[true, true, true, false, false, false, false, true, false, false] : Array Bool) by kernel_rfl) ▸ hK)) AllReadyH.nil)
end Go.Proofs.Ytidpjpakodndhaa.hexes
