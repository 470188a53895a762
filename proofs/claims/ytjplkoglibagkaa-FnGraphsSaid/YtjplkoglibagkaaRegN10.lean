/-
  A statement of spec.l07Any: its operations, and a theorem a step.
-/
import Derived.Test.YtjplkoglibagkaaProg
import Derived.WalkKit
import Derived.Deep.RegionHeld3
namespace Go.Proofs.Ytjplkoglibagkaa.hexes
open Go.RowKit

def findN10 (n : Nat) : Code → Option Code
  | .region id ops d => if id = n then some (.region id ops d) else none
  | .seq a b => match findN10 n a with
    | some c => some c
    | none => findN10 n b
  | .block _ c => findN10 n c
  | .scope c => findN10 n c
  | .loop c => findN10 n c
  | .cond _ a b => match findN10 n a with
    | some c => some c
    | none => findN10 n b
  | _ => none
def opsOfN10 : Option Code → Array Oper
  | some (.region _ ops _) => ops
  | _ => #[]
noncomputable def opsN10 : Array Oper := opsOfN10 (Try.f66.body.bind (findN10 10))
def schN10 : List Nat := [0, 1, 2, 3, 4, 5, 6, 7, 8]
def LN10 (k : Nat) : Array Bool := ((List.range 9).map fun i => (schN10.take k).contains i).toArray
theorem noselN10 : Region.noSelect opsN10 = true := by kernel_rfl
def qN10_0 : Oper := { dst := some 28, op := Op.fieldAddr 37 (Operand.tmp 3) 3, type := 0, pos := "l07_operators.go:91", after := #[], guard := none }
theorem hN10_0 : opsN10[0]? = some qN10_0 := by kernel_rfl
def qN10_1 : Oper := { dst := some 29, op := Op.load 30 (Operand.tmp 28), type := 30, pos := "l07_operators.go:91", after := #[{ on := 0, ground := Ground.data }], guard := none }
theorem hN10_1 : opsN10[1]? = some qN10_1 := by kernel_rfl
def qN10_2 : Oper := { dst := some 30, op := Op.move (Operand.tmp 0), type := 58, pos := "l07_operators.go:91", after := #[], guard := none }
theorem hN10_2 : opsN10[2]? = some qN10_2 := by kernel_rfl
def qN10_3 : Oper := { dst := some 31, op := Op.buildSlice 30 4 #[(0, Operand.const (Value.int IntKind.i64 1)), (1, Operand.const (Value.int IntKind.i64 7)), (2, Operand.const (Value.int IntKind.i64 8)), (3, Operand.const (Value.int IntKind.i64 (-1)))], type := 30, pos := "l07_operators.go:91", after := #[], guard := none }
theorem hN10_3 : opsN10[3]? = some qN10_3 := by kernel_rfl
def qN10_4 : Oper := { dst := some 32, op := Op.call { callee := Callee.value (Operand.func 48), args := #[Operand.tmp 30, Operand.tmp 31], argTypes := #[58, 30] }, type := 3, pos := "l07_operators.go:91", after := #[{ on := 2, ground := Ground.data }, { on := 3, ground := Ground.data }], guard := none }
theorem hN10_4 : opsN10[4]? = some qN10_4 := by kernel_rfl
def qN10_5 : Oper := { dst := some 33, op := Op.buildSlice 30 1 #[(0, Operand.tmp 32)], type := 30, pos := "l07_operators.go:91", after := #[{ on := 4, ground := Ground.data }], guard := none }
theorem hN10_5 : opsN10[5]? = some qN10_5 := by kernel_rfl
def qN10_6 : Oper := { dst := some 34, op := Op.call { callee := Callee.builtin Builtin.append, args := #[Operand.tmp 29, Operand.tmp 33], argTypes := #[30, 30] }, type := 30, pos := "l07_operators.go:91", after := #[{ on := 1, ground := Ground.data }, { on := 5, ground := Ground.data }, { on := 4, ground := Ground.chain }], guard := none }
theorem hN10_6 : opsN10[6]? = some qN10_6 := by kernel_rfl
def qN10_7 : Oper := { dst := some 35, op := Op.fieldAddr 37 (Operand.tmp 3) 3, type := 0, pos := "l07_operators.go:91", after := #[{ on := 0, ground := Ground.phase }, { on := 1, ground := Ground.phase }, { on := 2, ground := Ground.phase }, { on := 3, ground := Ground.phase }, { on := 4, ground := Ground.phase }, { on := 5, ground := Ground.phase }, { on := 6, ground := Ground.phase }], guard := none }
theorem hN10_7 : opsN10[7]? = some qN10_7 := by kernel_rfl
def qN10_8 : Oper := { dst := none, op := Op.store 30 (Operand.tmp 35) (Operand.tmp 34), type := 0, pos := "l07_operators.go:91", after := #[{ on := 7, ground := Ground.data }, { on := 6, ground := Ground.data }, { on := 6, ground := Ground.chain }, { on := 0, ground := Ground.phase }, { on := 1, ground := Ground.phase }, { on := 2, ground := Ground.phase }, { on := 3, ground := Ground.phase }, { on := 4, ground := Ground.phase }, { on := 5, ground := Ground.phase }, { on := 6, ground := Ground.phase }], guard := none }
theorem hN10_8 : opsN10[8]? = some qN10_8 := by kernel_rfl
theorem tN10_e_0 {Q : Exit → Act → World → Prop} {S : World → Prop} {a : Act} {w : World} (v : Value) (hQ : ∀ c a w, Q (.panic c) (a.put (some 28) v) w → Q (.panic c) a w) (hy : YieldsIf Try.prog opsN10 S qN10_0 v a) (hS : S w)
    (h : wpAnyH Try.prog .any opsN10 Q S 8 (#[true, false, false, false, false, false, false, false, false] : Array Bool) (a.put (some 28) v) w) : wpAnyH Try.prog .any opsN10 Q S 9 (#[false, false, false, false, false, false, false, false, false] : Array Bool) a w :=
  wpAnyH_take (i := 0) hN10_0 noselN10 (by kernel_rfl) (by kernel_rfl) hQ hy hS ((show (#[false, false, false, false, false, false, false, false, false] : Array Bool).setIfInBounds 0 true = (#[true, false, false, false, false, false, false, false, false] : Array Bool) by kernel_rfl).symm ▸ h)
theorem tN10_0_2 {Q : Exit → Act → World → Prop} {S : World → Prop} {a : Act} {w : World} (v : Value) (hQ : ∀ c a w, Q (.panic c) (a.put (some 30) v) w → Q (.panic c) a w) (hy : YieldsIf Try.prog opsN10 S qN10_2 v a) (hS : S w)
    (h : wpAnyH Try.prog .any opsN10 Q S 7 (#[true, false, true, false, false, false, false, false, false] : Array Bool) (a.put (some 30) v) w) : wpAnyH Try.prog .any opsN10 Q S 8 (#[true, false, false, false, false, false, false, false, false] : Array Bool) a w :=
  wpAnyH_take (i := 2) hN10_2 noselN10 (by kernel_rfl) (by kernel_rfl) hQ hy hS ((show (#[true, false, false, false, false, false, false, false, false] : Array Bool).setIfInBounds 2 true = (#[true, false, true, false, false, false, false, false, false] : Array Bool) by kernel_rfl).symm ▸ h)
theorem tN10_0123456_7 {Q : Exit → Act → World → Prop} {S : World → Prop} {a : Act} {w : World} (v : Value) (hQ : ∀ c a w, Q (.panic c) (a.put (some 35) v) w → Q (.panic c) a w) (hy : YieldsIf Try.prog opsN10 S qN10_7 v a) (hS : S w)
    (h : wpAnyH Try.prog .any opsN10 Q S 1 (#[true, true, true, true, true, true, true, true, false] : Array Bool) (a.put (some 35) v) w) : wpAnyH Try.prog .any opsN10 Q S 2 (#[true, true, true, true, true, true, true, false, false] : Array Bool) a w :=
  wpAnyH_take (i := 7) hN10_7 noselN10 (by kernel_rfl) (by kernel_rfl) hQ hy hS ((show (#[true, true, true, true, true, true, true, false, false] : Array Bool).setIfInBounds 7 true = (#[true, true, true, true, true, true, true, true, false] : Array Bool) by kernel_rfl).symm ▸ h)
set_option maxRecDepth 100000 in
theorem cN10_01234567_8 {Q : Exit → Act → World → Prop} {S : World → Prop} {a : Act} {w : World}
    (h8 : ∀ K' : Act → World → Prop, Shut (∀ a w, S w → (S w → wpAnyH Try.prog .any opsN10 Q S 0 (#[true, true, true, true, true, true, true, true, true] : Array Bool) a w) → K' a w) → if Region.wanted qN10_8 (yielded opsN10 a.tmps) = true then Oper.wp Try.prog qN10_8 a w K' Q else K' (a.put (none) undef) w) :
    wpAnyH Try.prog .any opsN10 Q S 1 (#[true, true, true, true, true, true, true, true, false] : Array Bool) a w :=
  wpAnyH_ready (rs := [8]) (by kernel_rfl) (by simp) (AllReadyH.cons hN10_8 (fun K' hK => h8 K' ((show (#[true, true, true, true, true, true, true, true, false] : Array Bool).setIfInBounds 8 true = (#[true, true, true, true, true, true, true, true, true] : Array Bool) by kernel_rfl) ▸ hK)) AllReadyH.nil)
set_option maxRecDepth 100000 in
theorem cN10_012345_6 {Q : Exit → Act → World → Prop} {S : World → Prop} {a : Act} {w : World}
    (h6 : ∀ K' : Act → World → Prop, Shut (∀ a w, S w → (S w → wpAnyH Try.prog .any opsN10 Q S 2 (#[true, true, true, true, true, true, true, false, false] : Array Bool) a w) → K' a w) → if Region.wanted qN10_6 (yielded opsN10 a.tmps) = true then Oper.wp Try.prog qN10_6 a w K' Q else K' (a.put (some 34) undef) w) :
    wpAnyH Try.prog .any opsN10 Q S 3 (#[true, true, true, true, true, true, false, false, false] : Array Bool) a w :=
  wpAnyH_ready (rs := [6]) (by kernel_rfl) (by simp) (AllReadyH.cons hN10_6 (fun K' hK => h6 K' ((show (#[true, true, true, true, true, true, false, false, false] : Array Bool).setIfInBounds 6 true = (#[true, true, true, true, true, true, true, false, false] : Array Bool) by kernel_rfl) ▸ hK)) AllReadyH.nil)
set_option maxRecDepth 100000 in
theorem cN10_01234_5 {Q : Exit → Act → World → Prop} {S : World → Prop} {a : Act} {w : World}
    (h5 : ∀ K' : Act → World → Prop, Shut (∀ a w, S w → (S w → wpAnyH Try.prog .any opsN10 Q S 3 (#[true, true, true, true, true, true, false, false, false] : Array Bool) a w) → K' a w) → if Region.wanted qN10_5 (yielded opsN10 a.tmps) = true then Oper.wp Try.prog qN10_5 a w K' Q else K' (a.put (some 33) undef) w) :
    wpAnyH Try.prog .any opsN10 Q S 4 (#[true, true, true, true, true, false, false, false, false] : Array Bool) a w :=
  wpAnyH_ready (rs := [5]) (by kernel_rfl) (by simp) (AllReadyH.cons hN10_5 (fun K' hK => h5 K' ((show (#[true, true, true, true, true, false, false, false, false] : Array Bool).setIfInBounds 5 true = (#[true, true, true, true, true, true, false, false, false] : Array Bool) by kernel_rfl) ▸ hK)) AllReadyH.nil)
set_option maxRecDepth 100000 in
theorem cN10_0123_4 {Q : Exit → Act → World → Prop} {S : World → Prop} {a : Act} {w : World}
    (h4 : ∀ K' : Act → World → Prop, Shut (∀ a w, S w → (S w → wpAnyH Try.prog .any opsN10 Q S 4 (#[true, true, true, true, true, false, false, false, false] : Array Bool) a w) → K' a w) → if Region.wanted qN10_4 (yielded opsN10 a.tmps) = true then Oper.wp Try.prog qN10_4 a w K' Q else K' (a.put (some 32) undef) w) :
    wpAnyH Try.prog .any opsN10 Q S 5 (#[true, true, true, true, false, false, false, false, false] : Array Bool) a w :=
  wpAnyH_ready (rs := [4]) (by kernel_rfl) (by simp) (AllReadyH.cons hN10_4 (fun K' hK => h4 K' ((show (#[true, true, true, true, false, false, false, false, false] : Array Bool).setIfInBounds 4 true = (#[true, true, true, true, true, false, false, false, false] : Array Bool) by kernel_rfl) ▸ hK)) AllReadyH.nil)
set_option maxRecDepth 100000 in
theorem cN10_012_3 {Q : Exit → Act → World → Prop} {S : World → Prop} {a : Act} {w : World}
    (h3 : ∀ K' : Act → World → Prop, Shut (∀ a w, S w → (S w → wpAnyH Try.prog .any opsN10 Q S 5 (#[true, true, true, true, false, false, false, false, false] : Array Bool) a w) → K' a w) → if Region.wanted qN10_3 (yielded opsN10 a.tmps) = true then Oper.wp Try.prog qN10_3 a w K' Q else K' (a.put (some 31) undef) w) :
    wpAnyH Try.prog .any opsN10 Q S 6 (#[true, true, true, false, false, false, false, false, false] : Array Bool) a w :=
  wpAnyH_ready (rs := [3]) (by kernel_rfl) (by simp) (AllReadyH.cons hN10_3 (fun K' hK => h3 K' ((show (#[true, true, true, false, false, false, false, false, false] : Array Bool).setIfInBounds 3 true = (#[true, true, true, true, false, false, false, false, false] : Array Bool) by kernel_rfl) ▸ hK)) AllReadyH.nil)
set_option maxRecDepth 100000 in
theorem cN10_02345_1 {Q : Exit → Act → World → Prop} {S : World → Prop} {a : Act} {w : World}
    (h1 : ∀ K' : Act → World → Prop, Shut (∀ a w, S w → (S w → wpAnyH Try.prog .any opsN10 Q S 3 (#[true, true, true, true, true, true, false, false, false] : Array Bool) a w) → K' a w) → if Region.wanted qN10_1 (yielded opsN10 a.tmps) = true then Oper.wp Try.prog qN10_1 a w K' Q else K' (a.put (some 29) undef) w) :
    wpAnyH Try.prog .any opsN10 Q S 4 (#[true, false, true, true, true, true, false, false, false] : Array Bool) a w :=
  wpAnyH_ready (rs := [1]) (by kernel_rfl) (by simp) (AllReadyH.cons hN10_1 (fun K' hK => h1 K' ((show (#[true, false, true, true, true, true, false, false, false] : Array Bool).setIfInBounds 1 true = (#[true, true, true, true, true, true, false, false, false] : Array Bool) by kernel_rfl) ▸ hK)) AllReadyH.nil)
set_option maxRecDepth 100000 in
theorem cN10_0234_15 {Q : Exit → Act → World → Prop} {S : World → Prop} {a : Act} {w : World}
    (h1 : ∀ K' : Act → World → Prop, Shut (∀ a w, S w → (S w → wpAnyH Try.prog .any opsN10 Q S 4 (#[true, true, true, true, true, false, false, false, false] : Array Bool) a w) → K' a w) → if Region.wanted qN10_1 (yielded opsN10 a.tmps) = true then Oper.wp Try.prog qN10_1 a w K' Q else K' (a.put (some 29) undef) w)
    (h5 : ∀ K' : Act → World → Prop, Shut (∀ a w, S w → (S w → wpAnyH Try.prog .any opsN10 Q S 4 (#[true, false, true, true, true, true, false, false, false] : Array Bool) a w) → K' a w) → if Region.wanted qN10_5 (yielded opsN10 a.tmps) = true then Oper.wp Try.prog qN10_5 a w K' Q else K' (a.put (some 33) undef) w) :
    wpAnyH Try.prog .any opsN10 Q S 5 (#[true, false, true, true, true, false, false, false, false] : Array Bool) a w :=
  wpAnyH_ready (rs := [1, 5]) (by kernel_rfl) (by simp) (AllReadyH.cons hN10_1 (fun K' hK => h1 K' ((show (#[true, false, true, true, true, false, false, false, false] : Array Bool).setIfInBounds 1 true = (#[true, true, true, true, true, false, false, false, false] : Array Bool) by kernel_rfl) ▸ hK)) (AllReadyH.cons hN10_5 (fun K' hK => h5 K' ((show (#[true, false, true, true, true, false, false, false, false] : Array Bool).setIfInBounds 5 true = (#[true, false, true, true, true, true, false, false, false] : Array Bool) by kernel_rfl) ▸ hK)) AllReadyH.nil))
set_option maxRecDepth 100000 in
theorem cN10_023_14 {Q : Exit → Act → World → Prop} {S : World → Prop} {a : Act} {w : World}
    (h1 : ∀ K' : Act → World → Prop, Shut (∀ a w, S w → (S w → wpAnyH Try.prog .any opsN10 Q S 5 (#[true, true, true, true, false, false, false, false, false] : Array Bool) a w) → K' a w) → if Region.wanted qN10_1 (yielded opsN10 a.tmps) = true then Oper.wp Try.prog qN10_1 a w K' Q else K' (a.put (some 29) undef) w)
    (h4 : ∀ K' : Act → World → Prop, Shut (∀ a w, S w → (S w → wpAnyH Try.prog .any opsN10 Q S 5 (#[true, false, true, true, true, false, false, false, false] : Array Bool) a w) → K' a w) → if Region.wanted qN10_4 (yielded opsN10 a.tmps) = true then Oper.wp Try.prog qN10_4 a w K' Q else K' (a.put (some 32) undef) w) :
    wpAnyH Try.prog .any opsN10 Q S 6 (#[true, false, true, true, false, false, false, false, false] : Array Bool) a w :=
  wpAnyH_ready (rs := [1, 4]) (by kernel_rfl) (by simp) (AllReadyH.cons hN10_1 (fun K' hK => h1 K' ((show (#[true, false, true, true, false, false, false, false, false] : Array Bool).setIfInBounds 1 true = (#[true, true, true, true, false, false, false, false, false] : Array Bool) by kernel_rfl) ▸ hK)) (AllReadyH.cons hN10_4 (fun K' hK => h4 K' ((show (#[true, false, true, true, false, false, false, false, false] : Array Bool).setIfInBounds 4 true = (#[true, false, true, true, true, false, false, false, false] : Array Bool) by kernel_rfl) ▸ hK)) AllReadyH.nil))
set_option maxRecDepth 100000 in
theorem cN10_02_13 {Q : Exit → Act → World → Prop} {S : World → Prop} {a : Act} {w : World}
    (h1 : ∀ K' : Act → World → Prop, Shut (∀ a w, S w → (S w → wpAnyH Try.prog .any opsN10 Q S 6 (#[true, true, true, false, false, false, false, false, false] : Array Bool) a w) → K' a w) → if Region.wanted qN10_1 (yielded opsN10 a.tmps) = true then Oper.wp Try.prog qN10_1 a w K' Q else K' (a.put (some 29) undef) w)
    (h3 : ∀ K' : Act → World → Prop, Shut (∀ a w, S w → (S w → wpAnyH Try.prog .any opsN10 Q S 6 (#[true, false, true, true, false, false, false, false, false] : Array Bool) a w) → K' a w) → if Region.wanted qN10_3 (yielded opsN10 a.tmps) = true then Oper.wp Try.prog qN10_3 a w K' Q else K' (a.put (some 31) undef) w) :
    wpAnyH Try.prog .any opsN10 Q S 7 (#[true, false, true, false, false, false, false, false, false] : Array Bool) a w :=
  wpAnyH_ready (rs := [1, 3]) (by kernel_rfl) (by simp) (AllReadyH.cons hN10_1 (fun K' hK => h1 K' ((show (#[true, false, true, false, false, false, false, false, false] : Array Bool).setIfInBounds 1 true = (#[true, true, true, false, false, false, false, false, false] : Array Bool) by kernel_rfl) ▸ hK)) (AllReadyH.cons hN10_3 (fun K' hK => h3 K' ((show (#[true, false, true, false, false, false, false, false, false] : Array Bool).setIfInBounds 3 true = (#[true, false, true, true, false, false, false, false, false] : Array Bool) by kernel_rfl) ▸ hK)) AllReadyH.nil))
end Go.Proofs.Ytjplkoglibagkaa.hexes
