/-
  A statement of spec.l07Any: its operations, and a theorem a step.
-/
import Derived.Test.YtbbagpnjjjohpaaJ12

namespace Go.Proofs.Ytbbagpnjjjohpaa.hexes
open Go.RowKit

def findN10 (n : Nat) : Code → Option Code
  | .region id ops d => if id = n then some (.region id ops d) else none
  | .seq a b => match findN10 n a with
    | some c => some c
    | none => findN10 n b
  | .block _ c => findN10 n c
  | .scope c => findN10 n c
  | .loop c => findN10 n c
  | .cond _ a b => match findN10 n a with
    | some c => some c
    | none => findN10 n b
  | _ => none
def opsOfN10 : Option Code → Array Oper
  | some (.region _ ops _) => ops
  | _ => #[]
noncomputable def opsN10 : Array Oper := opsOfN10 (Try.f83.body.bind (findN10 10))
theorem noselN10 : Region.noSelect opsN10 = true := by kernel_rfl
def qN10_0 : Oper := { dst := some 28, op := Op.fieldAddr 46 (Operand.tmp 3) 3, type := 0, pos := "l07_operators.go:91", after := #[], guard := none }
theorem hN10_0 : opsN10[0]? = some qN10_0 := by kernel_rfl
def qN10_1 : Oper := { dst := some 29, op := Op.load 44 (Operand.tmp 28), type := 44, pos := "l07_operators.go:91", after := #[{ on := 0, ground := Ground.data }], guard := none }
theorem hN10_1 : opsN10[1]? = some qN10_1 := by kernel_rfl
def qN10_2 : Oper := { dst := some 30, op := Op.move (Operand.tmp 0), type := 80, pos := "l07_operators.go:91", after := #[], guard := none }
theorem hN10_2 : opsN10[2]? = some qN10_2 := by kernel_rfl
def qN10_3 : Oper := { dst := some 31, op := Op.buildSlice 44 4 #[(0, Operand.const (Value.int IntKind.i64 1)), (1, Operand.const (Value.int IntKind.i64 7)), (2, Operand.const (Value.int IntKind.i64 8)), (3, Operand.const (Value.int IntKind.i64 (-1)))], type := 44, pos := "l07_operators.go:91", after := #[], guard := none }
theorem hN10_3 : opsN10[3]? = some qN10_3 := by kernel_rfl
def qN10_4 : Oper := { dst := some 32, op := Op.call { callee := Callee.value (Operand.func 84), args := #[Operand.tmp 30, Operand.tmp 31], argTypes := #[80, 44] }, type := 3, pos := "l07_operators.go:91", after := #[{ on := 2, ground := Ground.data }, { on := 3, ground := Ground.data }], guard := none }
theorem hN10_4 : opsN10[4]? = some qN10_4 := by kernel_rfl
def qN10_5 : Oper := { dst := some 33, op := Op.buildSlice 44 1 #[(0, Operand.tmp 32)], type := 44, pos := "l07_operators.go:91", after := #[{ on := 4, ground := Ground.data }], guard := none }
theorem hN10_5 : opsN10[5]? = some qN10_5 := by kernel_rfl
def qN10_6 : Oper := { dst := some 34, op := Op.call { callee := Callee.builtin Builtin.append, args := #[Operand.tmp 29, Operand.tmp 33], argTypes := #[44, 44] }, type := 44, pos := "l07_operators.go:91", after := #[{ on := 1, ground := Ground.data }, { on := 5, ground := Ground.data }, { on := 4, ground := Ground.chain }], guard := none }
theorem hN10_6 : opsN10[6]? = some qN10_6 := by kernel_rfl
def qN10_7 : Oper := { dst := some 35, op := Op.fieldAddr 46 (Operand.tmp 3) 3, type := 0, pos := "l07_operators.go:91", after := #[{ on := 0, ground := Ground.phase }, { on := 1, ground := Ground.phase }, { on := 2, ground := Ground.phase }, { on := 3, ground := Ground.phase }, { on := 4, ground := Ground.phase }, { on := 5, ground := Ground.phase }, { on := 6, ground := Ground.phase }], guard := none }
theorem hN10_7 : opsN10[7]? = some qN10_7 := by kernel_rfl
def qN10_8 : Oper := { dst := none, op := Op.store 44 (Operand.tmp 35) (Operand.tmp 34), type := 0, pos := "l07_operators.go:91", after := #[{ on := 7, ground := Ground.data }, { on := 6, ground := Ground.data }, { on := 6, ground := Ground.chain }, { on := 0, ground := Ground.phase }, { on := 1, ground := Ground.phase }, { on := 2, ground := Ground.phase }, { on := 3, ground := Ground.phase }, { on := 4, ground := Ground.phase }, { on := 5, ground := Ground.phase }, { on := 6, ground := Ground.phase }], guard := none }
theorem hN10_8 : opsN10[8]? = some qN10_8 := by kernel_rfl
theorem tN10_e_0 : RegT Try.prog opsN10 qN10_0 (some 28) 8 (#[false, false, false, false, false, false, false, false, false] : Array Bool) (#[true, false, false, false, false, false, false, false, false] : Array Bool) := regT hN10_0 rfl noselN10 (by kernel_rfl) (by kernel_rfl) (by kernel_rfl)
theorem tN10_0_2 : RegT Try.prog opsN10 qN10_2 (some 30) 7 (#[true, false, false, false, false, false, false, false, false] : Array Bool) (#[true, false, true, false, false, false, false, false, false] : Array Bool) := regT hN10_2 rfl noselN10 (by kernel_rfl) (by kernel_rfl) (by kernel_rfl)
theorem tN10_0123456_7 : RegT Try.prog opsN10 qN10_7 (some 35) 1 (#[true, true, true, true, true, true, true, false, false] : Array Bool) (#[true, true, true, true, true, true, true, true, false] : Array Bool) := regT hN10_7 rfl noselN10 (by kernel_rfl) (by kernel_rfl) (by kernel_rfl)
theorem cN10_01234567_8 : RegC Try.prog opsN10 qN10_8 (none) 0 (#[true, true, true, true, true, true, true, true, false] : Array Bool) (#[true, true, true, true, true, true, true, true, true] : Array Bool) := regC hN10_8 rfl (by kernel_rfl) (by kernel_rfl)
theorem cN10_012345_6 : RegC Try.prog opsN10 qN10_6 (some 34) 2 (#[true, true, true, true, true, true, false, false, false] : Array Bool) (#[true, true, true, true, true, true, true, false, false] : Array Bool) := regC hN10_6 rfl (by kernel_rfl) (by kernel_rfl)
theorem cN10_01234_5 : RegC Try.prog opsN10 qN10_5 (some 33) 3 (#[true, true, true, true, true, false, false, false, false] : Array Bool) (#[true, true, true, true, true, true, false, false, false] : Array Bool) := regC hN10_5 rfl (by kernel_rfl) (by kernel_rfl)
theorem cN10_0123_4 : RegC Try.prog opsN10 qN10_4 (some 32) 4 (#[true, true, true, true, false, false, false, false, false] : Array Bool) (#[true, true, true, true, true, false, false, false, false] : Array Bool) := regC hN10_4 rfl (by kernel_rfl) (by kernel_rfl)
theorem cN10_012_3 : RegC Try.prog opsN10 qN10_3 (some 31) 5 (#[true, true, true, false, false, false, false, false, false] : Array Bool) (#[true, true, true, true, false, false, false, false, false] : Array Bool) := regC hN10_3 rfl (by kernel_rfl) (by kernel_rfl)
theorem cN10_02345_1 : RegC Try.prog opsN10 qN10_1 (some 29) 3 (#[true, false, true, true, true, true, false, false, false] : Array Bool) (#[true, true, true, true, true, true, false, false, false] : Array Bool) := regC hN10_1 rfl (by kernel_rfl) (by kernel_rfl)
set_option maxRecDepth 100000 in
theorem cN10_0234_15 {Q : Exit → Act → World → Prop} {S : World → Prop} {a : Act} {w : World}
    (h1 : ∀ K' : Act → World → Prop, Shut (∀ a w, S w → (S w → wpAnyH Try.prog .any opsN10 Q S 4 (#[true, true, true, true, true, false, false, false, false] : Array Bool) a w) → K' a w) → if Region.wanted qN10_1 (yielded opsN10 a.tmps) = true then Oper.wp Try.prog qN10_1 a w K' Q else K' (a.put (some 29) undef) w)
    (h5 : ∀ K' : Act → World → Prop, Shut (∀ a w, S w → (S w → wpAnyH Try.prog .any opsN10 Q S 4 (#[true, false, true, true, true, true, false, false, false] : Array Bool) a w) → K' a w) → if Region.wanted qN10_5 (yielded opsN10 a.tmps) = true then Oper.wp Try.prog qN10_5 a w K' Q else K' (a.put (some 33) undef) w) :
    wpAnyH Try.prog .any opsN10 Q S 5 (#[true, false, true, true, true, false, false, false, false] : Array Bool) a w :=
  wpAnyH_ready (rs := [1, 5]) (by kernel_rfl) (by simp) (AllReadyH.cons hN10_1 (fun K' hK => h1 K' ((show (#[true, false, true, true, true, false, false, false, false] : Array Bool).setIfInBounds 1 true = (#[true, true, true, true, true, false, false, false, false] : Array Bool) by kernel_rfl) ▸ hK)) (AllReadyH.cons hN10_5 (fun K' hK => h5 K' ((show (#[true, false, true, true, true, false, false, false, false] : Array Bool).setIfInBounds 5 true = (#[true, false, true, true, true, true, false, false, false] : Array Bool) by kernel_rfl) ▸ hK)) AllReadyH.nil))
set_option maxRecDepth 100000 in
theorem cN10_023_14 {Q : Exit → Act → World → Prop} {S : World → Prop} {a : Act} {w : World}
    (h1 : ∀ K' : Act → World → Prop, Shut (∀ a w, S w → (S w → wpAnyH Try.prog .any opsN10 Q S 5 (#[true, true, true, true, false, false, false, false, false] : Array Bool) a w) → K' a w) → if Region.wanted qN10_1 (yielded opsN10 a.tmps) = true then Oper.wp Try.prog qN10_1 a w K' Q else K' (a.put (some 29) undef) w)
    (h4 : ∀ K' : Act → World → Prop, Shut (∀ a w, S w → (S w → wpAnyH Try.prog .any opsN10 Q S 5 (#[true, false, true, true, true, false, false, false, false] : Array Bool) a w) → K' a w) → if Region.wanted qN10_4 (yielded opsN10 a.tmps) = true then Oper.wp Try.prog qN10_4 a w K' Q else K' (a.put (some 32) undef) w) :
    wpAnyH Try.prog .any opsN10 Q S 6 (#[true, false, true, true, false, false, false, false, false] : Array Bool) a w :=
  wpAnyH_ready (rs := [1, 4]) (by kernel_rfl) (by simp) (AllReadyH.cons hN10_1 (fun K' hK => h1 K' ((show (#[true, false, true, true, false, false, false, false, false] : Array Bool).setIfInBounds 1 true = (#[true, true, true, true, false, false, false, false, false] : Array Bool) by kernel_rfl) ▸ hK)) (AllReadyH.cons hN10_4 (fun K' hK => h4 K' ((show (#[true, false, true, true, false, false, false, false, false] : Array Bool).setIfInBounds 4 true = (#[true, false, true, true, true, false, false, false, false] : Array Bool) by kernel_rfl) ▸ hK)) AllReadyH.nil))
set_option maxRecDepth 100000 in
theorem cN10_02_13 {Q : Exit → Act → World → Prop} {S : World → Prop} {a : Act} {w : World}
    (h1 : ∀ K' : Act → World → Prop, Shut (∀ a w, S w → (S w → wpAnyH Try.prog .any opsN10 Q S 6 (#[true, true, true, false, false, false, false, false, false] : Array Bool) a w) → K' a w) → if Region.wanted qN10_1 (yielded opsN10 a.tmps) = true then Oper.wp Try.prog qN10_1 a w K' Q else K' (a.put (some 29) undef) w)
    (h3 : ∀ K' : Act → World → Prop, Shut (∀ a w, S w → (S w → wpAnyH Try.prog .any opsN10 Q S 6 (#[true, false, true, true, false, false, false, false, false] : Array Bool) a w) → K' a w) → if Region.wanted qN10_3 (yielded opsN10 a.tmps) = true then Oper.wp Try.prog qN10_3 a w K' Q else K' (a.put (some 31) undef) w) :
    wpAnyH Try.prog .any opsN10 Q S 7 (#[true, false, true, false, false, false, false, false, false] : Array Bool) a w :=
  wpAnyH_ready (rs := [1, 3]) (by kernel_rfl) (by simp) (AllReadyH.cons hN10_1 (fun K' hK => h1 K' ((show (#[true, false, true, false, false, false, false, false, false] : Array Bool).setIfInBounds 1 true = (#[true, true, true, false, false, false, false, false, false] : Array Bool) by kernel_rfl) ▸ hK)) (AllReadyH.cons hN10_3 (fun K' hK => h3 K' ((show (#[true, false, true, false, false, false, false, false, false] : Array Bool).setIfInBounds 3 true = (#[true, false, true, true, false, false, false, false, false] : Array Bool) by kernel_rfl) ▸ hK)) AllReadyH.nil))
end Go.Proofs.Ytbbagpnjjjohpaa.hexes

