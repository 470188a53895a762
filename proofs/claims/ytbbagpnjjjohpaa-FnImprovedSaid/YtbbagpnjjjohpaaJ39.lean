/-
  A statement of spec.l08Any: its operations, and a theorem a step.
  A statement of spec.l08Any: its operations, and a theorem a step.
  A statement of spec.l08Any: its operations, and a theorem a step.
-/
import Derived.Test.YtbbagpnjjjohpaaJ12

namespace Go.Proofs.Ytbbagpnjjjohpaa.hexes
open Go.RowKit

def findG5 (n : Nat) : Code → Option Code
  | .region id ops d => if id = n then some (.region id ops d) else none
  | .seq a b => match findG5 n a with
    | some c => some c
    | none => findG5 n b
  | .block _ c => findG5 n c
  | .scope c => findG5 n c
  | .loop c => findG5 n c
  | .cond _ a b => match findG5 n a with
    | some c => some c
    | none => findG5 n b
  | _ => none
def opsOfG5 : Option Code → Array Oper
  | some (.region _ ops _) => ops
  | _ => #[]
noncomputable def opsG5 : Array Oper := opsOfG5 (Try.f53.body.bind (findG5 5))
theorem noselG5 : Region.noSelect opsG5 = true := by kernel_rfl
def qG5_0 : Oper := { dst := some 16, op := Op.fieldAddr 26 (Operand.tmp 3) 0, type := 0, pos := "l08_graphs.go:152", after := #[], guard := none }
theorem hG5_0 : opsG5[0]? = some qG5_0 := by kernel_rfl
def qG5_1 : Oper := { dst := some 17, op := Op.load 24 (Operand.tmp 16), type := 24, pos := "l08_graphs.go:152", after := #[{ on := 0, ground := Ground.data }], guard := none }
theorem hG5_1 : opsG5[1]? = some qG5_1 := by kernel_rfl
def qG5_2 : Oper := { dst := some 18, op := Op.move (Operand.tmp 4), type := 3, pos := "l08_graphs.go:152", after := #[], guard := none }
theorem hG5_2 : opsG5[2]? = some qG5_2 := by kernel_rfl
def qG5_3 : Oper := { dst := some 19, op := Op.move (Operand.tmp 0), type := 80, pos := "l08_graphs.go:152", after := #[], guard := none }
theorem hG5_3 : opsG5[3]? = some qG5_3 := by kernel_rfl
def qG5_4 : Oper := { dst := some 20, op := Op.call { callee := Callee.value (Operand.func 83), args := #[Operand.tmp 19], argTypes := #[80] }, type := 46, pos := "l08_graphs.go:152", after := #[{ on := 3, ground := Ground.data }], guard := none }
theorem hG5_4 : opsG5[4]? = some qG5_4 := by kernel_rfl
def qG5_5 : Oper := { dst := some 21, op := Op.indexAddr 24 (Operand.tmp 17) (Operand.tmp 18), type := 0, pos := "l08_graphs.go:152", after := #[{ on := 1, ground := Ground.data }, { on := 2, ground := Ground.data }, { on := 0, ground := Ground.phase }, { on := 1, ground := Ground.phase }, { on := 2, ground := Ground.phase }, { on := 3, ground := Ground.phase }, { on := 4, ground := Ground.phase }], guard := none }
theorem hG5_5 : opsG5[5]? = some qG5_5 := by kernel_rfl
def qG5_6 : Oper := { dst := none, op := Op.store 46 (Operand.tmp 21) (Operand.tmp 20), type := 0, pos := "l08_graphs.go:152", after := #[{ on := 5, ground := Ground.data }, { on := 4, ground := Ground.data }, { on := 4, ground := Ground.chain }, { on := 0, ground := Ground.phase }, { on := 1, ground := Ground.phase }, { on := 2, ground := Ground.phase }, { on := 3, ground := Ground.phase }, { on := 4, ground := Ground.phase }], guard := none }
theorem hG5_6 : opsG5[6]? = some qG5_6 := by kernel_rfl
theorem tG5_e_0 : RegT Try.prog opsG5 qG5_0 (some 16) 6 (#[false, false, false, false, false, false, false] : Array Bool) (#[true, false, false, false, false, false, false] : Array Bool) := regT hG5_0 rfl noselG5 (by kernel_rfl) (by kernel_rfl) (by kernel_rfl)
theorem tG5_0_1 : RegT Try.prog opsG5 qG5_1 (some 17) 5 (#[true, false, false, false, false, false, false] : Array Bool) (#[true, true, false, false, false, false, false] : Array Bool) := regT hG5_1 rfl noselG5 (by kernel_rfl) (by kernel_rfl) (by kernel_rfl)
theorem tG5_01_2 : RegT Try.prog opsG5 qG5_2 (some 18) 4 (#[true, true, false, false, false, false, false] : Array Bool) (#[true, true, true, false, false, false, false] : Array Bool) := regT hG5_2 rfl noselG5 (by kernel_rfl) (by kernel_rfl) (by kernel_rfl)
theorem tG5_012_3 : RegT Try.prog opsG5 qG5_3 (some 19) 3 (#[true, true, true, false, false, false, false] : Array Bool) (#[true, true, true, true, false, false, false] : Array Bool) := regT hG5_3 rfl noselG5 (by kernel_rfl) (by kernel_rfl) (by kernel_rfl)
theorem tG5_01234_5 : RegT Try.prog opsG5 qG5_5 (some 21) 1 (#[true, true, true, true, true, false, false] : Array Bool) (#[true, true, true, true, true, true, false] : Array Bool) := regT hG5_5 rfl noselG5 (by kernel_rfl) (by kernel_rfl) (by kernel_rfl)
theorem cG5_012345_6 : RegC Try.prog opsG5 qG5_6 (none) 0 (#[true, true, true, true, true, true, false] : Array Bool) (#[true, true, true, true, true, true, true] : Array Bool) := regC hG5_6 rfl (by kernel_rfl) (by kernel_rfl)
theorem cG5_0123_4 : RegC Try.prog opsG5 qG5_4 (some 20) 2 (#[true, true, true, true, false, false, false] : Array Bool) (#[true, true, true, true, true, false, false] : Array Bool) := regC hG5_4 rfl (by kernel_rfl) (by kernel_rfl)
end Go.Proofs.Ytbbagpnjjjohpaa.hexes

namespace Go.Proofs.Ytbbagpnjjjohpaa.hexes
open Go.RowKit

def findG11 (n : Nat) : Code → Option Code
  | .region id ops d => if id = n then some (.region id ops d) else none
  | .seq a b => match findG11 n a with
    | some c => some c
    | none => findG11 n b
  | .block _ c => findG11 n c
  | .scope c => findG11 n c
  | .loop c => findG11 n c
  | .cond _ a b => match findG11 n a with
    | some c => some c
    | none => findG11 n b
  | _ => none
def opsOfG11 : Option Code → Array Oper
  | some (.region _ ops _) => ops
  | _ => #[]
noncomputable def opsG11 : Array Oper := opsOfG11 (Try.f53.body.bind (findG11 11))
theorem noselG11 : Region.noSelect opsG11 = true := by kernel_rfl
def qG11_0 : Oper := { dst := some 36, op := Op.fieldAddr 26 (Operand.tmp 3) 0, type := 0, pos := "l08_graphs.go:158", after := #[], guard := none }
theorem hG11_0 : opsG11[0]? = some qG11_0 := by kernel_rfl
def qG11_1 : Oper := { dst := some 37, op := Op.load 24 (Operand.tmp 36), type := 24, pos := "l08_graphs.go:158", after := #[{ on := 0, ground := Ground.data }], guard := none }
theorem hG11_1 : opsG11[1]? = some qG11_1 := by kernel_rfl
def qG11_2 : Oper := { dst := some 38, op := Op.move (Operand.tmp 4), type := 3, pos := "l08_graphs.go:158", after := #[], guard := none }
theorem hG11_2 : opsG11[2]? = some qG11_2 := by kernel_rfl
def qG11_3 : Oper := { dst := some 39, op := Op.fieldAddr 26 (Operand.tmp 3) 0, type := 0, pos := "l08_graphs.go:158", after := #[], guard := none }
theorem hG11_3 : opsG11[3]? = some qG11_3 := by kernel_rfl
def qG11_4 : Oper := { dst := some 40, op := Op.load 24 (Operand.tmp 39), type := 24, pos := "l08_graphs.go:158", after := #[{ on := 3, ground := Ground.data }], guard := none }
theorem hG11_4 : opsG11[4]? = some qG11_4 := by kernel_rfl
def qG11_5 : Oper := { dst := some 41, op := Op.move (Operand.tmp 4), type := 3, pos := "l08_graphs.go:158", after := #[], guard := none }
theorem hG11_5 : opsG11[5]? = some qG11_5 := by kernel_rfl
def qG11_6 : Oper := { dst := some 42, op := Op.indexAddr 24 (Operand.tmp 40) (Operand.tmp 41), type := 0, pos := "l08_graphs.go:158", after := #[{ on := 4, ground := Ground.data }, { on := 5, ground := Ground.data }], guard := none }
theorem hG11_6 : opsG11[6]? = some qG11_6 := by kernel_rfl
def qG11_7 : Oper := { dst := some 43, op := Op.fieldAddr 46 (Operand.tmp 42) 3, type := 0, pos := "l08_graphs.go:158", after := #[{ on := 6, ground := Ground.data }], guard := none }
theorem hG11_7 : opsG11[7]? = some qG11_7 := by kernel_rfl
def qG11_8 : Oper := { dst := some 44, op := Op.load 44 (Operand.tmp 43), type := 44, pos := "l08_graphs.go:158", after := #[{ on := 7, ground := Ground.data }], guard := none }
theorem hG11_8 : opsG11[8]? = some qG11_8 := by kernel_rfl
def qG11_9 : Oper := { dst := some 45, op := Op.move (Operand.tmp 0), type := 80, pos := "l08_graphs.go:158", after := #[], guard := none }
theorem hG11_9 : opsG11[9]? = some qG11_9 := by kernel_rfl
def qG11_10 : Oper := { dst := some 46, op := Op.call { callee := Callee.value (Operand.func 54), args := #[Operand.tmp 45, Operand.const (Value.int IntKind.i64 9)], argTypes := #[80, 3] }, type := 3, pos := "l08_graphs.go:158", after := #[{ on := 9, ground := Ground.data }], guard := none }
theorem hG11_10 : opsG11[10]? = some qG11_10 := by kernel_rfl
def qG11_11 : Oper := { dst := some 47, op := Op.binOp BinOp.sub 3 (Operand.tmp 46) (Operand.const (Value.int IntKind.i64 1)) 3, type := 3, pos := "l08_graphs.go:158", after := #[{ on := 10, ground := Ground.data }], guard := none }
theorem hG11_11 : opsG11[11]? = some qG11_11 := by kernel_rfl
def qG11_12 : Oper := { dst := some 48, op := Op.buildSlice 44 1 #[(0, Operand.tmp 47)], type := 44, pos := "l08_graphs.go:158", after := #[{ on := 11, ground := Ground.data }], guard := none }
theorem hG11_12 : opsG11[12]? = some qG11_12 := by kernel_rfl
def qG11_13 : Oper := { dst := some 49, op := Op.call { callee := Callee.builtin Builtin.append, args := #[Operand.tmp 44, Operand.tmp 48], argTypes := #[44, 44] }, type := 44, pos := "l08_graphs.go:158", after := #[{ on := 8, ground := Ground.data }, { on := 12, ground := Ground.data }, { on := 10, ground := Ground.chain }], guard := none }
theorem hG11_13 : opsG11[13]? = some qG11_13 := by kernel_rfl
def qG11_14 : Oper := { dst := some 50, op := Op.indexAddr 24 (Operand.tmp 37) (Operand.tmp 38), type := 0, pos := "l08_graphs.go:158", after := #[{ on := 1, ground := Ground.data }, { on := 2, ground := Ground.data }, { on := 0, ground := Ground.phase }, { on := 1, ground := Ground.phase }, { on := 2, ground := Ground.phase }, { on := 3, ground := Ground.phase }, { on := 4, ground := Ground.phase }, { on := 5, ground := Ground.phase }, { on := 6, ground := Ground.phase }, { on := 7, ground := Ground.phase }, { on := 8, ground := Ground.phase }, { on := 9, ground := Ground.phase }, { on := 10, ground := Ground.phase }, { on := 11, ground := Ground.phase }, { on := 12, ground := Ground.phase }, { on := 13, ground := Ground.phase }], guard := none }
theorem hG11_14 : opsG11[14]? = some qG11_14 := by kernel_rfl
def qG11_15 : Oper := { dst := some 51, op := Op.fieldAddr 46 (Operand.tmp 50) 3, type := 0, pos := "l08_graphs.go:158", after := #[{ on := 14, ground := Ground.data }, { on := 0, ground := Ground.phase }, { on := 1, ground := Ground.phase }, { on := 2, ground := Ground.phase }, { on := 3, ground := Ground.phase }, { on := 4, ground := Ground.phase }, { on := 5, ground := Ground.phase }, { on := 6, ground := Ground.phase }, { on := 7, ground := Ground.phase }, { on := 8, ground := Ground.phase }, { on := 9, ground := Ground.phase }, { on := 10, ground := Ground.phase }, { on := 11, ground := Ground.phase }, { on := 12, ground := Ground.phase }, { on := 13, ground := Ground.phase }], guard := none }
theorem hG11_15 : opsG11[15]? = some qG11_15 := by kernel_rfl
def qG11_16 : Oper := { dst := none, op := Op.store 44 (Operand.tmp 51) (Operand.tmp 49), type := 0, pos := "l08_graphs.go:158", after := #[{ on := 15, ground := Ground.data }, { on := 13, ground := Ground.data }, { on := 13, ground := Ground.chain }, { on := 0, ground := Ground.phase }, { on := 1, ground := Ground.phase }, { on := 2, ground := Ground.phase }, { on := 3, ground := Ground.phase }, { on := 4, ground := Ground.phase }, { on := 5, ground := Ground.phase }, { on := 6, ground := Ground.phase }, { on := 7, ground := Ground.phase }, { on := 8, ground := Ground.phase }, { on := 9, ground := Ground.phase }, { on := 10, ground := Ground.phase }, { on := 11, ground := Ground.phase }, { on := 12, ground := Ground.phase }, { on := 13, ground := Ground.phase }], guard := none }
theorem hG11_16 : opsG11[16]? = some qG11_16 := by kernel_rfl
theorem tG11_e_0 : RegT Try.prog opsG11 qG11_0 (some 36) 16 (#[false, false, false, false, false, false, false, false, false, false, false, false, false, false, false, false, false] : Array Bool) (#[true, false, false, false, false, false, false, false, false, false, false, false, false, false, false, false, false] : Array Bool) := regT hG11_0 rfl noselG11 (by kernel_rfl) (by kernel_rfl) (by kernel_rfl)
theorem tG11_0_1 : RegT Try.prog opsG11 qG11_1 (some 37) 15 (#[true, false, false, false, false, false, false, false, false, false, false, false, false, false, false, false, false] : Array Bool) (#[true, true, false, false, false, false, false, false, false, false, false, false, false, false, false, false, false] : Array Bool) := regT hG11_1 rfl noselG11 (by kernel_rfl) (by kernel_rfl) (by kernel_rfl)
theorem tG11_01_2 : RegT Try.prog opsG11 qG11_2 (some 38) 14 (#[true, true, false, false, false, false, false, false, false, false, false, false, false, false, false, false, false] : Array Bool) (#[true, true, true, false, false, false, false, false, false, false, false, false, false, false, false, false, false] : Array Bool) := regT hG11_2 rfl noselG11 (by kernel_rfl) (by kernel_rfl) (by kernel_rfl)
theorem tG11_012_3 : RegT Try.prog opsG11 qG11_3 (some 39) 13 (#[true, true, true, false, false, false, false, false, false, false, false, false, false, false, false, false, false] : Array Bool) (#[true, true, true, true, false, false, false, false, false, false, false, false, false, false, false, false, false] : Array Bool) := regT hG11_3 rfl noselG11 (by kernel_rfl) (by kernel_rfl) (by kernel_rfl)
theorem tG11_0123_4 : RegT Try.prog opsG11 qG11_4 (some 40) 12 (#[true, true, true, true, false, false, false, false, false, false, false, false, false, false, false, false, false] : Array Bool) (#[true, true, true, true, true, false, false, false, false, false, false, false, false, false, false, false, false] : Array Bool) := regT hG11_4 rfl noselG11 (by kernel_rfl) (by kernel_rfl) (by kernel_rfl)
theorem tG11_01234_5 : RegT Try.prog opsG11 qG11_5 (some 41) 11 (#[true, true, true, true, true, false, false, false, false, false, false, false, false, false, false, false, false] : Array Bool) (#[true, true, true, true, true, true, false, false, false, false, false, false, false, false, false, false, false] : Array Bool) := regT hG11_5 rfl noselG11 (by kernel_rfl) (by kernel_rfl) (by kernel_rfl)
theorem tG11_012345_6 : RegT Try.prog opsG11 qG11_6 (some 42) 10 (#[true, true, true, true, true, true, false, false, false, false, false, false, false, false, false, false, false] : Array Bool) (#[true, true, true, true, true, true, true, false, false, false, false, false, false, false, false, false, false] : Array Bool) := regT hG11_6 rfl noselG11 (by kernel_rfl) (by kernel_rfl) (by kernel_rfl)
theorem tG11_0123456_7 : RegT Try.prog opsG11 qG11_7 (some 43) 9 (#[true, true, true, true, true, true, true, false, false, false, false, false, false, false, false, false, false] : Array Bool) (#[true, true, true, true, true, true, true, true, false, false, false, false, false, false, false, false, false] : Array Bool) := regT hG11_7 rfl noselG11 (by kernel_rfl) (by kernel_rfl) (by kernel_rfl)
theorem tG11_01234567_9 : RegT Try.prog opsG11 qG11_9 (some 45) 8 (#[true, true, true, true, true, true, true, true, false, false, false, false, false, false, false, false, false] : Array Bool) (#[true, true, true, true, true, true, true, true, false, true, false, false, false, false, false, false, false] : Array Bool) := regT hG11_9 rfl noselG11 (by kernel_rfl) (by kernel_rfl) (by kernel_rfl)
theorem tG11_0123456789_10_11 : RegT Try.prog opsG11 qG11_11 (some 47) 5 (#[true, true, true, true, true, true, true, true, true, true, true, false, false, false, false, false, false] : Array Bool) (#[true, true, true, true, true, true, true, true, true, true, true, true, false, false, false, false, false] : Array Bool) := regT hG11_11 rfl noselG11 (by kernel_rfl) (by kernel_rfl) (by kernel_rfl)
theorem tG11_0123456789_10_11_12_13_14 : RegT Try.prog opsG11 qG11_14 (some 50) 2 (#[true, true, true, true, true, true, true, true, true, true, true, true, true, true, false, false, false] : Array Bool) (#[true, true, true, true, true, true, true, true, true, true, true, true, true, true, true, false, false] : Array Bool) := regT hG11_14 rfl noselG11 (by kernel_rfl) (by kernel_rfl) (by kernel_rfl)
theorem tG11_0123456789_10_11_12_13_14_15 : RegT Try.prog opsG11 qG11_15 (some 51) 1 (#[true, true, true, true, true, true, true, true, true, true, true, true, true, true, true, false, false] : Array Bool) (#[true, true, true, true, true, true, true, true, true, true, true, true, true, true, true, true, false] : Array Bool) := regT hG11_15 rfl noselG11 (by kernel_rfl) (by kernel_rfl) (by kernel_rfl)
theorem cG11_0123456789_10_11_12_13_14_15__16 : RegC Try.prog opsG11 qG11_16 (none) 0 (#[true, true, true, true, true, true, true, true, true, true, true, true, true, true, true, true, false] : Array Bool) (#[true, true, true, true, true, true, true, true, true, true, true, true, true, true, true, true, true] : Array Bool) := regC hG11_16 rfl (by kernel_rfl) (by kernel_rfl)
theorem cG11_0123456789_10_11_12__13 : RegC Try.prog opsG11 qG11_13 (some 49) 3 (#[true, true, true, true, true, true, true, true, true, true, true, true, true, false, false, false, false] : Array Bool) (#[true, true, true, true, true, true, true, true, true, true, true, true, true, true, false, false, false] : Array Bool) := regC hG11_13 rfl (by kernel_rfl) (by kernel_rfl)
theorem cG11_0123456789_10_11__12 : RegC Try.prog opsG11 qG11_12 (some 48) 4 (#[true, true, true, true, true, true, true, true, true, true, true, true, false, false, false, false, false] : Array Bool) (#[true, true, true, true, true, true, true, true, true, true, true, true, true, false, false, false, false] : Array Bool) := regC hG11_12 rfl (by kernel_rfl) (by kernel_rfl)
theorem cG11_0123456789__10 : RegC Try.prog opsG11 qG11_10 (some 46) 6 (#[true, true, true, true, true, true, true, true, true, true, false, false, false, false, false, false, false] : Array Bool) (#[true, true, true, true, true, true, true, true, true, true, true, false, false, false, false, false, false] : Array Bool) := regC hG11_10 rfl (by kernel_rfl) (by kernel_rfl)
theorem tG11_012345679_10_11 : RegT Try.prog opsG11 qG11_11 (some 47) 6 (#[true, true, true, true, true, true, true, true, false, true, true, false, false, false, false, false, false] : Array Bool) (#[true, true, true, true, true, true, true, true, false, true, true, true, false, false, false, false, false] : Array Bool) := regT hG11_11 rfl noselG11 (by kernel_rfl) (by kernel_rfl) (by kernel_rfl)
theorem cG11_012345679_10_11_12_8 : RegC Try.prog opsG11 qG11_8 (some 44) 4 (#[true, true, true, true, true, true, true, true, false, true, true, true, true, false, false, false, false] : Array Bool) (#[true, true, true, true, true, true, true, true, true, true, true, true, true, false, false, false, false] : Array Bool) := regC hG11_8 rfl (by kernel_rfl) (by kernel_rfl)
set_option maxRecDepth 100000 in
theorem cG11_012345679_10_11_8_12 {Q : Exit → Act → World → Prop} {S : World → Prop} {a : Act} {w : World}
    (h8 : ∀ K' : Act → World → Prop, Shut (∀ a w, S w → (S w → wpAnyH Try.prog .any opsG11 Q S 5 (#[true, true, true, true, true, true, true, true, true, true, true, true, false, false, false, false, false] : Array Bool) a w) → K' a w) → if Region.wanted qG11_8 (yielded opsG11 a.tmps) = true then Oper.wp Try.prog qG11_8 a w K' Q else K' (a.put (some 44) undef) w)
    (h12 : ∀ K' : Act → World → Prop, Shut (∀ a w, S w → (S w → wpAnyH Try.prog .any opsG11 Q S 5 (#[true, true, true, true, true, true, true, true, false, true, true, true, true, false, false, false, false] : Array Bool) a w) → K' a w) → if Region.wanted qG11_12 (yielded opsG11 a.tmps) = true then Oper.wp Try.prog qG11_12 a w K' Q else K' (a.put (some 48) undef) w) :
    wpAnyH Try.prog .any opsG11 Q S 6 (#[true, true, true, true, true, true, true, true, false, true, true, true, false, false, false, false, false] : Array Bool) a w :=
  wpAnyH_ready (rs := [8, 12]) (by kernel_rfl) (by simp) (AllReadyH.cons hG11_8 (fun K' hK => h8 K' ((show (#[true, true, true, true, true, true, true, true, false, true, true, true, false, false, false, false, false] : Array Bool).setIfInBounds 8 true = (#[true, true, true, true, true, true, true, true, true, true, true, true, false, false, false, false, false] : Array Bool) by kernel_rfl) ▸ hK)) (AllReadyH.cons hG11_12 (fun K' hK => h12 K' ((show (#[true, true, true, true, true, true, true, true, false, true, true, true, false, false, false, false, false] : Array Bool).setIfInBounds 12 true = (#[true, true, true, true, true, true, true, true, false, true, true, true, true, false, false, false, false] : Array Bool) by kernel_rfl) ▸ hK)) AllReadyH.nil))
set_option maxRecDepth 100000 in
theorem cG11_012345679_8_10 {Q : Exit → Act → World → Prop} {S : World → Prop} {a : Act} {w : World}
    (h8 : ∀ K' : Act → World → Prop, Shut (∀ a w, S w → (S w → wpAnyH Try.prog .any opsG11 Q S 7 (#[true, true, true, true, true, true, true, true, true, true, false, false, false, false, false, false, false] : Array Bool) a w) → K' a w) → if Region.wanted qG11_8 (yielded opsG11 a.tmps) = true then Oper.wp Try.prog qG11_8 a w K' Q else K' (a.put (some 44) undef) w)
    (h10 : ∀ K' : Act → World → Prop, Shut (∀ a w, S w → (S w → wpAnyH Try.prog .any opsG11 Q S 7 (#[true, true, true, true, true, true, true, true, false, true, true, false, false, false, false, false, false] : Array Bool) a w) → K' a w) → if Region.wanted qG11_10 (yielded opsG11 a.tmps) = true then Oper.wp Try.prog qG11_10 a w K' Q else K' (a.put (some 46) undef) w) :
    wpAnyH Try.prog .any opsG11 Q S 8 (#[true, true, true, true, true, true, true, true, false, true, false, false, false, false, false, false, false] : Array Bool) a w :=
  wpAnyH_ready (rs := [8, 10]) (by kernel_rfl) (by simp) (AllReadyH.cons hG11_8 (fun K' hK => h8 K' ((show (#[true, true, true, true, true, true, true, true, false, true, false, false, false, false, false, false, false] : Array Bool).setIfInBounds 8 true = (#[true, true, true, true, true, true, true, true, true, true, false, false, false, false, false, false, false] : Array Bool) by kernel_rfl) ▸ hK)) (AllReadyH.cons hG11_10 (fun K' hK => h10 K' ((show (#[true, true, true, true, true, true, true, true, false, true, false, false, false, false, false, false, false] : Array Bool).setIfInBounds 10 true = (#[true, true, true, true, true, true, true, true, false, true, true, false, false, false, false, false, false] : Array Bool) by kernel_rfl) ▸ hK)) AllReadyH.nil))
end Go.Proofs.Ytbbagpnjjjohpaa.hexes

namespace Go.Proofs.Ytbbagpnjjjohpaa.hexes
open Go.RowKit

def findG13 (n : Nat) : Code → Option Code
  | .region id ops d => if id = n then some (.region id ops d) else none
  | .seq a b => match findG13 n a with
    | some c => some c
    | none => findG13 n b
  | .block _ c => findG13 n c
  | .scope c => findG13 n c
  | .loop c => findG13 n c
  | .cond _ a b => match findG13 n a with
    | some c => some c
    | none => findG13 n b
  | _ => none
def opsOfG13 : Option Code → Array Oper
  | some (.region _ ops _) => ops
  | _ => #[]
noncomputable def opsG13 : Array Oper := opsOfG13 (Try.f53.body.bind (findG13 13))
theorem noselG13 : Region.noSelect opsG13 = true := by kernel_rfl
def qG13_0 : Oper := { dst := some 54, op := Op.fieldAddr 26 (Operand.tmp 3) 0, type := 0, pos := "l08_graphs.go:160", after := #[], guard := none }
theorem hG13_0 : opsG13[0]? = some qG13_0 := by kernel_rfl
def qG13_1 : Oper := { dst := some 55, op := Op.load 24 (Operand.tmp 54), type := 24, pos := "l08_graphs.go:160", after := #[{ on := 0, ground := Ground.data }], guard := none }
theorem hG13_1 : opsG13[1]? = some qG13_1 := by kernel_rfl
def qG13_2 : Oper := { dst := some 56, op := Op.call { callee := Callee.builtin Builtin.len, args := #[Operand.tmp 55], argTypes := #[24] }, type := 3, pos := "l08_graphs.go:160", after := #[{ on := 1, ground := Ground.data }], guard := none }
theorem hG13_2 : opsG13[2]? = some qG13_2 := by kernel_rfl
def qG13_3 : Oper := { dst := some 57, op := Op.move (Operand.tmp 0), type := 80, pos := "l08_graphs.go:160", after := #[], guard := none }
theorem hG13_3 : opsG13[3]? = some qG13_3 := by kernel_rfl
def qG13_4 : Oper := { dst := some 58, op := Op.call { callee := Callee.value (Operand.func 54), args := #[Operand.tmp 57, Operand.const (Value.int IntKind.i64 2)], argTypes := #[80, 3] }, type := 3, pos := "l08_graphs.go:160", after := #[{ on := 3, ground := Ground.data }], guard := none }
theorem hG13_4 : opsG13[4]? = some qG13_4 := by kernel_rfl
def qG13_5 : Oper := { dst := some 59, op := Op.binOp BinOp.add 3 (Operand.const (Value.int IntKind.i64 8)) (Operand.tmp 58) 3, type := 3, pos := "l08_graphs.go:160", after := #[{ on := 4, ground := Ground.data }], guard := none }
theorem hG13_5 : opsG13[5]? = some qG13_5 := by kernel_rfl
def qG13_6 : Oper := { dst := some 60, op := Op.binOp BinOp.lss 3 (Operand.tmp 56) (Operand.tmp 59) 3, type := 4, pos := "l08_graphs.go:160", after := #[{ on := 2, ground := Ground.data }, { on := 5, ground := Ground.data }], guard := none }
theorem hG13_6 : opsG13[6]? = some qG13_6 := by kernel_rfl
theorem tG13_e_0 : RegT Try.prog opsG13 qG13_0 (some 54) 6 (#[false, false, false, false, false, false, false] : Array Bool) (#[true, false, false, false, false, false, false] : Array Bool) := regT hG13_0 rfl noselG13 (by kernel_rfl) (by kernel_rfl) (by kernel_rfl)
theorem tG13_0_1 : RegT Try.prog opsG13 qG13_1 (some 55) 5 (#[true, false, false, false, false, false, false] : Array Bool) (#[true, true, false, false, false, false, false] : Array Bool) := regT hG13_1 rfl noselG13 (by kernel_rfl) (by kernel_rfl) (by kernel_rfl)
theorem tG13_01_2 : RegT Try.prog opsG13 qG13_2 (some 56) 4 (#[true, true, false, false, false, false, false] : Array Bool) (#[true, true, true, false, false, false, false] : Array Bool) := regT hG13_2 rfl noselG13 (by kernel_rfl) (by kernel_rfl) (by kernel_rfl)
theorem tG13_012_3 : RegT Try.prog opsG13 qG13_3 (some 57) 3 (#[true, true, true, false, false, false, false] : Array Bool) (#[true, true, true, true, false, false, false] : Array Bool) := regT hG13_3 rfl noselG13 (by kernel_rfl) (by kernel_rfl) (by kernel_rfl)
theorem tG13_01234_5 : RegT Try.prog opsG13 qG13_5 (some 59) 1 (#[true, true, true, true, true, false, false] : Array Bool) (#[true, true, true, true, true, true, false] : Array Bool) := regT hG13_5 rfl noselG13 (by kernel_rfl) (by kernel_rfl) (by kernel_rfl)
theorem tG13_012345_6 : RegT Try.prog opsG13 qG13_6 (some 60) 0 (#[true, true, true, true, true, true, false] : Array Bool) (#[true, true, true, true, true, true, true] : Array Bool) := regT hG13_6 rfl noselG13 (by kernel_rfl) (by kernel_rfl) (by kernel_rfl)
theorem cG13_0123_4 : RegC Try.prog opsG13 qG13_4 (some 58) 2 (#[true, true, true, true, false, false, false] : Array Bool) (#[true, true, true, true, true, false, false] : Array Bool) := regC hG13_4 rfl (by kernel_rfl) (by kernel_rfl)
end Go.Proofs.Ytbbagpnjjjohpaa.hexes

