/-
  A statement of spec.PutCell: its operations, and a theorem a step.
  A statement of spec.PutCell: its operations, and a theorem a step.
-/
import Derived.Test.YtbbagpnjjjohpaaJ12

namespace Go.Proofs.Ytbbagpnjjjohpaa.hexes
open Go.RowKit

def findP4 (n : Nat) : Code → Option Code
  | .region id ops d => if id = n then some (.region id ops d) else none
  | .seq a b => match findP4 n a with
    | some c => some c
    | none => findP4 n b
  | .block _ c => findP4 n c
  | .scope c => findP4 n c
  | .loop c => findP4 n c
  | .cond _ a b => match findP4 n a with
    | some c => some c
    | none => findP4 n b
  | _ => none
def opsOfP4 : Option Code → Array Oper
  | some (.region _ ops _) => ops
  | _ => #[]
noncomputable def opsP4 : Array Oper := opsOfP4 (Try.f81.body.bind (findP4 4))
def schP4 : List Nat := [0, 1, 2, 3, 4, 5, 6, 7, 8, 9, 10, 11, 12]
def LP4 (k : Nat) : Array Bool := ((List.range 13).map fun i => (schP4.take k).contains i).toArray
theorem noselP4 : Region.noSelect opsP4 = true := by kernel_rfl
def qP4_0 : Oper := { dst := some 13, op := Op.move (Operand.tmp 5), type := 3, pos := "l09_memory.go:38", after := #[], guard := none }
theorem hP4_0 : opsP4[0]? = some qP4_0 := by kernel_rfl
theorem lP4_0 : (LP4 0).setIfInBounds 0 true = LP4 1 := by kernel_rfl
theorem tP4_0 : RegT Try.prog opsP4 qP4_0 (some 13) 12 (LP4 0) (LP4 1) := regT hP4_0 rfl noselP4 (by kernel_rfl) (by kernel_rfl) lP4_0
def qP4_1 : Oper := { dst := some 14, op := Op.move (Operand.tmp 0), type := 30, pos := "l09_memory.go:38", after := #[], guard := none }
theorem hP4_1 : opsP4[1]? = some qP4_1 := by kernel_rfl
theorem lP4_1 : (LP4 1).setIfInBounds 1 true = LP4 2 := by kernel_rfl
theorem tP4_1 : RegT Try.prog opsP4 qP4_1 (some 14) 11 (LP4 1) (LP4 2) := regT hP4_1 rfl noselP4 (by kernel_rfl) (by kernel_rfl) lP4_1
def qP4_2 : Oper := { dst := some 15, op := Op.call { callee := Callee.builtin Builtin.len, args := #[Operand.tmp 14], argTypes := #[30] }, type := 3, pos := "l09_memory.go:38", after := #[{ on := 1, ground := Ground.data }], guard := none }
theorem hP4_2 : opsP4[2]? = some qP4_2 := by kernel_rfl
theorem lP4_2 : (LP4 2).setIfInBounds 2 true = LP4 3 := by kernel_rfl
theorem tP4_2 : RegT Try.prog opsP4 qP4_2 (some 15) 10 (LP4 2) (LP4 3) := regT hP4_2 rfl noselP4 (by kernel_rfl) (by kernel_rfl) lP4_2
def qP4_3 : Oper := { dst := some 16, op := Op.binOp BinOp.lss 3 (Operand.tmp 13) (Operand.tmp 15) 3, type := 4, pos := "l09_memory.go:38", after := #[{ on := 0, ground := Ground.data }, { on := 2, ground := Ground.data }], guard := none }
theorem hP4_3 : opsP4[3]? = some qP4_3 := by kernel_rfl
theorem lP4_3 : (LP4 3).setIfInBounds 3 true = LP4 4 := by kernel_rfl
theorem tP4_3 : RegT Try.prog opsP4 qP4_3 (some 16) 9 (LP4 3) (LP4 4) := regT hP4_3 rfl noselP4 (by kernel_rfl) (by kernel_rfl) lP4_3
def qP4_4 : Oper := { dst := some 17, op := Op.move (Operand.tmp 16), type := 4, pos := "l09_memory.go:38", after := #[{ on := 3, ground := Ground.data }], guard := none }
theorem hP4_4 : opsP4[4]? = some qP4_4 := by kernel_rfl
theorem lP4_4 : (LP4 4).setIfInBounds 4 true = LP4 5 := by kernel_rfl
theorem tP4_4 : RegT Try.prog opsP4 qP4_4 (some 17) 8 (LP4 4) (LP4 5) := regT hP4_4 rfl noselP4 (by kernel_rfl) (by kernel_rfl) lP4_4
def qP4_5 : Oper := { dst := some 18, op := Op.move (Operand.tmp 0), type := 30, pos := "l09_memory.go:38", after := #[{ on := 4, ground := Ground.guard }], guard := some (4, true) }
theorem hP4_5 : opsP4[5]? = some qP4_5 := by kernel_rfl
theorem lP4_5 : (LP4 5).setIfInBounds 5 true = LP4 6 := by kernel_rfl
theorem tP4_5 : RegT Try.prog opsP4 qP4_5 (some 18) 7 (LP4 5) (LP4 6) := regT hP4_5 rfl noselP4 (by kernel_rfl) (by kernel_rfl) lP4_5
def qP4_6 : Oper := { dst := some 19, op := Op.move (Operand.tmp 5), type := 3, pos := "l09_memory.go:38", after := #[{ on := 4, ground := Ground.guard }], guard := some (4, true) }
theorem hP4_6 : opsP4[6]? = some qP4_6 := by kernel_rfl
theorem lP4_6 : (LP4 6).setIfInBounds 6 true = LP4 7 := by kernel_rfl
theorem tP4_6 : RegT Try.prog opsP4 qP4_6 (some 19) 6 (LP4 6) (LP4 7) := regT hP4_6 rfl noselP4 (by kernel_rfl) (by kernel_rfl) lP4_6
def qP4_7 : Oper := { dst := some 20, op := Op.indexAddr 30 (Operand.tmp 18) (Operand.tmp 19), type := 0, pos := "l09_memory.go:38", after := #[{ on := 5, ground := Ground.data }, { on := 6, ground := Ground.data }, { on := 4, ground := Ground.guard }], guard := some (4, true) }
theorem hP4_7 : opsP4[7]? = some qP4_7 := by kernel_rfl
theorem lP4_7 : (LP4 7).setIfInBounds 7 true = LP4 8 := by kernel_rfl
theorem tP4_7 : RegT Try.prog opsP4 qP4_7 (some 20) 5 (LP4 7) (LP4 8) := regT hP4_7 rfl noselP4 (by kernel_rfl) (by kernel_rfl) lP4_7
def qP4_8 : Oper := { dst := some 21, op := Op.load 38 (Operand.tmp 20), type := 38, pos := "l09_memory.go:38", after := #[{ on := 7, ground := Ground.data }, { on := 4, ground := Ground.guard }], guard := some (4, true) }
theorem hP4_8 : opsP4[8]? = some qP4_8 := by kernel_rfl
theorem lP4_8 : (LP4 8).setIfInBounds 8 true = LP4 9 := by kernel_rfl
theorem tP4_8 : RegT Try.prog opsP4 qP4_8 (some 21) 4 (LP4 8) (LP4 9) := regT hP4_8 rfl noselP4 (by kernel_rfl) (by kernel_rfl) lP4_8
def qP4_9 : Oper := { dst := some 22, op := Op.load 38 (Operand.tmp 3), type := 38, pos := "l09_memory.go:38", after := #[{ on := 4, ground := Ground.guard }], guard := some (4, true) }
theorem hP4_9 : opsP4[9]? = some qP4_9 := by kernel_rfl
theorem lP4_9 : (LP4 9).setIfInBounds 9 true = LP4 10 := by kernel_rfl
theorem tP4_9 : RegT Try.prog opsP4 qP4_9 (some 22) 3 (LP4 9) (LP4 10) := regT hP4_9 rfl noselP4 (by kernel_rfl) (by kernel_rfl) lP4_9
def qP4_10 : Oper := { dst := some 23, op := Op.call { callee := Callee.value (Operand.func 108), args := #[Operand.tmp 21, Operand.tmp 22], argTypes := #[38, 38] }, type := 3, pos := "l09_memory.go:38", after := #[{ on := 8, ground := Ground.data }, { on := 9, ground := Ground.data }, { on := 4, ground := Ground.chain }, { on := 4, ground := Ground.guard }], guard := some (4, true) }
theorem hP4_10 : opsP4[10]? = some qP4_10 := by kernel_rfl
theorem lP4_10 : (LP4 10).setIfInBounds 10 true = LP4 11 := by kernel_rfl
theorem tP4_10 : RegT Try.prog opsP4 qP4_10 (some 23) 2 (LP4 10) (LP4 11) := regT hP4_10 rfl noselP4 (by kernel_rfl) (by kernel_rfl) lP4_10
def qP4_11 : Oper := { dst := some 24, op := Op.binOp BinOp.lss 3 (Operand.tmp 23) (Operand.const (Value.int IntKind.i64 0)) 3, type := 4, pos := "l09_memory.go:38", after := #[{ on := 10, ground := Ground.data }, { on := 4, ground := Ground.guard }], guard := some (4, true) }
theorem hP4_11 : opsP4[11]? = some qP4_11 := by kernel_rfl
theorem lP4_11 : (LP4 11).setIfInBounds 11 true = LP4 12 := by kernel_rfl
theorem tP4_11 : RegT Try.prog opsP4 qP4_11 (some 24) 1 (LP4 11) (LP4 12) := regT hP4_11 rfl noselP4 (by kernel_rfl) (by kernel_rfl) lP4_11
def qP4_12 : Oper := { dst := some 25, op := Op.pick (Operand.tmp 17) (Operand.tmp 24) (Operand.const (Value.bool false)), type := 4, pos := "l09_memory.go:38", after := #[{ on := 4, ground := Ground.data }, { on := 11, ground := Ground.data }], guard := none }
theorem hP4_12 : opsP4[12]? = some qP4_12 := by kernel_rfl
theorem lP4_12 : (LP4 12).setIfInBounds 12 true = LP4 13 := by kernel_rfl
theorem tP4_12 : RegT Try.prog opsP4 qP4_12 (some 25) 0 (LP4 12) (LP4 13) := regT hP4_12 rfl noselP4 (by kernel_rfl) (by kernel_rfl) lP4_12
end Go.Proofs.Ytbbagpnjjjohpaa.hexes

namespace Go.Proofs.Ytbbagpnjjjohpaa.hexes
open Go.RowKit

def findP6 (n : Nat) : Code → Option Code
  | .region id ops d => if id = n then some (.region id ops d) else none
  | .seq a b => match findP6 n a with
    | some c => some c
    | none => findP6 n b
  | .block _ c => findP6 n c
  | .scope c => findP6 n c
  | .loop c => findP6 n c
  | .cond _ a b => match findP6 n a with
    | some c => some c
    | none => findP6 n b
  | _ => none
def opsOfP6 : Option Code → Array Oper
  | some (.region _ ops _) => ops
  | _ => #[]
noncomputable def opsP6 : Array Oper := opsOfP6 (Try.f81.body.bind (findP6 6))
theorem noselP6 : Region.noSelect opsP6 = true := by kernel_rfl
def qP6_0 : Oper := { dst := some 28, op := Op.buildSlice 30 0 #[], type := 30, pos := "l09_memory.go:41", after := #[], guard := none }
theorem hP6_0 : opsP6[0]? = some qP6_0 := by kernel_rfl
def qP6_1 : Oper := { dst := some 29, op := Op.move (Operand.tmp 0), type := 30, pos := "l09_memory.go:41", after := #[], guard := none }
theorem hP6_1 : opsP6[1]? = some qP6_1 := by kernel_rfl
def qP6_2 : Oper := { dst := some 30, op := Op.move (Operand.tmp 5), type := 3, pos := "l09_memory.go:41", after := #[], guard := none }
theorem hP6_2 : opsP6[2]? = some qP6_2 := by kernel_rfl
def qP6_3 : Oper := { dst := some 31, op := Op.slice 30 (Operand.tmp 29) none (some (Operand.tmp 30)) none, type := 30, pos := "l09_memory.go:41", after := #[{ on := 1, ground := Ground.data }, { on := 2, ground := Ground.data }], guard := none }
theorem hP6_3 : opsP6[3]? = some qP6_3 := by kernel_rfl
def qP6_4 : Oper := { dst := some 32, op := Op.call { callee := Callee.builtin Builtin.append, args := #[Operand.tmp 28, Operand.tmp 31], argTypes := #[30, 30] }, type := 30, pos := "l09_memory.go:41", after := #[{ on := 0, ground := Ground.data }, { on := 3, ground := Ground.data }], guard := none }
theorem hP6_4 : opsP6[4]? = some qP6_4 := by kernel_rfl
def qP6_5 : Oper := { dst := some 33, op := Op.load 38 (Operand.tmp 3), type := 38, pos := "l09_memory.go:41", after := #[], guard := none }
theorem hP6_5 : opsP6[5]? = some qP6_5 := by kernel_rfl
def qP6_6 : Oper := { dst := some 34, op := Op.buildSlice 30 1 #[(0, Operand.tmp 33)], type := 30, pos := "l09_memory.go:41", after := #[{ on := 5, ground := Ground.data }], guard := none }
theorem hP6_6 : opsP6[6]? = some qP6_6 := by kernel_rfl
def qP6_7 : Oper := { dst := some 35, op := Op.call { callee := Callee.builtin Builtin.append, args := #[Operand.tmp 32, Operand.tmp 34], argTypes := #[30, 30] }, type := 30, pos := "l09_memory.go:41", after := #[{ on := 4, ground := Ground.data }, { on := 6, ground := Ground.data }, { on := 4, ground := Ground.chain }], guard := none }
theorem hP6_7 : opsP6[7]? = some qP6_7 := by kernel_rfl
def qP6_8 : Oper := { dst := some 6, op := Op.assign (Operand.tmp 35), type := 30, pos := "l09_memory.go:41", after := #[{ on := 7, ground := Ground.data }, { on := 7, ground := Ground.chain }, { on := 0, ground := Ground.phase }, { on := 1, ground := Ground.phase }, { on := 2, ground := Ground.phase }, { on := 3, ground := Ground.phase }, { on := 4, ground := Ground.phase }, { on := 5, ground := Ground.phase }, { on := 6, ground := Ground.phase }, { on := 7, ground := Ground.phase }], guard := none }
theorem hP6_8 : opsP6[8]? = some qP6_8 := by kernel_rfl
theorem tP6_e_1 : RegT Try.prog opsP6 qP6_1 (some 29) 8 (#[false, false, false, false, false, false, false, false, false] : Array Bool) (#[false, true, false, false, false, false, false, false, false] : Array Bool) := regT hP6_1 rfl noselP6 (by kernel_rfl) (by kernel_rfl) (by kernel_rfl)
theorem tP6_1_2 : RegT Try.prog opsP6 qP6_2 (some 30) 7 (#[false, true, false, false, false, false, false, false, false] : Array Bool) (#[false, true, true, false, false, false, false, false, false] : Array Bool) := regT hP6_2 rfl noselP6 (by kernel_rfl) (by kernel_rfl) (by kernel_rfl)
theorem tP6_12_3 : RegT Try.prog opsP6 qP6_3 (some 31) 6 (#[false, true, true, false, false, false, false, false, false] : Array Bool) (#[false, true, true, true, false, false, false, false, false] : Array Bool) := regT hP6_3 rfl noselP6 (by kernel_rfl) (by kernel_rfl) (by kernel_rfl)
theorem tP6_123_5 : RegT Try.prog opsP6 qP6_5 (some 33) 5 (#[false, true, true, true, false, false, false, false, false] : Array Bool) (#[false, true, true, true, false, true, false, false, false] : Array Bool) := regT hP6_5 rfl noselP6 (by kernel_rfl) (by kernel_rfl) (by kernel_rfl)
theorem tP6_01234567_8 : RegT Try.prog opsP6 qP6_8 (some 6) 0 (#[true, true, true, true, true, true, true, true, false] : Array Bool) (#[true, true, true, true, true, true, true, true, true] : Array Bool) := regT hP6_8 rfl noselP6 (by kernel_rfl) (by kernel_rfl) (by kernel_rfl)
theorem cP6_0123456_7 : RegC Try.prog opsP6 qP6_7 (some 35) 1 (#[true, true, true, true, true, true, true, false, false] : Array Bool) (#[true, true, true, true, true, true, true, true, false] : Array Bool) := regC hP6_7 rfl (by kernel_rfl) (by kernel_rfl)
theorem cP6_012345_6 : RegC Try.prog opsP6 qP6_6 (some 34) 2 (#[true, true, true, true, true, true, false, false, false] : Array Bool) (#[true, true, true, true, true, true, true, false, false] : Array Bool) := regC hP6_6 rfl (by kernel_rfl) (by kernel_rfl)
theorem cP6_012356_4 : RegC Try.prog opsP6 qP6_4 (some 32) 2 (#[true, true, true, true, false, true, true, false, false] : Array Bool) (#[true, true, true, true, true, true, true, false, false] : Array Bool) := regC hP6_4 rfl (by kernel_rfl) (by kernel_rfl)
set_option maxRecDepth 100000 in
theorem cP6_01235_46 {Q : Exit → Act → World → Prop} {S : World → Prop} {a : Act} {w : World}
    (h4 : ∀ K' : Act → World → Prop, Shut (∀ a w, S w → (S w → wpAnyH Try.prog .any opsP6 Q S 3 (#[true, true, true, true, true, true, false, false, false] : Array Bool) a w) → K' a w) → if Region.wanted qP6_4 (yielded opsP6 a.tmps) = true then Oper.wp Try.prog qP6_4 a w K' Q else K' (a.put (some 32) undef) w)
    (h6 : ∀ K' : Act → World → Prop, Shut (∀ a w, S w → (S w → wpAnyH Try.prog .any opsP6 Q S 3 (#[true, true, true, true, false, true, true, false, false] : Array Bool) a w) → K' a w) → if Region.wanted qP6_6 (yielded opsP6 a.tmps) = true then Oper.wp Try.prog qP6_6 a w K' Q else K' (a.put (some 34) undef) w) :
    wpAnyH Try.prog .any opsP6 Q S 4 (#[true, true, true, true, false, true, false, false, false] : Array Bool) a w :=
  wpAnyH_ready (rs := [4, 6]) (by kernel_rfl) (by simp) (AllReadyH.cons hP6_4 (fun K' hK => h4 K' ((show (#[true, true, true, true, false, true, false, false, false] : Array Bool).setIfInBounds 4 true = (#[true, true, true, true, true, true, false, false, false] : Array Bool) by kernel_rfl) ▸ hK)) (AllReadyH.cons hP6_6 (fun K' hK => h6 K' ((show (#[true, true, true, true, false, true, false, false, false] : Array Bool).setIfInBounds 6 true = (#[true, true, true, true, false, true, true, false, false] : Array Bool) by kernel_rfl) ▸ hK)) AllReadyH.nil))
theorem cP6_12356_0 : RegC Try.prog opsP6 qP6_0 (some 28) 3 (#[false, true, true, true, false, true, true, false, false] : Array Bool) (#[true, true, true, true, false, true, true, false, false] : Array Bool) := regC hP6_0 rfl (by kernel_rfl) (by kernel_rfl)
set_option maxRecDepth 100000 in
theorem cP6_1235_06 {Q : Exit → Act → World → Prop} {S : World → Prop} {a : Act} {w : World}
    (h0 : ∀ K' : Act → World → Prop, Shut (∀ a w, S w → (S w → wpAnyH Try.prog .any opsP6 Q S 4 (#[true, true, true, true, false, true, false, false, false] : Array Bool) a w) → K' a w) → if Region.wanted qP6_0 (yielded opsP6 a.tmps) = true then Oper.wp Try.prog qP6_0 a w K' Q else K' (a.put (some 28) undef) w)
    (h6 : ∀ K' : Act → World → Prop, Shut (∀ a w, S w → (S w → wpAnyH Try.prog .any opsP6 Q S 4 (#[false, true, true, true, false, true, true, false, false] : Array Bool) a w) → K' a w) → if Region.wanted qP6_6 (yielded opsP6 a.tmps) = true then Oper.wp Try.prog qP6_6 a w K' Q else K' (a.put (some 34) undef) w) :
    wpAnyH Try.prog .any opsP6 Q S 5 (#[false, true, true, true, false, true, false, false, false] : Array Bool) a w :=
  wpAnyH_ready (rs := [0, 6]) (by kernel_rfl) (by simp) (AllReadyH.cons hP6_0 (fun K' hK => h0 K' ((show (#[false, true, true, true, false, true, false, false, false] : Array Bool).setIfInBounds 0 true = (#[true, true, true, true, false, true, false, false, false] : Array Bool) by kernel_rfl) ▸ hK)) (AllReadyH.cons hP6_6 (fun K' hK => h6 K' ((show (#[false, true, true, true, false, true, false, false, false] : Array Bool).setIfInBounds 6 true = (#[false, true, true, true, false, true, true, false, false] : Array Bool) by kernel_rfl) ▸ hK)) AllReadyH.nil))
end Go.Proofs.Ytbbagpnjjjohpaa.hexes

