/-
  A statement of impl.improvement: its operations, and a theorem a step.
-/
import Derived.Test.YtbbagpnjjjohpaaJ12

namespace Go.Proofs.Ytbbagpnjjjohpaa.hexes
open Go.RowKit

def findV1 (n : Nat) : Code → Option Code
  | .region id ops d => if id = n then some (.region id ops d) else none
  | .seq a b => match findV1 n a with
    | some c => some c
    | none => findV1 n b
  | .block _ c => findV1 n c
  | .scope c => findV1 n c
  | .loop c => findV1 n c
  | .cond _ a b => match findV1 n a with
    | some c => some c
    | none => findV1 n b
  | _ => none
def opsOfV1 : Option Code → Array Oper
  | some (.region _ ops _) => ops
  | _ => #[]
noncomputable def opsV1 : Array Oper := opsOfV1 (Try.f48.body.bind (findV1 1))
theorem noselV1 : Region.noSelect opsV1 = true := by kernel_rfl
def qV1_0 : Oper := { dst := some 14, op := Op.load 26 (Operand.tmp 3), type := 26, pos := "l11_fixed.go:12", after := #[], guard := none }
theorem hV1_0 : opsV1[0]? = some qV1_0 := by kernel_rfl
def qV1_1 : Oper := { dst := some 15, op := Op.load 38 (Operand.tmp 5), type := 38, pos := "l11_fixed.go:12", after := #[], guard := none }
theorem hV1_1 : opsV1[1]? = some qV1_1 := by kernel_rfl
def qV1_2 : Oper := { dst := some 16, op := Op.call { callee := Callee.value (Operand.func 77), args := #[Operand.tmp 15], argTypes := #[38] }, type := 51, pos := "l11_fixed.go:12", after := #[{ on := 1, ground := Ground.data }], guard := none }
theorem hV1_2 : opsV1[2]? = some qV1_2 := by kernel_rfl
def qV1_3 : Oper := { dst := some 17, op := Op.call { callee := Callee.value (Operand.func 76), args := #[Operand.tmp 14, Operand.tmp 16], argTypes := #[26, 51] }, type := 87, pos := "l11_fixed.go:12", after := #[{ on := 0, ground := Ground.data }, { on := 2, ground := Ground.data }, { on := 2, ground := Ground.chain }], guard := none }
theorem hV1_3 : opsV1[3]? = some qV1_3 := by kernel_rfl
def qV1_4 : Oper := { dst := some 13, op := Op.move (Operand.tmp 17), type := 87, pos := "l11_fixed.go:12", after := #[{ on := 3, ground := Ground.data }], guard := none }
theorem hV1_4 : opsV1[4]? = some qV1_4 := by kernel_rfl
def qV1_5 : Oper := { dst := some 18, op := Op.extract (Operand.tmp 13) 0, type := 46, pos := "l11_fixed.go:12", after := #[{ on := 4, ground := Ground.data }], guard := none }
theorem hV1_5 : opsV1[5]? = some qV1_5 := by kernel_rfl
def qV1_6 : Oper := { dst := some 19, op := Op.extract (Operand.tmp 13) 1, type := 4, pos := "l11_fixed.go:12", after := #[{ on := 4, ground := Ground.data }, { on := 8, ground := Ground.gcOnly Departure.lateStores }], guard := none }
theorem hV1_6 : opsV1[6]? = some qV1_6 := by kernel_rfl
def qV1_7 : Oper := { dst := some 9, op := Op.alloc 46, type := 0, pos := "l11_fixed.go:12", after := #[], guard := none }
theorem hV1_7 : opsV1[7]? = some qV1_7 := by kernel_rfl
def qV1_8 : Oper := { dst := none, op := Op.store 46 (Operand.tmp 9) (Operand.tmp 18), type := 0, pos := "l11_fixed.go:12", after := #[{ on := 7, ground := Ground.data }, { on := 5, ground := Ground.data }, { on := 3, ground := Ground.chain }, { on := 0, ground := Ground.phase }, { on := 1, ground := Ground.phase }, { on := 2, ground := Ground.phase }, { on := 3, ground := Ground.phase }, { on := 4, ground := Ground.phase }, { on := 5, ground := Ground.phase }, { on := 6, ground := Ground.textOnly Departure.lateStores }, { on := 7, ground := Ground.phase }], guard := none }
theorem hV1_8 : opsV1[8]? = some qV1_8 := by kernel_rfl
def qV1_9 : Oper := { dst := some 10, op := Op.assign (Operand.tmp 19), type := 4, pos := "l11_fixed.go:12", after := #[{ on := 6, ground := Ground.data }, { on := 8, ground := Ground.chain }, { on := 0, ground := Ground.phase }, { on := 1, ground := Ground.phase }, { on := 2, ground := Ground.phase }, { on := 3, ground := Ground.phase }, { on := 4, ground := Ground.phase }, { on := 5, ground := Ground.phase }, { on := 6, ground := Ground.phase }, { on := 7, ground := Ground.phase }, { on := 8, ground := Ground.phase }], guard := none }
theorem hV1_9 : opsV1[9]? = some qV1_9 := by kernel_rfl
theorem tV1_e_0 : RegT Try.prog opsV1 qV1_0 (some 14) 9 (#[false, false, false, false, false, false, false, false, false, false] : Array Bool) (#[true, false, false, false, false, false, false, false, false, false] : Array Bool) := regT hV1_0 rfl noselV1 (by kernel_rfl) (by kernel_rfl) (by kernel_rfl)
theorem tV1_0_1 : RegT Try.prog opsV1 qV1_1 (some 15) 8 (#[true, false, false, false, false, false, false, false, false, false] : Array Bool) (#[true, true, false, false, false, false, false, false, false, false] : Array Bool) := regT hV1_1 rfl noselV1 (by kernel_rfl) (by kernel_rfl) (by kernel_rfl)
theorem tV1_0123_4 : RegT Try.prog opsV1 qV1_4 (some 13) 5 (#[true, true, true, true, false, false, false, false, false, false] : Array Bool) (#[true, true, true, true, true, false, false, false, false, false] : Array Bool) := regT hV1_4 rfl noselV1 (by kernel_rfl) (by kernel_rfl) (by kernel_rfl)
theorem tV1_01234_5 : RegT Try.prog opsV1 qV1_5 (some 18) 4 (#[true, true, true, true, true, false, false, false, false, false] : Array Bool) (#[true, true, true, true, true, true, false, false, false, false] : Array Bool) := regT hV1_5 rfl noselV1 (by kernel_rfl) (by kernel_rfl) (by kernel_rfl)
theorem tV1_012345_6 : RegT Try.prog opsV1 qV1_6 (some 19) 3 (#[true, true, true, true, true, true, false, false, false, false] : Array Bool) (#[true, true, true, true, true, true, true, false, false, false] : Array Bool) := regT hV1_6 rfl noselV1 (by kernel_rfl) (by kernel_rfl) (by kernel_rfl)
theorem tV1_012345678_9 : RegT Try.prog opsV1 qV1_9 (some 10) 0 (#[true, true, true, true, true, true, true, true, true, false] : Array Bool) (#[true, true, true, true, true, true, true, true, true, true] : Array Bool) := regT hV1_9 rfl noselV1 (by kernel_rfl) (by kernel_rfl) (by kernel_rfl)
theorem cV1_01234567_8 : RegC Try.prog opsV1 qV1_8 (none) 1 (#[true, true, true, true, true, true, true, true, false, false] : Array Bool) (#[true, true, true, true, true, true, true, true, true, false] : Array Bool) := regC hV1_8 rfl (by kernel_rfl) (by kernel_rfl)
theorem cV1_0123456_7 : RegC Try.prog opsV1 qV1_7 (some 9) 2 (#[true, true, true, true, true, true, true, false, false, false] : Array Bool) (#[true, true, true, true, true, true, true, true, false, false] : Array Bool) := regC hV1_7 rfl (by kernel_rfl) (by kernel_rfl)
theorem tV1_01237_4 : RegT Try.prog opsV1 qV1_4 (some 13) 4 (#[true, true, true, true, false, false, false, true, false, false] : Array Bool) (#[true, true, true, true, true, false, false, true, false, false] : Array Bool) := regT hV1_4 rfl noselV1 (by kernel_rfl) (by kernel_rfl) (by kernel_rfl)
theorem tV1_012347_5 : RegT Try.prog opsV1 qV1_5 (some 18) 3 (#[true, true, true, true, true, false, false, true, false, false] : Array Bool) (#[true, true, true, true, true, true, false, true, false, false] : Array Bool) := regT hV1_5 rfl noselV1 (by kernel_rfl) (by kernel_rfl) (by kernel_rfl)
theorem tV1_0123457_6 : RegT Try.prog opsV1 qV1_6 (some 19) 2 (#[true, true, true, true, true, true, false, true, false, false] : Array Bool) (#[true, true, true, true, true, true, true, true, false, false] : Array Bool) := regT hV1_6 rfl noselV1 (by kernel_rfl) (by kernel_rfl) (by kernel_rfl)
theorem cV1_0127_3 : RegC Try.prog opsV1 qV1_3 (some 17) 5 (#[true, true, true, false, false, false, false, true, false, false] : Array Bool) (#[true, true, true, true, false, false, false, true, false, false] : Array Bool) := regC hV1_3 rfl (by kernel_rfl) (by kernel_rfl)
set_option maxRecDepth 100000 in
theorem cV1_012_37 {Q : Exit → Act → World → Prop} {S : World → Prop} {a : Act} {w : World}
    (h3 : ∀ K' : Act → World → Prop, Shut (∀ a w, S w → (S w → wpAnyH Try.prog .any opsV1 Q S 6 (#[true, true, true, true, false, false, false, false, false, false] : Array Bool) a w) → K' a w) → if Region.wanted qV1_3 (yielded opsV1 a.tmps) = true then Oper.wp Try.prog qV1_3 a w K' Q else K' (a.put (some 17) undef) w)
    (h7 : ∀ K' : Act → World → Prop, Shut (∀ a w, S w → (S w → wpAnyH Try.prog .any opsV1 Q S 6 (#[true, true, true, false, false, false, false, true, false, false] : Array Bool) a w) → K' a w) → if Region.wanted qV1_7 (yielded opsV1 a.tmps) = true then Oper.wp Try.prog qV1_7 a w K' Q else K' (a.put (some 9) undef) w) :
    wpAnyH Try.prog .any opsV1 Q S 7 (#[true, true, true, false, false, false, false, false, false, false] : Array Bool) a w :=
  wpAnyH_ready (rs := [3, 7]) (by kernel_rfl) (by simp) (AllReadyH.cons hV1_3 (fun K' hK => h3 K' ((show (#[true, true, true, false, false, false, false, false, false, false] : Array Bool).setIfInBounds 3 true = (#[true, true, true, true, false, false, false, false, false, false] : Array Bool) by kernel_rfl) ▸ hK)) (AllReadyH.cons hV1_7 (fun K' hK => h7 K' ((show (#[true, true, true, false, false, false, false, false, false, false] : Array Bool).setIfInBounds 7 true = (#[true, true, true, false, false, false, false, true, false, false] : Array Bool) by kernel_rfl) ▸ hK)) AllReadyH.nil))
theorem cV1_017_2 : RegC Try.prog opsV1 qV1_2 (some 16) 6 (#[true, true, false, false, false, false, false, true, false, false] : Array Bool) (#[true, true, true, false, false, false, false, true, false, false] : Array Bool) := regC hV1_2 rfl (by kernel_rfl) (by kernel_rfl)
set_option maxRecDepth 100000 in
theorem cV1_01_27 {Q : Exit → Act → World → Prop} {S : World → Prop} {a : Act} {w : World}
    (h2 : ∀ K' : Act → World → Prop, Shut (∀ a w, S w → (S w → wpAnyH Try.prog .any opsV1 Q S 7 (#[true, true, true, false, false, false, false, false, false, false] : Array Bool) a w) → K' a w) → if Region.wanted qV1_2 (yielded opsV1 a.tmps) = true then Oper.wp Try.prog qV1_2 a w K' Q else K' (a.put (some 16) undef) w)
    (h7 : ∀ K' : Act → World → Prop, Shut (∀ a w, S w → (S w → wpAnyH Try.prog .any opsV1 Q S 7 (#[true, true, false, false, false, false, false, true, false, false] : Array Bool) a w) → K' a w) → if Region.wanted qV1_7 (yielded opsV1 a.tmps) = true then Oper.wp Try.prog qV1_7 a w K' Q else K' (a.put (some 9) undef) w) :
    wpAnyH Try.prog .any opsV1 Q S 8 (#[true, true, false, false, false, false, false, false, false, false] : Array Bool) a w :=
  wpAnyH_ready (rs := [2, 7]) (by kernel_rfl) (by simp) (AllReadyH.cons hV1_2 (fun K' hK => h2 K' ((show (#[true, true, false, false, false, false, false, false, false, false] : Array Bool).setIfInBounds 2 true = (#[true, true, true, false, false, false, false, false, false, false] : Array Bool) by kernel_rfl) ▸ hK)) (AllReadyH.cons hV1_7 (fun K' hK => h7 K' ((show (#[true, true, false, false, false, false, false, false, false, false] : Array Bool).setIfInBounds 7 true = (#[true, true, false, false, false, false, false, true, false, false] : Array Bool) by kernel_rfl) ▸ hK)) AllReadyH.nil))
end Go.Proofs.Ytbbagpnjjjohpaa.hexes

