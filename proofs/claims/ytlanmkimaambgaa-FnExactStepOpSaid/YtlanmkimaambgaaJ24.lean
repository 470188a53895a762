/-
  A statement of spec.PutCell: its operations, and a theorem a step.
-/
import Derived.Test.YtlanmkimaambgaaProg
import Derived.WalkKit
import Derived.Deep.RegionHeld3

namespace Go.Proofs.Ytlanmkimaambgaa.hexes
open Go.RowKit

def findP6 (n : Nat) : Code → Option Code
  | .region id ops d => if id = n then some (.region id ops d) else none
  | .seq a b => match findP6 n a with
    | some c => some c
    | none => findP6 n b
  | .block _ c => findP6 n c
  | .scope c => findP6 n c
  | .loop c => findP6 n c
  | .cond _ a b => match findP6 n a with
    | some c => some c
    | none => findP6 n b
  | _ => none
def opsOfP6 : Option Code → Array Oper
  | some (.region _ ops _) => ops
  | _ => #[]
noncomputable def opsP6 : Array Oper := opsOfP6 (Try.f77.body.bind (findP6 6))
theorem noselP6 : Region.noSelect opsP6 = true := by kernel_rfl
def qP6_0 : Oper := { dst := some 28, op := Op.buildSlice 27 0 #[], type := 27, pos := "l09_memory.go:41", after := #[], guard := none }
theorem hP6_0 : opsP6[0]? = some qP6_0 := by kernel_rfl
def qP6_1 : Oper := { dst := some 29, op := Op.move (Operand.tmp 0), type := 27, pos := "l09_memory.go:41", after := #[], guard := none }
theorem hP6_1 : opsP6[1]? = some qP6_1 := by kernel_rfl
def qP6_2 : Oper := { dst := some 30, op := Op.move (Operand.tmp 5), type := 3, pos := "l09_memory.go:41", after := #[], guard := none }
theorem hP6_2 : opsP6[2]? = some qP6_2 := by kernel_rfl
def qP6_3 : Oper := { dst := some 31, op := Op.slice 27 (Operand.tmp 29) none (some (Operand.tmp 30)) none, type := 27, pos := "l09_memory.go:41", after := #[{ on := 1, ground := Ground.data }, { on := 2, ground := Ground.data }], guard := none }
theorem hP6_3 : opsP6[3]? = some qP6_3 := by kernel_rfl
def qP6_4 : Oper := { dst := some 32, op := Op.call { callee := Callee.builtin Builtin.append, args := #[Operand.tmp 28, Operand.tmp 31], argTypes := #[27, 27] }, type := 27, pos := "l09_memory.go:41", after := #[{ on := 0, ground := Ground.data }, { on := 3, ground := Ground.data }], guard := none }
theorem hP6_4 : opsP6[4]? = some qP6_4 := by kernel_rfl
def qP6_5 : Oper := { dst := some 33, op := Op.load 75 (Operand.tmp 3), type := 75, pos := "l09_memory.go:41", after := #[], guard := none }
theorem hP6_5 : opsP6[5]? = some qP6_5 := by kernel_rfl
def qP6_6 : Oper := { dst := some 34, op := Op.buildSlice 27 1 #[(0, Operand.tmp 33)], type := 27, pos := "l09_memory.go:41", after := #[{ on := 5, ground := Ground.data }], guard := none }
theorem hP6_6 : opsP6[6]? = some qP6_6 := by kernel_rfl
def qP6_7 : Oper := { dst := some 35, op := Op.call { callee := Callee.builtin Builtin.append, args := #[Operand.tmp 32, Operand.tmp 34], argTypes := #[27, 27] }, type := 27, pos := "l09_memory.go:41", after := #[{ on := 4, ground := Ground.data }, { on := 6, ground := Ground.data }, { on := 4, ground := Ground.chain }], guard := none }
theorem hP6_7 : opsP6[7]? = some qP6_7 := by kernel_rfl
def qP6_8 : Oper := { dst := some 6, op := Op.assign (Operand.tmp 35), type := 27, pos := "l09_memory.go:41", after := #[{ on := 7, ground := Ground.data }, { on := 7, ground := Ground.chain }, { on := 0, ground := Ground.phase }, { on := 1, ground := Ground.phase }, { on := 2, ground := Ground.phase }, { on := 3, ground := Ground.phase }, { on := 4, ground := Ground.phase }, { on := 5, ground := Ground.phase }, { on := 6, ground := Ground.phase }, { on := 7, ground := Ground.phase }], guard := none }
theorem hP6_8 : opsP6[8]? = some qP6_8 := by kernel_rfl
theorem tP6_e_1 {Q : Exit → Act → World → Prop} {S : World → Prop} {a : Act} {w : World} (v : Value) (hQ : ∀ c a w, Q (.panic c) (a.put (some 29) v) w → Q (.panic c) a w) (hy : YieldsIf Try.prog opsP6 S qP6_1 v a) (hS : S w)
    (h : wpAnyH Try.prog .any opsP6 Q S 8 (#[false, true, false, false, false, false, false, false, false] : Array Bool) (a.put (some 29) v) w) : wpAnyH Try.prog .any opsP6 Q S 9 (#[false, false, false, false, false, false, false, false, false] : Array Bool) a w :=
  wpAnyH_take (i := 1) hP6_1 noselP6 (by kernel_rfl) (by kernel_rfl) hQ hy hS ((show (#[false, false, false, false, false, false, false, false, false] : Array Bool).setIfInBounds 1 true = (#[false, true, false, false, false, false, false, false, false] : Array Bool) by kernel_rfl).symm ▸ h)
theorem tP6_1_2 {Q : Exit → Act → World → Prop} {S : World → Prop} {a : Act} {w : World} (v : Value) (hQ : ∀ c a w, Q (.panic c) (a.put (some 30) v) w → Q (.panic c) a w) (hy : YieldsIf Try.prog opsP6 S qP6_2 v a) (hS : S w)
    (h : wpAnyH Try.prog .any opsP6 Q S 7 (#[false, true, true, false, false, false, false, false, false] : Array Bool) (a.put (some 30) v) w) : wpAnyH Try.prog .any opsP6 Q S 8 (#[false, true, false, false, false, false, false, false, false] : Array Bool) a w :=
  wpAnyH_take (i := 2) hP6_2 noselP6 (by kernel_rfl) (by kernel_rfl) hQ hy hS ((show (#[false, true, false, false, false, false, false, false, false] : Array Bool).setIfInBounds 2 true = (#[false, true, true, false, false, false, false, false, false] : Array Bool) by kernel_rfl).symm ▸ h)
theorem tP6_12_3 {Q : Exit → Act → World → Prop} {S : World → Prop} {a : Act} {w : World} (v : Value) (hQ : ∀ c a w, Q (.panic c) (a.put (some 31) v) w → Q (.panic c) a w) (hy : YieldsIf Try.prog opsP6 S qP6_3 v a) (hS : S w)
    (h : wpAnyH Try.prog .any opsP6 Q S 6 (#[false, true, true, true, false, false, false, false, false] : Array Bool) (a.put (some 31) v) w) : wpAnyH Try.prog .any opsP6 Q S 7 (#[false, true, true, false, false, false, false, false, false] : Array Bool) a w :=
  wpAnyH_take (i := 3) hP6_3 noselP6 (by kernel_rfl) (by kernel_rfl) hQ hy hS ((show (#[false, true, true, false, false, false, false, false, false] : Array Bool).setIfInBounds 3 true = (#[false, true, true, true, false, false, false, false, false] : Array Bool) by kernel_rfl).symm ▸ h)
theorem tP6_123_5 {Q : Exit → Act → World → Prop} {S : World → Prop} {a : Act} {w : World} (v : Value) (hQ : ∀ c a w, Q (.panic c) (a.put (some 33) v) w → Q (.panic c) a w) (hy : YieldsIf Try.prog opsP6 S qP6_5 v a) (hS : S w)
    (h : wpAnyH Try.prog .any opsP6 Q S 5 (#[false, true, true, true, false, true, false, false, false] : Array Bool) (a.put (some 33) v) w) : wpAnyH Try.prog .any opsP6 Q S 6 (#[false, true, true, true, false, false, false, false, false] : Array Bool) a w :=
  wpAnyH_take (i := 5) hP6_5 noselP6 (by kernel_rfl) (by kernel_rfl) hQ hy hS ((show (#[false, true, true, true, false, false, false, false, false] : Array Bool).setIfInBounds 5 true = (#[false, true, true, true, false, true, false, false, false] : Array Bool) by kernel_rfl).symm ▸ h)
theorem tP6_01234567_8 {Q : Exit → Act → World → Prop} {S : World → Prop} {a : Act} {w : World} (v : Value) (hQ : ∀ c a w, Q (.panic c) (a.put (some 6) v) w → Q (.panic c) a w) (hy : YieldsIf Try.prog opsP6 S qP6_8 v a) (hS : S w)
    (h : wpAnyH Try.prog .any opsP6 Q S 0 (#[true, true, true, true, true, true, true, true, true] : Array Bool) (a.put (some 6) v) w) : wpAnyH Try.prog .any opsP6 Q S 1 (#[true, true, true, true, true, true, true, true, false] : Array Bool) a w :=
  wpAnyH_take (i := 8) hP6_8 noselP6 (by kernel_rfl) (by kernel_rfl) hQ hy hS ((show (#[true, true, true, true, true, true, true, true, false] : Array Bool).setIfInBounds 8 true = (#[true, true, true, true, true, true, true, true, true] : Array Bool) by kernel_rfl).symm ▸ h)
set_option maxRecDepth 100000 in
theorem cP6_0123456_7 {Q : Exit → Act → World → Prop} {S : World → Prop} {a : Act} {w : World}
    (h7 : ∀ K' : Act → World → Prop, Shut (∀ a w, S w → (S w → wpAnyH Try.prog .any opsP6 Q S 1 (#[true, true, true, true, true, true, true, true, false] : Array Bool) a w) → K' a w) → if Region.wanted qP6_7 (yielded opsP6 a.tmps) = true then Oper.wp Try.prog qP6_7 a w K' Q else K' (a.put (some 35) undef) w) :
    wpAnyH Try.prog .any opsP6 Q S 2 (#[true, true, true, true, true, true, true, false, false] : Array Bool) a w :=
  wpAnyH_ready (rs := [7]) (by kernel_rfl) (by simp) (AllReadyH.cons hP6_7 (fun K' hK => h7 K' ((show (#[true, true, true, true, true, true, true, false, false] : Array Bool).setIfInBounds 7 true = (#[true, true, true, true, true, true, true, true, false] : Array Bool) by kernel_rfl) ▸ hK)) AllReadyH.nil)
set_option maxRecDepth 100000 in
theorem cP6_012345_6 {Q : Exit → Act → World → Prop} {S : World → Prop} {a : Act} {w : World}
    (h6 : ∀ K' : Act → World → Prop, Shut (∀ a w, S w → (S w → wpAnyH Try.prog .any opsP6 Q S 2 (#[true, true, true, true, true, true, true, false, false] : Array Bool) a w) → K' a w) → if Region.wanted qP6_6 (yielded opsP6 a.tmps) = true then Oper.wp Try.prog qP6_6 a w K' Q else K' (a.put (some 34) undef) w) :
    wpAnyH Try.prog .any opsP6 Q S 3 (#[true, true, true, true, true, true, false, false, false] : Array Bool) a w :=
  wpAnyH_ready (rs := [6]) (by kernel_rfl) (by simp) (AllReadyH.cons hP6_6 (fun K' hK => h6 K' ((show (#[true, true, true, true, true, true, false, false, false] : Array Bool).setIfInBounds 6 true = (#[true, true, true, true, true, true, true, false, false] : Array Bool) by kernel_rfl) ▸ hK)) AllReadyH.nil)
set_option maxRecDepth 100000 in
theorem cP6_012356_4 {Q : Exit → Act → World → Prop} {S : World → Prop} {a : Act} {w : World}
    (h4 : ∀ K' : Act → World → Prop, Shut (∀ a w, S w → (S w → wpAnyH Try.prog .any opsP6 Q S 2 (#[true, true, true, true, true, true, true, false, false] : Array Bool) a w) → K' a w) → if Region.wanted qP6_4 (yielded opsP6 a.tmps) = true then Oper.wp Try.prog qP6_4 a w K' Q else K' (a.put (some 32) undef) w) :
    wpAnyH Try.prog .any opsP6 Q S 3 (#[true, true, true, true, false, true, true, false, false] : Array Bool) a w :=
  wpAnyH_ready (rs := [4]) (by kernel_rfl) (by simp) (AllReadyH.cons hP6_4 (fun K' hK => h4 K' ((show (#[true, true, true, true, false, true, true, false, false] : Array Bool).setIfInBounds 4 true = (#[true, true, true, true, true, true, true, false, false] : Array Bool) by kernel_rfl) ▸ hK)) AllReadyH.nil)
set_option maxRecDepth 100000 in
theorem cP6_01235_46 {Q : Exit → Act → World → Prop} {S : World → Prop} {a : Act} {w : World}
    (h4 : ∀ K' : Act → World → Prop, Shut (∀ a w, S w → (S w → wpAnyH Try.prog .any opsP6 Q S 3 (#[true, true, true, true, true, true, false, false, false] : Array Bool) a w) → K' a w) → if Region.wanted qP6_4 (yielded opsP6 a.tmps) = true then Oper.wp Try.prog qP6_4 a w K' Q else K' (a.put (some 32) undef) w)
    (h6 : ∀ K' : Act → World → Prop, Shut (∀ a w, S w → (S w → wpAnyH Try.prog .any opsP6 Q S 3 (#[true, true, true, true, false, true, true, false, false] : Array Bool) a w) → K' a w) → if Region.wanted qP6_6 (yielded opsP6 a.tmps) = true then Oper.wp Try.prog qP6_6 a w K' Q else K' (a.put (some 34) undef) w) :
    wpAnyH Try.prog .any opsP6 Q S 4 (#[true, true, true, true, false, true, false, false, false] : Array Bool) a w :=
  wpAnyH_ready (rs := [4, 6]) (by kernel_rfl) (by simp) (AllReadyH.cons hP6_4 (fun K' hK => h4 K' ((show (#[true, true, true, true, false, true, false, false, false] : Array Bool).setIfInBounds 4 true = (#[true, true, true, true, true, true, false, false, false] : Array Bool) by kernel_rfl) ▸ hK)) (AllReadyH.cons hP6_6 (fun K' hK => h6 K' ((show (#[true, true, true, true, false, true, false, false, false] : Array Bool).setIfInBounds 6 true = (#[true, true, true, true, false, true, true, false, false] : Array Bool) by kernel_rfl) ▸ hK)) AllReadyH.nil))
set_option maxRecDepth 100000 in
theorem cP6_12356_0 {Q : Exit → Act → World → Prop} {S : World → Prop} {a : Act} {w : World}
    (h0 : ∀ K' : Act → World → Prop, Shut (∀ a w, S w → (S w → wpAnyH Try.prog .any opsP6 Q S 3 (#[true, true, true, true, false, true, true, false, false] : Array Bool) a w) → K' a w) → if Region.wanted qP6_0 (yielded opsP6 a.tmps) = true then Oper.wp Try.prog qP6_0 a w K' Q else K' (a.put (some 28) undef) w) :
    wpAnyH Try.prog .any opsP6 Q S 4 (#[false, true, true, true, false, true, true, false, false] : Array Bool) a w :=
  wpAnyH_ready (rs := [0]) (by kernel_rfl) (by simp) (AllReadyH.cons hP6_0 (fun K' hK => h0 K' ((show (#[false, true, true, true, false, true, true, false, false] : Array Bool).setIfInBounds 0 true = (#[true, true, true, true, false, true, true, false, false] : Array Bool) by kernel_rfl) ▸ hK)) AllReadyH.nil)
set_option maxRecDepth 100000 in
theorem cP6_1235_06 {Q : Exit → Act → World → Prop} {S : World → Prop} {a : Act} {w : World}
    (h0 : ∀ K' : Act → World → Prop, Shut (∀ a w, S w → (S w → wpAnyH Try.prog .any opsP6 Q S 4 (#[true, true, true, true, false, true, false, false, false] : Array Bool) a w) → K' a w) → if Region.wanted qP6_0 (yielded opsP6 a.tmps) = true then Oper.wp Try.prog qP6_0 a w K' Q else K' (a.put (some 28) undef) w)
    (h6 : ∀ K' : Act → World → Prop, Shut (∀ a w, S w → (S w → wpAnyH Try.prog .any opsP6 Q S 4 (#[false, true, true, true, false, true, true, false, false] : Array Bool) a w) → K' a w) → if Region.wanted qP6_6 (yielded opsP6 a.tmps) = true then Oper.wp Try.prog qP6_6 a w K' Q else K' (a.put (some 34) undef) w) :
    wpAnyH Try.prog .any opsP6 Q S 5 (#[false, true, true, true, false, true, false, false, false] : Array Bool) a w :=
  wpAnyH_ready (rs := [0, 6]) (by kernel_rfl) (by simp) (AllReadyH.cons hP6_0 (fun K' hK => h0 K' ((show (#[false, true, true, true, false, true, false, false, false] : Array Bool).setIfInBounds 0 true = (#[true, true, true, true, false, true, false, false, false] : Array Bool) by kernel_rfl) ▸ hK)) (AllReadyH.cons hP6_6 (fun K' hK => h6 K' ((show (#[false, true, true, true, false, true, false, false, false] : Array Bool).setIfInBounds 6 true = (#[false, true, true, true, false, true, true, false, false] : Array Bool) by kernel_rfl) ▸ hK)) AllReadyH.nil))
end Go.Proofs.Ytlanmkimaambgaa.hexes

