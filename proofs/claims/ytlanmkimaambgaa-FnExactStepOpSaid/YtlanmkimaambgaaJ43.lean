/-
  A statement of impl.Recall: its operations, and a theorem a step.
-/
import Derived.Test.YtlanmkimaambgaaProg
import Derived.WalkKit
import Derived.Deep.RegionHeld3

namespace Go.Proofs.Ytlanmkimaambgaa.hexes
open Go.RowKit

def findJ6 (n : Nat) : Code → Option Code
  | .region id ops d => if id = n then some (.region id ops d) else none
  | .seq a b => match findJ6 n a with
    | some c => some c
    | none => findJ6 n b
  | .block _ c => findJ6 n c
  | .scope c => findJ6 n c
  | .loop c => findJ6 n c
  | .cond _ a b => match findJ6 n a with
    | some c => some c
    | none => findJ6 n b
  | _ => none
def opsOfJ6 : Option Code → Array Oper
  | some (.region _ ops _) => ops
  | _ => #[]
noncomputable def opsJ6 : Array Oper := opsOfJ6 (Try.f71.body.bind (findJ6 6))
theorem noselJ6 : Region.noSelect opsJ6 = true := by kernel_rfl
def qJ6_0 : Oper := { dst := some 19, op := Op.move (Operand.tmp 1), type := 27, pos := "l09_memory.go:97", after := #[], guard := none }
theorem hJ6_0 : opsJ6[0]? = some qJ6_0 := by kernel_rfl
def qJ6_1 : Oper := { dst := some 20, op := Op.load 75 (Operand.tmp 5), type := 75, pos := "l09_memory.go:97", after := #[], guard := none }
theorem hJ6_1 : opsJ6[1]? = some qJ6_1 := by kernel_rfl
def qJ6_2 : Oper := { dst := some 21, op := Op.call { callee := Callee.value (Operand.func 96), args := #[Operand.tmp 19, Operand.tmp 20], argTypes := #[27, 75] }, type := 27, pos := "l09_memory.go:97", after := #[{ on := 0, ground := Ground.data }, { on := 1, ground := Ground.data }], guard := none }
theorem hJ6_2 : opsJ6[2]? = some qJ6_2 := by kernel_rfl
def qJ6_3 : Oper := { dst := some 22, op := Op.move (Operand.tmp 1), type := 27, pos := "l09_memory.go:97", after := #[], guard := none }
theorem hJ6_3 : opsJ6[3]? = some qJ6_3 := by kernel_rfl
def qJ6_4 : Oper := { dst := some 23, op := Op.load 75 (Operand.tmp 5), type := 75, pos := "l09_memory.go:97", after := #[], guard := none }
theorem hJ6_4 : opsJ6[4]? = some qJ6_4 := by kernel_rfl
def qJ6_5 : Oper := { dst := some 24, op := Op.call { callee := Callee.value (Operand.func 97), args := #[Operand.tmp 22, Operand.tmp 23], argTypes := #[27, 75] }, type := 4, pos := "l09_memory.go:97", after := #[{ on := 3, ground := Ground.data }, { on := 4, ground := Ground.data }, { on := 2, ground := Ground.chain }], guard := none }
theorem hJ6_5 : opsJ6[5]? = some qJ6_5 := by kernel_rfl
def qJ6_6 : Oper := { dst := some 25, op := Op.unOp UnOp.not 4 (Operand.tmp 24), type := 4, pos := "l09_memory.go:97", after := #[{ on := 5, ground := Ground.data }, { on := 7, ground := Ground.gcOnly Departure.lateStores }], guard := none }
theorem hJ6_6 : opsJ6[6]? = some qJ6_6 := by kernel_rfl
def qJ6_7 : Oper := { dst := some 6, op := Op.assign (Operand.tmp 21), type := 27, pos := "l09_memory.go:97", after := #[{ on := 2, ground := Ground.data }, { on := 5, ground := Ground.chain }, { on := 0, ground := Ground.phase }, { on := 1, ground := Ground.phase }, { on := 2, ground := Ground.phase }, { on := 3, ground := Ground.textOnly Departure.lateStores }, { on := 4, ground := Ground.textOnly Departure.lateStores }, { on := 5, ground := Ground.textOnly Departure.lateStoresUnsure }, { on := 6, ground := Ground.textOnly Departure.lateStores }], guard := none }
theorem hJ6_7 : opsJ6[7]? = some qJ6_7 := by kernel_rfl
def qJ6_8 : Oper := { dst := some 7, op := Op.assign (Operand.tmp 25), type := 4, pos := "l09_memory.go:97", after := #[{ on := 6, ground := Ground.data }, { on := 7, ground := Ground.chain }, { on := 0, ground := Ground.phase }, { on := 1, ground := Ground.phase }, { on := 2, ground := Ground.phase }, { on := 3, ground := Ground.phase }, { on := 4, ground := Ground.phase }, { on := 5, ground := Ground.phase }, { on := 6, ground := Ground.phase }, { on := 7, ground := Ground.phase }], guard := none }
theorem hJ6_8 : opsJ6[8]? = some qJ6_8 := by kernel_rfl
theorem tJ6_e_0 {Q : Exit → Act → World → Prop} {S : World → Prop} {a : Act} {w : World} (v : Value) (hQ : ∀ c a w, Q (.panic c) (a.put (some 19) v) w → Q (.panic c) a w) (hy : YieldsIf Try.prog opsJ6 S qJ6_0 v a) (hS : S w)
    (h : wpAnyH Try.prog .any opsJ6 Q S 8 (#[true, false, false, false, false, false, false, false, false] : Array Bool) (a.put (some 19) v) w) : wpAnyH Try.prog .any opsJ6 Q S 9 (#[false, false, false, false, false, false, false, false, false] : Array Bool) a w :=
  wpAnyH_take (i := 0) hJ6_0 noselJ6 (by kernel_rfl) (by kernel_rfl) hQ hy hS ((show (#[false, false, false, false, false, false, false, false, false] : Array Bool).setIfInBounds 0 true = (#[true, false, false, false, false, false, false, false, false] : Array Bool) by kernel_rfl).symm ▸ h)
theorem tJ6_0_1 {Q : Exit → Act → World → Prop} {S : World → Prop} {a : Act} {w : World} (v : Value) (hQ : ∀ c a w, Q (.panic c) (a.put (some 20) v) w → Q (.panic c) a w) (hy : YieldsIf Try.prog opsJ6 S qJ6_1 v a) (hS : S w)
    (h : wpAnyH Try.prog .any opsJ6 Q S 7 (#[true, true, false, false, false, false, false, false, false] : Array Bool) (a.put (some 20) v) w) : wpAnyH Try.prog .any opsJ6 Q S 8 (#[true, false, false, false, false, false, false, false, false] : Array Bool) a w :=
  wpAnyH_take (i := 1) hJ6_1 noselJ6 (by kernel_rfl) (by kernel_rfl) hQ hy hS ((show (#[true, false, false, false, false, false, false, false, false] : Array Bool).setIfInBounds 1 true = (#[true, true, false, false, false, false, false, false, false] : Array Bool) by kernel_rfl).symm ▸ h)
theorem tJ6_01_3 {Q : Exit → Act → World → Prop} {S : World → Prop} {a : Act} {w : World} (v : Value) (hQ : ∀ c a w, Q (.panic c) (a.put (some 22) v) w → Q (.panic c) a w) (hy : YieldsIf Try.prog opsJ6 S qJ6_3 v a) (hS : S w)
    (h : wpAnyH Try.prog .any opsJ6 Q S 6 (#[true, true, false, true, false, false, false, false, false] : Array Bool) (a.put (some 22) v) w) : wpAnyH Try.prog .any opsJ6 Q S 7 (#[true, true, false, false, false, false, false, false, false] : Array Bool) a w :=
  wpAnyH_take (i := 3) hJ6_3 noselJ6 (by kernel_rfl) (by kernel_rfl) hQ hy hS ((show (#[true, true, false, false, false, false, false, false, false] : Array Bool).setIfInBounds 3 true = (#[true, true, false, true, false, false, false, false, false] : Array Bool) by kernel_rfl).symm ▸ h)
theorem tJ6_013_4 {Q : Exit → Act → World → Prop} {S : World → Prop} {a : Act} {w : World} (v : Value) (hQ : ∀ c a w, Q (.panic c) (a.put (some 23) v) w → Q (.panic c) a w) (hy : YieldsIf Try.prog opsJ6 S qJ6_4 v a) (hS : S w)
    (h : wpAnyH Try.prog .any opsJ6 Q S 5 (#[true, true, false, true, true, false, false, false, false] : Array Bool) (a.put (some 23) v) w) : wpAnyH Try.prog .any opsJ6 Q S 6 (#[true, true, false, true, false, false, false, false, false] : Array Bool) a w :=
  wpAnyH_take (i := 4) hJ6_4 noselJ6 (by kernel_rfl) (by kernel_rfl) hQ hy hS ((show (#[true, true, false, true, false, false, false, false, false] : Array Bool).setIfInBounds 4 true = (#[true, true, false, true, true, false, false, false, false] : Array Bool) by kernel_rfl).symm ▸ h)
theorem tJ6_012345_6 {Q : Exit → Act → World → Prop} {S : World → Prop} {a : Act} {w : World} (v : Value) (hQ : ∀ c a w, Q (.panic c) (a.put (some 25) v) w → Q (.panic c) a w) (hy : YieldsIf Try.prog opsJ6 S qJ6_6 v a) (hS : S w)
    (h : wpAnyH Try.prog .any opsJ6 Q S 2 (#[true, true, true, true, true, true, true, false, false] : Array Bool) (a.put (some 25) v) w) : wpAnyH Try.prog .any opsJ6 Q S 3 (#[true, true, true, true, true, true, false, false, false] : Array Bool) a w :=
  wpAnyH_take (i := 6) hJ6_6 noselJ6 (by kernel_rfl) (by kernel_rfl) hQ hy hS ((show (#[true, true, true, true, true, true, false, false, false] : Array Bool).setIfInBounds 6 true = (#[true, true, true, true, true, true, true, false, false] : Array Bool) by kernel_rfl).symm ▸ h)
theorem tJ6_0123456_7 {Q : Exit → Act → World → Prop} {S : World → Prop} {a : Act} {w : World} (v : Value) (hQ : ∀ c a w, Q (.panic c) (a.put (some 6) v) w → Q (.panic c) a w) (hy : YieldsIf Try.prog opsJ6 S qJ6_7 v a) (hS : S w)
    (h : wpAnyH Try.prog .any opsJ6 Q S 1 (#[true, true, true, true, true, true, true, true, false] : Array Bool) (a.put (some 6) v) w) : wpAnyH Try.prog .any opsJ6 Q S 2 (#[true, true, true, true, true, true, true, false, false] : Array Bool) a w :=
  wpAnyH_take (i := 7) hJ6_7 noselJ6 (by kernel_rfl) (by kernel_rfl) hQ hy hS ((show (#[true, true, true, true, true, true, true, false, false] : Array Bool).setIfInBounds 7 true = (#[true, true, true, true, true, true, true, true, false] : Array Bool) by kernel_rfl).symm ▸ h)
theorem tJ6_01234567_8 {Q : Exit → Act → World → Prop} {S : World → Prop} {a : Act} {w : World} (v : Value) (hQ : ∀ c a w, Q (.panic c) (a.put (some 7) v) w → Q (.panic c) a w) (hy : YieldsIf Try.prog opsJ6 S qJ6_8 v a) (hS : S w)
    (h : wpAnyH Try.prog .any opsJ6 Q S 0 (#[true, true, true, true, true, true, true, true, true] : Array Bool) (a.put (some 7) v) w) : wpAnyH Try.prog .any opsJ6 Q S 1 (#[true, true, true, true, true, true, true, true, false] : Array Bool) a w :=
  wpAnyH_take (i := 8) hJ6_8 noselJ6 (by kernel_rfl) (by kernel_rfl) hQ hy hS ((show (#[true, true, true, true, true, true, true, true, false] : Array Bool).setIfInBounds 8 true = (#[true, true, true, true, true, true, true, true, true] : Array Bool) by kernel_rfl).symm ▸ h)
set_option maxRecDepth 100000 in
theorem cJ6_01234_5 {Q : Exit → Act → World → Prop} {S : World → Prop} {a : Act} {w : World}
    (h5 : ∀ K' : Act → World → Prop, Shut (∀ a w, S w → (S w → wpAnyH Try.prog .any opsJ6 Q S 3 (#[true, true, true, true, true, true, false, false, false] : Array Bool) a w) → K' a w) → if Region.wanted qJ6_5 (yielded opsJ6 a.tmps) = true then Oper.wp Try.prog qJ6_5 a w K' Q else K' (a.put (some 24) undef) w) :
    wpAnyH Try.prog .any opsJ6 Q S 4 (#[true, true, true, true, true, false, false, false, false] : Array Bool) a w :=
  wpAnyH_ready (rs := [5]) (by kernel_rfl) (by simp) (AllReadyH.cons hJ6_5 (fun K' hK => h5 K' ((show (#[true, true, true, true, true, false, false, false, false] : Array Bool).setIfInBounds 5 true = (#[true, true, true, true, true, true, false, false, false] : Array Bool) by kernel_rfl) ▸ hK)) AllReadyH.nil)
set_option maxRecDepth 100000 in
theorem cJ6_0134_2 {Q : Exit → Act → World → Prop} {S : World → Prop} {a : Act} {w : World}
    (h2 : ∀ K' : Act → World → Prop, Shut (∀ a w, S w → (S w → wpAnyH Try.prog .any opsJ6 Q S 4 (#[true, true, true, true, true, false, false, false, false] : Array Bool) a w) → K' a w) → if Region.wanted qJ6_2 (yielded opsJ6 a.tmps) = true then Oper.wp Try.prog qJ6_2 a w K' Q else K' (a.put (some 21) undef) w) :
    wpAnyH Try.prog .any opsJ6 Q S 5 (#[true, true, false, true, true, false, false, false, false] : Array Bool) a w :=
  wpAnyH_ready (rs := [2]) (by kernel_rfl) (by simp) (AllReadyH.cons hJ6_2 (fun K' hK => h2 K' ((show (#[true, true, false, true, true, false, false, false, false] : Array Bool).setIfInBounds 2 true = (#[true, true, true, true, true, false, false, false, false] : Array Bool) by kernel_rfl) ▸ hK)) AllReadyH.nil)
end Go.Proofs.Ytlanmkimaambgaa.hexes

