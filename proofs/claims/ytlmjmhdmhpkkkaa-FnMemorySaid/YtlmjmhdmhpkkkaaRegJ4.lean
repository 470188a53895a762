/-
  A statement of impl.recallLeast: its operations, and a theorem a step.
-/
import Derived.Test.YtlmjmhdmhpkkkaaProg
import Derived.WalkKit
import Derived.Deep.RegionHeld3
namespace Go.Proofs.Ytlmjmhdmhpkkkaa.hexes
open Go.RowKit

def findJ4 (n : Nat) : Code → Option Code
  | .region id ops d => if id = n then some (.region id ops d) else none
  | .seq a b => match findJ4 n a with
    | some c => some c
    | none => findJ4 n b
  | .block _ c => findJ4 n c
  | .scope c => findJ4 n c
  | .loop c => findJ4 n c
  | .cond _ a b => match findJ4 n a with
    | some c => some c
    | none => findJ4 n b
  | _ => none
def opsOfJ4 : Option Code → Array Oper
  | some (.region _ ops _) => ops
  | _ => #[]
noncomputable def opsJ4 : Array Oper := opsOfJ4 (Try.f43.body.bind (findJ4 4))
def schJ4 : List Nat := [0, 2, 3, 1, 4, 5]
def LJ4 (k : Nat) : Array Bool := ((List.range 6).map fun i => (schJ4.take k).contains i).toArray
theorem noselJ4 : Region.noSelect opsJ4 = true := by kernel_rfl
def qJ4_0 : Oper := { dst := some 29, op := Op.move (Operand.tmp 0), type := 24, pos := "l09_memory.go:108", after := #[], guard := none }
theorem hJ4_0 : opsJ4[0]? = some qJ4_0 := by kernel_rfl
theorem lJ4_0 : (LJ4 0).setIfInBounds 0 true = LJ4 1 := by kernel_rfl
theorem tJ4_0 {Q : Exit → Act → World → Prop} {S : World → Prop} {a : Act} {w : World} (v : Value) (hQ : ∀ c a w, Q (.panic c) (a.put (some 29) v) w → Q (.panic c) a w) (hy : YieldsIf Try.prog opsJ4 S qJ4_0 v a) (hS : S w)
    (h : wpAnyH Try.prog .any opsJ4 Q S 5 (LJ4 1) (a.put (some 29) v) w) : wpAnyH Try.prog .any opsJ4 Q S 6 (LJ4 0) a w :=
  wpAnyH_take (i := 0) hJ4_0 noselJ4 (by kernel_rfl) (by kernel_rfl) hQ hy hS (lJ4_0.symm ▸ h)
def qJ4_2 : Oper := { dst := some 31, op := Op.load 26 (Operand.tmp 3), type := 26, pos := "l09_memory.go:108", after := #[], guard := none }
theorem hJ4_2 : opsJ4[2]? = some qJ4_2 := by kernel_rfl
theorem lJ4_1 : (LJ4 1).setIfInBounds 2 true = LJ4 2 := by kernel_rfl
theorem tJ4_1 {Q : Exit → Act → World → Prop} {S : World → Prop} {a : Act} {w : World} (v : Value) (hQ : ∀ c a w, Q (.panic c) (a.put (some 31) v) w → Q (.panic c) a w) (hy : YieldsIf Try.prog opsJ4 S qJ4_2 v a) (hS : S w)
    (h : wpAnyH Try.prog .any opsJ4 Q S 4 (LJ4 2) (a.put (some 31) v) w) : wpAnyH Try.prog .any opsJ4 Q S 5 (LJ4 1) a w :=
  wpAnyH_take (i := 2) hJ4_2 noselJ4 (by kernel_rfl) (by kernel_rfl) hQ hy hS (lJ4_1.symm ▸ h)
def qJ4_3 : Oper := { dst := some 32, op := Op.makeFunc (Fn.func 49) #[Operand.tmp 31] #[], type := 75, pos := "l09_memory.go:108", after := #[{ on := 2, ground := Ground.data }], guard := none }
theorem hJ4_3 : opsJ4[3]? = some qJ4_3 := by kernel_rfl
theorem lJ4_2 : (LJ4 2).setIfInBounds 3 true = LJ4 3 := by kernel_rfl
theorem tJ4_2 {Q : Exit → Act → World → Prop} {S : World → Prop} {a : Act} {w : World} (v : Value) (hQ : ∀ c a w, Q (.panic c) (a.put (some 32) v) w → Q (.panic c) a w) (hy : YieldsIf Try.prog opsJ4 S qJ4_3 v a) (hS : S w)
    (h : wpAnyH Try.prog .any opsJ4 Q S 3 (LJ4 3) (a.put (some 32) v) w) : wpAnyH Try.prog .any opsJ4 Q S 4 (LJ4 2) a w :=
  wpAnyH_take (i := 3) hJ4_3 noselJ4 (by kernel_rfl) (by kernel_rfl) hQ hy hS (lJ4_2.symm ▸ h)
def qJ4_1 : Oper := { dst := some 30, op := Op.call { callee := Callee.value (Operand.func 44), args := #[Operand.tmp 29], argTypes := #[24] }, type := 24, pos := "l09_memory.go:108", after := #[{ on := 0, ground := Ground.data }], guard := none }
theorem hJ4_1 : opsJ4[1]? = some qJ4_1 := by kernel_rfl
theorem lJ4_3 : (LJ4 3).setIfInBounds 1 true = LJ4 4 := by kernel_rfl
set_option maxRecDepth 100000 in
theorem cJ4_3 {Q : Exit → Act → World → Prop} {S : World → Prop} {a : Act} {w : World}
    (h : ∀ K' : Act → World → Prop, Shut (∀ a w, S w → (S w → wpAnyH Try.prog .any opsJ4 Q S 2 (LJ4 4) a w) → K' a w) → if Region.wanted qJ4_1 (yielded opsJ4 a.tmps) = true then Oper.wp Try.prog qJ4_1 a w K' Q else K' (a.put (some 30) undef) w) :
    wpAnyH Try.prog .any opsJ4 Q S 3 (LJ4 3) a w :=
  wpAnyH_ready (rs := [1]) (by kernel_rfl) (by simp) (AllReadyH.cons hJ4_1 (fun K' hK => h K' (lJ4_3 ▸ hK)) AllReadyH.nil)
theorem tJ4_3 {Q : Exit → Act → World → Prop} {S : World → Prop} {a : Act} {w : World} (v : Value) (hQ : ∀ c a w, Q (.panic c) (a.put (some 30) v) w → Q (.panic c) a w) (hy : YieldsIf Try.prog opsJ4 S qJ4_1 v a) (hS : S w)
    (h : wpAnyH Try.prog .any opsJ4 Q S 2 (LJ4 4) (a.put (some 30) v) w) : wpAnyH Try.prog .any opsJ4 Q S 3 (LJ4 3) a w :=
  wpAnyH_take (i := 1) hJ4_1 noselJ4 (by kernel_rfl) (by kernel_rfl) hQ hy hS (lJ4_3.symm ▸ h)
def qJ4_4 : Oper := { dst := some 33, op := Op.call { callee := Callee.value (Operand.func 56), args := #[Operand.tmp 30, Operand.tmp 32], argTypes := #[24, 75] }, type := 24, pos := "l09_memory.go:108", after := #[{ on := 1, ground := Ground.data }, { on := 3, ground := Ground.data }, { on := 1, ground := Ground.chain }], guard := none }
theorem hJ4_4 : opsJ4[4]? = some qJ4_4 := by kernel_rfl
theorem lJ4_4 : (LJ4 4).setIfInBounds 4 true = LJ4 5 := by kernel_rfl
set_option maxRecDepth 100000 in
theorem cJ4_4 {Q : Exit → Act → World → Prop} {S : World → Prop} {a : Act} {w : World}
    (h : ∀ K' : Act → World → Prop, Shut (∀ a w, S w → (S w → wpAnyH Try.prog .any opsJ4 Q S 1 (LJ4 5) a w) → K' a w) → if Region.wanted qJ4_4 (yielded opsJ4 a.tmps) = true then Oper.wp Try.prog qJ4_4 a w K' Q else K' (a.put (some 33) undef) w) :
    wpAnyH Try.prog .any opsJ4 Q S 2 (LJ4 4) a w :=
  wpAnyH_ready (rs := [4]) (by kernel_rfl) (by simp) (AllReadyH.cons hJ4_4 (fun K' hK => h K' (lJ4_4 ▸ hK)) AllReadyH.nil)
theorem tJ4_4 {Q : Exit → Act → World → Prop} {S : World → Prop} {a : Act} {w : World} (v : Value) (hQ : ∀ c a w, Q (.panic c) (a.put (some 33) v) w → Q (.panic c) a w) (hy : YieldsIf Try.prog opsJ4 S qJ4_4 v a) (hS : S w)
    (h : wpAnyH Try.prog .any opsJ4 Q S 1 (LJ4 5) (a.put (some 33) v) w) : wpAnyH Try.prog .any opsJ4 Q S 2 (LJ4 4) a w :=
  wpAnyH_take (i := 4) hJ4_4 noselJ4 (by kernel_rfl) (by kernel_rfl) hQ hy hS (lJ4_4.symm ▸ h)
def qJ4_5 : Oper := { dst := some 8, op := Op.assign (Operand.tmp 33), type := 24, pos := "l09_memory.go:108", after := #[{ on := 4, ground := Ground.data }, { on := 4, ground := Ground.chain }, { on := 0, ground := Ground.phase }, { on := 1, ground := Ground.phase }, { on := 2, ground := Ground.phase }, { on := 3, ground := Ground.phase }, { on := 4, ground := Ground.phase }], guard := none }
theorem hJ4_5 : opsJ4[5]? = some qJ4_5 := by kernel_rfl
theorem lJ4_5 : (LJ4 5).setIfInBounds 5 true = LJ4 6 := by kernel_rfl
theorem tJ4_5 {Q : Exit → Act → World → Prop} {S : World → Prop} {a : Act} {w : World} (v : Value) (hQ : ∀ c a w, Q (.panic c) (a.put (some 8) v) w → Q (.panic c) a w) (hy : YieldsIf Try.prog opsJ4 S qJ4_5 v a) (hS : S w)
    (h : wpAnyH Try.prog .any opsJ4 Q S 0 (LJ4 6) (a.put (some 8) v) w) : wpAnyH Try.prog .any opsJ4 Q S 1 (LJ4 5) a w :=
  wpAnyH_take (i := 5) hJ4_5 noselJ4 (by kernel_rfl) (by kernel_rfl) hQ hy hS (lJ4_5.symm ▸ h)
end Go.Proofs.Ytlmjmhdmhpkkkaa.hexes
