/-
  Contracts of the library, laid at this program: the print of the kit's own tools.
  A statement of impl.PutCell: its operations, and a theorem a step.
  A statement of (impl.sortedList[impl.Cell]).with: its operations, and a theorem a step.
-/
import Derived.Shelf.Spec.SlicesGrow
import Derived.Test.YtlanmkimaambgaaProg
import Derived.WalkKit
import Derived.Deep.RegionHeld3

namespace Go.Proofs
open Go.Shelf
def Try.growCe_ren : Go.Shelf.Ren := ⟨fun | 4 => 123 | n => n, fun | 22 => 27 | 25 => 75 | 3 => 3 | 4 => 4 | 9 => 9 | 20 => 20 | 0 => 0 | n => n, fun | n => n⟩
theorem Try.growCe : Go.Proofs.Lays8.n4 Try.prog Try.growCe_ren := {
  mixed := by kernel_rfl
  f4 := ⟨Try.f123.name, by decide, Try.func123.trans (congrArg some (by kernel_rfl))⟩
  t0 := Try.underlying0
  a0 := Try.isAgg0
  z0 := Try.sizeOf0
  v0 := Try.zeroValue0
  t3 := Try.underlying3
  a3 := Try.isAgg3
  z3 := Try.sizeOf3
  v3 := Try.zeroValue3
  t4 := Try.underlying4
  a4 := Try.isAgg4
  z4 := Try.sizeOf4
  v4 := Try.zeroValue4
  t9 := Try.underlying9
  a9 := Try.isAgg9
  z9 := Try.sizeOf9
  v9 := Try.zeroValue9
  t20 := Try.underlying20
  a20 := Try.isAgg20
  z20 := Try.sizeOf20
  v20 := Try.zeroValue20
  t22 := Try.underlying27
  a22 := Try.isAgg27
  z22 := Try.sizeOf27
  v22 := Try.zeroValue27 }
end Go.Proofs

namespace Go.Proofs.Ytlanmkimaambgaa.hexes
open Go.RowKit

def findU2 (n : Nat) : Code → Option Code
  | .region id ops d => if id = n then some (.region id ops d) else none
  | .seq a b => match findU2 n a with
    | some c => some c
    | none => findU2 n b
  | .block _ c => findU2 n c
  | .scope c => findU2 n c
  | .loop c => findU2 n c
  | .cond _ a b => match findU2 n a with
    | some c => some c
    | none => findU2 n b
  | _ => none
def opsOfU2 : Option Code → Array Oper
  | some (.region _ ops _) => ops
  | _ => #[]
noncomputable def opsU2 : Array Oper := opsOfU2 (Try.f96.body.bind (findU2 1))
def schU2 : List Nat := [0, 2, 1, 3, 4]
def LU2 (k : Nat) : Array Bool := ((List.range 5).map fun i => (schU2.take k).contains i).toArray
theorem noselU2 : Region.noSelect opsU2 = true := by kernel_rfl
def qU2_0 : Oper := { dst := some 5, op := Op.move (Operand.tmp 0), type := 27, pos := "l09_memory.go:69", after := #[], guard := none }
theorem hU2_0 : opsU2[0]? = some qU2_0 := by kernel_rfl
theorem lU2_0 : (LU2 0).setIfInBounds 0 true = LU2 1 := by kernel_rfl
theorem tU2_0 {Q : Exit → Act → World → Prop} {S : World → Prop} {a : Act} {w : World} (v : Value) (hQ : ∀ c a w, Q (.panic c) (a.put (some 5) v) w → Q (.panic c) a w) (hy : YieldsIf Try.prog opsU2 S qU2_0 v a) (hS : S w)
    (h : wpAnyH Try.prog .any opsU2 Q S 4 (LU2 1) (a.put (some 5) v) w) : wpAnyH Try.prog .any opsU2 Q S 5 (LU2 0) a w :=
  wpAnyH_take (i := 0) hU2_0 noselU2 (by kernel_rfl) (by kernel_rfl) hQ hy hS (lU2_0.symm ▸ h)
def qU2_2 : Oper := { dst := some 7, op := Op.load 75 (Operand.tmp 3), type := 75, pos := "l09_memory.go:69", after := #[], guard := none }
theorem hU2_2 : opsU2[2]? = some qU2_2 := by kernel_rfl
theorem lU2_1 : (LU2 1).setIfInBounds 2 true = LU2 2 := by kernel_rfl
theorem tU2_1 {Q : Exit → Act → World → Prop} {S : World → Prop} {a : Act} {w : World} (v : Value) (hQ : ∀ c a w, Q (.panic c) (a.put (some 7) v) w → Q (.panic c) a w) (hy : YieldsIf Try.prog opsU2 S qU2_2 v a) (hS : S w)
    (h : wpAnyH Try.prog .any opsU2 Q S 3 (LU2 2) (a.put (some 7) v) w) : wpAnyH Try.prog .any opsU2 Q S 4 (LU2 1) a w :=
  wpAnyH_take (i := 2) hU2_2 noselU2 (by kernel_rfl) (by kernel_rfl) hQ hy hS (lU2_1.symm ▸ h)
def qU2_1 : Oper := { dst := some 6, op := Op.call { callee := Callee.value (Operand.func 108), args := #[Operand.tmp 5], argTypes := #[27] }, type := 140, pos := "l09_memory.go:69", after := #[{ on := 0, ground := Ground.data }], guard := none }
theorem hU2_1 : opsU2[1]? = some qU2_1 := by kernel_rfl
theorem lU2_2 : (LU2 2).setIfInBounds 1 true = LU2 3 := by kernel_rfl
set_option maxRecDepth 100000 in
theorem cU2_2 {Q : Exit → Act → World → Prop} {S : World → Prop} {a : Act} {w : World}
    (h : ∀ K' : Act → World → Prop, Shut (∀ a w, S w → (S w → wpAnyH Try.prog .any opsU2 Q S 2 (LU2 3) a w) → K' a w) → if Region.wanted qU2_1 (yielded opsU2 a.tmps) = true then Oper.wp Try.prog qU2_1 a w K' Q else K' (a.put (some 6) undef) w) :
    wpAnyH Try.prog .any opsU2 Q S 3 (LU2 2) a w :=
  wpAnyH_ready (rs := [1]) (by kernel_rfl) (by simp) (AllReadyH.cons hU2_1 (fun K' hK => h K' (lU2_2 ▸ hK)) AllReadyH.nil)
def qU2_3 : Oper := { dst := some 8, op := Op.call { callee := Callee.value (Operand.func 109), args := #[Operand.tmp 6, Operand.tmp 7], argTypes := #[140, 75] }, type := 27, pos := "l09_memory.go:69", after := #[{ on := 1, ground := Ground.data }, { on := 2, ground := Ground.data }, { on := 1, ground := Ground.chain }], guard := none }
theorem hU2_3 : opsU2[3]? = some qU2_3 := by kernel_rfl
theorem lU2_3 : (LU2 3).setIfInBounds 3 true = LU2 4 := by kernel_rfl
set_option maxRecDepth 100000 in
theorem cU2_3 {Q : Exit → Act → World → Prop} {S : World → Prop} {a : Act} {w : World}
    (h : ∀ K' : Act → World → Prop, Shut (∀ a w, S w → (S w → wpAnyH Try.prog .any opsU2 Q S 1 (LU2 4) a w) → K' a w) → if Region.wanted qU2_3 (yielded opsU2 a.tmps) = true then Oper.wp Try.prog qU2_3 a w K' Q else K' (a.put (some 8) undef) w) :
    wpAnyH Try.prog .any opsU2 Q S 2 (LU2 3) a w :=
  wpAnyH_ready (rs := [3]) (by kernel_rfl) (by simp) (AllReadyH.cons hU2_3 (fun K' hK => h K' (lU2_3 ▸ hK)) AllReadyH.nil)
def qU2_4 : Oper := { dst := some 4, op := Op.assign (Operand.tmp 8), type := 27, pos := "l09_memory.go:69", after := #[{ on := 3, ground := Ground.data }, { on := 3, ground := Ground.chain }, { on := 0, ground := Ground.phase }, { on := 1, ground := Ground.phase }, { on := 2, ground := Ground.phase }, { on := 3, ground := Ground.phase }], guard := none }
theorem hU2_4 : opsU2[4]? = some qU2_4 := by kernel_rfl
theorem lU2_4 : (LU2 4).setIfInBounds 4 true = LU2 5 := by kernel_rfl
theorem tU2_4 {Q : Exit → Act → World → Prop} {S : World → Prop} {a : Act} {w : World} (v : Value) (hQ : ∀ c a w, Q (.panic c) (a.put (some 4) v) w → Q (.panic c) a w) (hy : YieldsIf Try.prog opsU2 S qU2_4 v a) (hS : S w)
    (h : wpAnyH Try.prog .any opsU2 Q S 0 (LU2 5) (a.put (some 4) v) w) : wpAnyH Try.prog .any opsU2 Q S 1 (LU2 4) a w :=
  wpAnyH_take (i := 4) hU2_4 noselU2 (by kernel_rfl) (by kernel_rfl) hQ hy hS (lU2_4.symm ▸ h)
end Go.Proofs.Ytlanmkimaambgaa.hexes

namespace Go.Proofs.Ytlanmkimaambgaa.hexes
open Go.RowKit

def findT4 (n : Nat) : Code → Option Code
  | .region id ops d => if id = n then some (.region id ops d) else none
  | .seq a b => match findT4 n a with
    | some c => some c
    | none => findT4 n b
  | .block _ c => findT4 n c
  | .scope c => findT4 n c
  | .loop c => findT4 n c
  | .cond _ a b => match findT4 n a with
    | some c => some c
    | none => findT4 n b
  | _ => none
def opsOfT4 : Option Code → Array Oper
  | some (.region _ ops _) => ops
  | _ => #[]
noncomputable def opsT4 : Array Oper := opsOfT4 (Try.f109.body.bind (findT4 4))
def schT4 : List Nat := [0, 1, 2, 3, 4, 6, 7, 8, 9, 5, 10, 11, 12]
def LT4 (k : Nat) : Array Bool := ((List.range 13).map fun i => (schT4.take k).contains i).toArray
theorem noselT4 : Region.noSelect opsT4 = true := by kernel_rfl
def qT4_0 : Oper := { dst := some 15, op := Op.fieldAddr 140 (Operand.tmp 2) 0, type := 0, pos := "l09_memory.go:44", after := #[], guard := none }
theorem hT4_0 : opsT4[0]? = some qT4_0 := by kernel_rfl
theorem lT4_0 : (LT4 0).setIfInBounds 0 true = LT4 1 := by kernel_rfl
theorem tT4_0 {Q : Exit → Act → World → Prop} {S : World → Prop} {a : Act} {w : World} (v : Value) (hQ : ∀ c a w, Q (.panic c) (a.put (some 15) v) w → Q (.panic c) a w) (hy : YieldsIf Try.prog opsT4 S qT4_0 v a) (hS : S w)
    (h : wpAnyH Try.prog .any opsT4 Q S 12 (LT4 1) (a.put (some 15) v) w) : wpAnyH Try.prog .any opsT4 Q S 13 (LT4 0) a w :=
  wpAnyH_take (i := 0) hT4_0 noselT4 (by kernel_rfl) (by kernel_rfl) hQ hy hS (lT4_0.symm ▸ h)
def qT4_1 : Oper := { dst := some 16, op := Op.load 27 (Operand.tmp 15), type := 27, pos := "l09_memory.go:44", after := #[{ on := 0, ground := Ground.data }], guard := none }
theorem hT4_1 : opsT4[1]? = some qT4_1 := by kernel_rfl
theorem lT4_1 : (LT4 1).setIfInBounds 1 true = LT4 2 := by kernel_rfl
theorem tT4_1 {Q : Exit → Act → World → Prop} {S : World → Prop} {a : Act} {w : World} (v : Value) (hQ : ∀ c a w, Q (.panic c) (a.put (some 16) v) w → Q (.panic c) a w) (hy : YieldsIf Try.prog opsT4 S qT4_1 v a) (hS : S w)
    (h : wpAnyH Try.prog .any opsT4 Q S 11 (LT4 2) (a.put (some 16) v) w) : wpAnyH Try.prog .any opsT4 Q S 12 (LT4 1) a w :=
  wpAnyH_take (i := 1) hT4_1 noselT4 (by kernel_rfl) (by kernel_rfl) hQ hy hS (lT4_1.symm ▸ h)
def qT4_2 : Oper := { dst := some 17, op := Op.move (Operand.tmp 5), type := 3, pos := "l09_memory.go:44", after := #[], guard := none }
theorem hT4_2 : opsT4[2]? = some qT4_2 := by kernel_rfl
theorem lT4_2 : (LT4 2).setIfInBounds 2 true = LT4 3 := by kernel_rfl
theorem tT4_2 {Q : Exit → Act → World → Prop} {S : World → Prop} {a : Act} {w : World} (v : Value) (hQ : ∀ c a w, Q (.panic c) (a.put (some 17) v) w → Q (.panic c) a w) (hy : YieldsIf Try.prog opsT4 S qT4_2 v a) (hS : S w)
    (h : wpAnyH Try.prog .any opsT4 Q S 10 (LT4 3) (a.put (some 17) v) w) : wpAnyH Try.prog .any opsT4 Q S 11 (LT4 2) a w :=
  wpAnyH_take (i := 2) hT4_2 noselT4 (by kernel_rfl) (by kernel_rfl) hQ hy hS (lT4_2.symm ▸ h)
def qT4_3 : Oper := { dst := some 18, op := Op.slice 27 (Operand.tmp 16) none (some (Operand.tmp 17)) none, type := 27, pos := "l09_memory.go:44", after := #[{ on := 1, ground := Ground.data }, { on := 2, ground := Ground.data }], guard := none }
theorem hT4_3 : opsT4[3]? = some qT4_3 := by kernel_rfl
theorem lT4_3 : (LT4 3).setIfInBounds 3 true = LT4 4 := by kernel_rfl
theorem tT4_3 {Q : Exit → Act → World → Prop} {S : World → Prop} {a : Act} {w : World} (v : Value) (hQ : ∀ c a w, Q (.panic c) (a.put (some 18) v) w → Q (.panic c) a w) (hy : YieldsIf Try.prog opsT4 S qT4_3 v a) (hS : S w)
    (h : wpAnyH Try.prog .any opsT4 Q S 9 (LT4 4) (a.put (some 18) v) w) : wpAnyH Try.prog .any opsT4 Q S 10 (LT4 3) a w :=
  wpAnyH_take (i := 3) hT4_3 noselT4 (by kernel_rfl) (by kernel_rfl) hQ hy hS (lT4_3.symm ▸ h)
def qT4_4 : Oper := { dst := some 19, op := Op.load 75 (Operand.tmp 3), type := 75, pos := "l09_memory.go:44", after := #[], guard := none }
theorem hT4_4 : opsT4[4]? = some qT4_4 := by kernel_rfl
theorem lT4_4 : (LT4 4).setIfInBounds 4 true = LT4 5 := by kernel_rfl
theorem tT4_4 {Q : Exit → Act → World → Prop} {S : World → Prop} {a : Act} {w : World} (v : Value) (hQ : ∀ c a w, Q (.panic c) (a.put (some 19) v) w → Q (.panic c) a w) (hy : YieldsIf Try.prog opsT4 S qT4_4 v a) (hS : S w)
    (h : wpAnyH Try.prog .any opsT4 Q S 8 (LT4 5) (a.put (some 19) v) w) : wpAnyH Try.prog .any opsT4 Q S 9 (LT4 4) a w :=
  wpAnyH_take (i := 4) hT4_4 noselT4 (by kernel_rfl) (by kernel_rfl) hQ hy hS (lT4_4.symm ▸ h)
def qT4_6 : Oper := { dst := some 21, op := Op.fieldAddr 140 (Operand.tmp 2) 0, type := 0, pos := "l09_memory.go:44", after := #[], guard := none }
theorem hT4_6 : opsT4[6]? = some qT4_6 := by kernel_rfl
theorem lT4_5 : (LT4 5).setIfInBounds 6 true = LT4 6 := by kernel_rfl
theorem tT4_5 {Q : Exit → Act → World → Prop} {S : World → Prop} {a : Act} {w : World} (v : Value) (hQ : ∀ c a w, Q (.panic c) (a.put (some 21) v) w → Q (.panic c) a w) (hy : YieldsIf Try.prog opsT4 S qT4_6 v a) (hS : S w)
    (h : wpAnyH Try.prog .any opsT4 Q S 7 (LT4 6) (a.put (some 21) v) w) : wpAnyH Try.prog .any opsT4 Q S 8 (LT4 5) a w :=
  wpAnyH_take (i := 6) hT4_6 noselT4 (by kernel_rfl) (by kernel_rfl) hQ hy hS (lT4_5.symm ▸ h)
def qT4_7 : Oper := { dst := some 22, op := Op.load 27 (Operand.tmp 21), type := 27, pos := "l09_memory.go:44", after := #[{ on := 6, ground := Ground.data }], guard := none }
theorem hT4_7 : opsT4[7]? = some qT4_7 := by kernel_rfl
theorem lT4_6 : (LT4 6).setIfInBounds 7 true = LT4 7 := by kernel_rfl
theorem tT4_6 {Q : Exit → Act → World → Prop} {S : World → Prop} {a : Act} {w : World} (v : Value) (hQ : ∀ c a w, Q (.panic c) (a.put (some 22) v) w → Q (.panic c) a w) (hy : YieldsIf Try.prog opsT4 S qT4_7 v a) (hS : S w)
    (h : wpAnyH Try.prog .any opsT4 Q S 6 (LT4 7) (a.put (some 22) v) w) : wpAnyH Try.prog .any opsT4 Q S 7 (LT4 6) a w :=
  wpAnyH_take (i := 7) hT4_7 noselT4 (by kernel_rfl) (by kernel_rfl) hQ hy hS (lT4_6.symm ▸ h)
def qT4_8 : Oper := { dst := some 23, op := Op.move (Operand.tmp 5), type := 3, pos := "l09_memory.go:44", after := #[], guard := none }
theorem hT4_8 : opsT4[8]? = some qT4_8 := by kernel_rfl
theorem lT4_7 : (LT4 7).setIfInBounds 8 true = LT4 8 := by kernel_rfl
theorem tT4_7 {Q : Exit → Act → World → Prop} {S : World → Prop} {a : Act} {w : World} (v : Value) (hQ : ∀ c a w, Q (.panic c) (a.put (some 23) v) w → Q (.panic c) a w) (hy : YieldsIf Try.prog opsT4 S qT4_8 v a) (hS : S w)
    (h : wpAnyH Try.prog .any opsT4 Q S 5 (LT4 8) (a.put (some 23) v) w) : wpAnyH Try.prog .any opsT4 Q S 6 (LT4 7) a w :=
  wpAnyH_take (i := 8) hT4_8 noselT4 (by kernel_rfl) (by kernel_rfl) hQ hy hS (lT4_7.symm ▸ h)
def qT4_9 : Oper := { dst := some 24, op := Op.slice 27 (Operand.tmp 22) (some (Operand.tmp 23)) none none, type := 27, pos := "l09_memory.go:44", after := #[{ on := 7, ground := Ground.data }, { on := 8, ground := Ground.data }], guard := none }
theorem hT4_9 : opsT4[9]? = some qT4_9 := by kernel_rfl
theorem lT4_8 : (LT4 8).setIfInBounds 9 true = LT4 9 := by kernel_rfl
theorem tT4_8 {Q : Exit → Act → World → Prop} {S : World → Prop} {a : Act} {w : World} (v : Value) (hQ : ∀ c a w, Q (.panic c) (a.put (some 24) v) w → Q (.panic c) a w) (hy : YieldsIf Try.prog opsT4 S qT4_9 v a) (hS : S w)
    (h : wpAnyH Try.prog .any opsT4 Q S 4 (LT4 9) (a.put (some 24) v) w) : wpAnyH Try.prog .any opsT4 Q S 5 (LT4 8) a w :=
  wpAnyH_take (i := 9) hT4_9 noselT4 (by kernel_rfl) (by kernel_rfl) hQ hy hS (lT4_8.symm ▸ h)
def qT4_5 : Oper := { dst := some 20, op := Op.buildSlice 27 1 #[(0, Operand.tmp 19)], type := 27, pos := "l09_memory.go:44", after := #[{ on := 4, ground := Ground.data }], guard := none }
theorem hT4_5 : opsT4[5]? = some qT4_5 := by kernel_rfl
theorem lT4_9 : (LT4 9).setIfInBounds 5 true = LT4 10 := by kernel_rfl
set_option maxRecDepth 100000 in
theorem cT4_9 {Q : Exit → Act → World → Prop} {S : World → Prop} {a : Act} {w : World}
    (h : ∀ K' : Act → World → Prop, Shut (∀ a w, S w → (S w → wpAnyH Try.prog .any opsT4 Q S 3 (LT4 10) a w) → K' a w) → if Region.wanted qT4_5 (yielded opsT4 a.tmps) = true then Oper.wp Try.prog qT4_5 a w K' Q else K' (a.put (some 20) undef) w) :
    wpAnyH Try.prog .any opsT4 Q S 4 (LT4 9) a w :=
  wpAnyH_ready (rs := [5]) (by kernel_rfl) (by simp) (AllReadyH.cons hT4_5 (fun K' hK => h K' (lT4_9 ▸ hK)) AllReadyH.nil)
def qT4_10 : Oper := { dst := some 25, op := Op.buildSlice 149 3 #[(0, Operand.tmp 18), (1, Operand.tmp 20), (2, Operand.tmp 24)], type := 149, pos := "l09_memory.go:44", after := #[{ on := 3, ground := Ground.data }, { on := 5, ground := Ground.data }, { on := 9, ground := Ground.data }], guard := none }
theorem hT4_10 : opsT4[10]? = some qT4_10 := by kernel_rfl
theorem lT4_10 : (LT4 10).setIfInBounds 10 true = LT4 11 := by kernel_rfl
set_option maxRecDepth 100000 in
theorem cT4_10 {Q : Exit → Act → World → Prop} {S : World → Prop} {a : Act} {w : World}
    (h : ∀ K' : Act → World → Prop, Shut (∀ a w, S w → (S w → wpAnyH Try.prog .any opsT4 Q S 2 (LT4 11) a w) → K' a w) → if Region.wanted qT4_10 (yielded opsT4 a.tmps) = true then Oper.wp Try.prog qT4_10 a w K' Q else K' (a.put (some 25) undef) w) :
    wpAnyH Try.prog .any opsT4 Q S 3 (LT4 10) a w :=
  wpAnyH_ready (rs := [10]) (by kernel_rfl) (by simp) (AllReadyH.cons hT4_10 (fun K' hK => h K' (lT4_10 ▸ hK)) AllReadyH.nil)
def qT4_11 : Oper := { dst := some 26, op := Op.call { callee := Callee.value (Operand.func 116), args := #[Operand.tmp 25], argTypes := #[149] }, type := 27, pos := "l09_memory.go:44", after := #[{ on := 10, ground := Ground.data }], guard := none }
theorem hT4_11 : opsT4[11]? = some qT4_11 := by kernel_rfl
theorem lT4_11 : (LT4 11).setIfInBounds 11 true = LT4 12 := by kernel_rfl
set_option maxRecDepth 100000 in
theorem cT4_11 {Q : Exit → Act → World → Prop} {S : World → Prop} {a : Act} {w : World}
    (h : ∀ K' : Act → World → Prop, Shut (∀ a w, S w → (S w → wpAnyH Try.prog .any opsT4 Q S 1 (LT4 12) a w) → K' a w) → if Region.wanted qT4_11 (yielded opsT4 a.tmps) = true then Oper.wp Try.prog qT4_11 a w K' Q else K' (a.put (some 26) undef) w) :
    wpAnyH Try.prog .any opsT4 Q S 2 (LT4 11) a w :=
  wpAnyH_ready (rs := [11]) (by kernel_rfl) (by simp) (AllReadyH.cons hT4_11 (fun K' hK => h K' (lT4_11 ▸ hK)) AllReadyH.nil)
def qT4_12 : Oper := { dst := some 4, op := Op.assign (Operand.tmp 26), type := 27, pos := "l09_memory.go:44", after := #[{ on := 11, ground := Ground.data }, { on := 11, ground := Ground.chain }, { on := 0, ground := Ground.phase }, { on := 1, ground := Ground.phase }, { on := 2, ground := Ground.phase }, { on := 3, ground := Ground.phase }, { on := 4, ground := Ground.phase }, { on := 5, ground := Ground.phase }, { on := 6, ground := Ground.phase }, { on := 7, ground := Ground.phase }, { on := 8, ground := Ground.phase }, { on := 9, ground := Ground.phase }, { on := 10, ground := Ground.phase }, { on := 11, ground := Ground.phase }], guard := none }
theorem hT4_12 : opsT4[12]? = some qT4_12 := by kernel_rfl
theorem lT4_12 : (LT4 12).setIfInBounds 12 true = LT4 13 := by kernel_rfl
theorem tT4_12 {Q : Exit → Act → World → Prop} {S : World → Prop} {a : Act} {w : World} (v : Value) (hQ : ∀ c a w, Q (.panic c) (a.put (some 4) v) w → Q (.panic c) a w) (hy : YieldsIf Try.prog opsT4 S qT4_12 v a) (hS : S w)
    (h : wpAnyH Try.prog .any opsT4 Q S 0 (LT4 13) (a.put (some 4) v) w) : wpAnyH Try.prog .any opsT4 Q S 1 (LT4 12) a w :=
  wpAnyH_take (i := 12) hT4_12 noselT4 (by kernel_rfl) (by kernel_rfl) hQ hy hS (lT4_12.symm ▸ h)
end Go.Proofs.Ytlanmkimaambgaa.hexes

