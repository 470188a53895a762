/-
  A statement of impl.tableOf: its operations, and a theorem a step.
-/
import Derived.Test.YtdmbkjebagnloaaGreatDoorProg
import Derived.WalkKit
import Derived.Deep.RegionHeld3
namespace Go.Proofs.YtdmbkjebagnloaaGreatDoor.hexes
open Go.RowKit

def findT5 (n : Nat) : Code → Option Code
  | .region id ops d => if id = n then some (.region id ops d) else none
  | .seq a b => match findT5 n a with
    | some c => some c
    | none => findT5 n b
  | .block _ c => findT5 n c
  | .scope c => findT5 n c
  | .loop c => findT5 n c
  | .cond _ a b => match findT5 n a with
    | some c => some c
    | none => findT5 n b
  | _ => none
def opsOfT5 : Option Code → Array Oper
  | some (.region _ ops _) => ops
  | _ => #[]
noncomputable def opsT5 : Array Oper := opsOfT5 (Tryz.f46.body.bind (findT5 5))
def schT5 : List Nat := [0, 1, 2, 3, 4, 5, 6, 7, 8]
def LT5 (k : Nat) : Array Bool := ((List.range 9).map fun i => (schT5.take k).contains i).toArray
theorem noselT5 : Region.noSelect opsT5 = true := by kernel_rfl
def qT5_0 : Oper := { dst := some 17, op := Op.move (Operand.tmp 3), type := 44, pos := "l04_counts.go:93", after := #[], guard := none }
theorem hT5_0 : opsT5[0]? = some qT5_0 := by kernel_rfl
theorem lT5_0 : (LT5 0).setIfInBounds 0 true = LT5 1 := by kernel_rfl
theorem tT5_0 {Q : Exit → Act → World → Prop} {S : World → Prop} {a : Act} {w : World} (v : Value) (hQ : ∀ c a w, Q (.panic c) (a.put (some 17) v) w → Q (.panic c) a w) (hy : YieldsIf Tryz.prog opsT5 S qT5_0 v a) (hS : S w)
    (h : wpAnyH Tryz.prog .any opsT5 Q S 8 (LT5 1) (a.put (some 17) v) w) : wpAnyH Tryz.prog .any opsT5 Q S 9 (LT5 0) a w :=
  wpAnyH_take (i := 0) hT5_0 noselT5 (by kernel_rfl) (by kernel_rfl) hQ hy hS (lT5_0.symm ▸ h)
def qT5_1 : Oper := { dst := some 18, op := Op.load 30 (Operand.tmp 5), type := 30, pos := "l04_counts.go:93", after := #[], guard := none }
theorem hT5_1 : opsT5[1]? = some qT5_1 := by kernel_rfl
theorem lT5_1 : (LT5 1).setIfInBounds 1 true = LT5 2 := by kernel_rfl
theorem tT5_1 {Q : Exit → Act → World → Prop} {S : World → Prop} {a : Act} {w : World} (v : Value) (hQ : ∀ c a w, Q (.panic c) (a.put (some 18) v) w → Q (.panic c) a w) (hy : YieldsIf Tryz.prog opsT5 S qT5_1 v a) (hS : S w)
    (h : wpAnyH Tryz.prog .any opsT5 Q S 7 (LT5 2) (a.put (some 18) v) w) : wpAnyH Tryz.prog .any opsT5 Q S 8 (LT5 1) a w :=
  wpAnyH_take (i := 1) hT5_1 noselT5 (by kernel_rfl) (by kernel_rfl) hQ hy hS (lT5_1.symm ▸ h)
def qT5_2 : Oper := { dst := some 19, op := Op.move (Operand.tmp 0), type := 65, pos := "l04_counts.go:93", after := #[], guard := none }
theorem hT5_2 : opsT5[2]? = some qT5_2 := by kernel_rfl
theorem lT5_2 : (LT5 2).setIfInBounds 2 true = LT5 3 := by kernel_rfl
theorem tT5_2 {Q : Exit → Act → World → Prop} {S : World → Prop} {a : Act} {w : World} (v : Value) (hQ : ∀ c a w, Q (.panic c) (a.put (some 19) v) w → Q (.panic c) a w) (hy : YieldsIf Tryz.prog opsT5 S qT5_2 v a) (hS : S w)
    (h : wpAnyH Tryz.prog .any opsT5 Q S 6 (LT5 3) (a.put (some 19) v) w) : wpAnyH Tryz.prog .any opsT5 Q S 7 (LT5 2) a w :=
  wpAnyH_take (i := 2) hT5_2 noselT5 (by kernel_rfl) (by kernel_rfl) hQ hy hS (lT5_2.symm ▸ h)
def qT5_3 : Oper := { dst := some 20, op := Op.load 30 (Operand.tmp 5), type := 30, pos := "l04_counts.go:93", after := #[], guard := none }
theorem hT5_3 : opsT5[3]? = some qT5_3 := by kernel_rfl
theorem lT5_3 : (LT5 3).setIfInBounds 3 true = LT5 4 := by kernel_rfl
theorem tT5_3 {Q : Exit → Act → World → Prop} {S : World → Prop} {a : Act} {w : World} (v : Value) (hQ : ∀ c a w, Q (.panic c) (a.put (some 20) v) w → Q (.panic c) a w) (hy : YieldsIf Tryz.prog opsT5 S qT5_3 v a) (hS : S w)
    (h : wpAnyH Tryz.prog .any opsT5 Q S 5 (LT5 4) (a.put (some 20) v) w) : wpAnyH Tryz.prog .any opsT5 Q S 6 (LT5 3) a w :=
  wpAnyH_take (i := 3) hT5_3 noselT5 (by kernel_rfl) (by kernel_rfl) hQ hy hS (lT5_3.symm ▸ h)
def qT5_4 : Oper := { dst := some 21, op := Op.lookup 65 (Operand.tmp 19) (Operand.tmp 20) false, type := 3, pos := "l04_counts.go:93", after := #[{ on := 2, ground := Ground.data }, { on := 3, ground := Ground.data }], guard := none }
theorem hT5_4 : opsT5[4]? = some qT5_4 := by kernel_rfl
theorem lT5_4 : (LT5 4).setIfInBounds 4 true = LT5 5 := by kernel_rfl
theorem tT5_4 {Q : Exit → Act → World → Prop} {S : World → Prop} {a : Act} {w : World} (v : Value) (hQ : ∀ c a w, Q (.panic c) (a.put (some 21) v) w → Q (.panic c) a w) (hy : YieldsIf Tryz.prog opsT5 S qT5_4 v a) (hS : S w)
    (h : wpAnyH Tryz.prog .any opsT5 Q S 4 (LT5 5) (a.put (some 21) v) w) : wpAnyH Tryz.prog .any opsT5 Q S 5 (LT5 4) a w :=
  wpAnyH_take (i := 4) hT5_4 noselT5 (by kernel_rfl) (by kernel_rfl) hQ hy hS (lT5_4.symm ▸ h)
def qT5_5 : Oper := { dst := some 22, op := Op.build 64 #[(0, Operand.tmp 18), (1, Operand.tmp 21)], type := 64, pos := "l04_counts.go:93", after := #[{ on := 1, ground := Ground.data }, { on := 4, ground := Ground.data }], guard := none }
theorem hT5_5 : opsT5[5]? = some qT5_5 := by kernel_rfl
theorem lT5_5 : (LT5 5).setIfInBounds 5 true = LT5 6 := by kernel_rfl
theorem tT5_5 {Q : Exit → Act → World → Prop} {S : World → Prop} {a : Act} {w : World} (v : Value) (hQ : ∀ c a w, Q (.panic c) (a.put (some 22) v) w → Q (.panic c) a w) (hy : YieldsIf Tryz.prog opsT5 S qT5_5 v a) (hS : S w)
    (h : wpAnyH Tryz.prog .any opsT5 Q S 3 (LT5 6) (a.put (some 22) v) w) : wpAnyH Tryz.prog .any opsT5 Q S 4 (LT5 5) a w :=
  wpAnyH_take (i := 5) hT5_5 noselT5 (by kernel_rfl) (by kernel_rfl) hQ hy hS (lT5_5.symm ▸ h)
def qT5_6 : Oper := { dst := some 23, op := Op.buildSlice 44 1 #[(0, Operand.tmp 22)], type := 44, pos := "l04_counts.go:93", after := #[{ on := 5, ground := Ground.data }], guard := none }
theorem hT5_6 : opsT5[6]? = some qT5_6 := by kernel_rfl
theorem lT5_6 : (LT5 6).setIfInBounds 6 true = LT5 7 := by kernel_rfl
set_option maxRecDepth 100000 in
theorem cT5_6 {Q : Exit → Act → World → Prop} {S : World → Prop} {a : Act} {w : World}
    (h : ∀ K' : Act → World → Prop, Shut (∀ a w, S w → (S w → wpAnyH Tryz.prog .any opsT5 Q S 2 (LT5 7) a w) → K' a w) → if Region.wanted qT5_6 (yielded opsT5 a.tmps) = true then Oper.wp Tryz.prog qT5_6 a w K' Q else K' (a.put (some 23) undef) w) :
    wpAnyH Tryz.prog .any opsT5 Q S 3 (LT5 6) a w :=
  wpAnyH_ready (rs := [6]) (by kernel_rfl) (by simp) (AllReadyH.cons hT5_6 (fun K' hK => h K' (lT5_6 ▸ hK)) AllReadyH.nil)
theorem tT5_6 {Q : Exit → Act → World → Prop} {S : World → Prop} {a : Act} {w : World} (v : Value) (hQ : ∀ c a w, Q (.panic c) (a.put (some 23) v) w → Q (.panic c) a w) (hy : YieldsIf Tryz.prog opsT5 S qT5_6 v a) (hS : S w)
    (h : wpAnyH Tryz.prog .any opsT5 Q S 2 (LT5 7) (a.put (some 23) v) w) : wpAnyH Tryz.prog .any opsT5 Q S 3 (LT5 6) a w :=
  wpAnyH_take (i := 6) hT5_6 noselT5 (by kernel_rfl) (by kernel_rfl) hQ hy hS (lT5_6.symm ▸ h)
def qT5_7 : Oper := { dst := some 24, op := Op.call { callee := Callee.builtin Builtin.append, args := #[Operand.tmp 17, Operand.tmp 23], argTypes := #[44, 44] }, type := 44, pos := "l04_counts.go:93", after := #[{ on := 0, ground := Ground.data }, { on := 6, ground := Ground.data }], guard := none }
theorem hT5_7 : opsT5[7]? = some qT5_7 := by kernel_rfl
theorem lT5_7 : (LT5 7).setIfInBounds 7 true = LT5 8 := by kernel_rfl
set_option maxRecDepth 100000 in
theorem cT5_7 {Q : Exit → Act → World → Prop} {S : World → Prop} {a : Act} {w : World}
    (h : ∀ K' : Act → World → Prop, Shut (∀ a w, S w → (S w → wpAnyH Tryz.prog .any opsT5 Q S 1 (LT5 8) a w) → K' a w) → if Region.wanted qT5_7 (yielded opsT5 a.tmps) = true then Oper.wp Tryz.prog qT5_7 a w K' Q else K' (a.put (some 24) undef) w) :
    wpAnyH Tryz.prog .any opsT5 Q S 2 (LT5 7) a w :=
  wpAnyH_ready (rs := [7]) (by kernel_rfl) (by simp) (AllReadyH.cons hT5_7 (fun K' hK => h K' (lT5_7 ▸ hK)) AllReadyH.nil)
theorem tT5_7 {Q : Exit → Act → World → Prop} {S : World → Prop} {a : Act} {w : World} (v : Value) (hQ : ∀ c a w, Q (.panic c) (a.put (some 24) v) w → Q (.panic c) a w) (hy : YieldsIf Tryz.prog opsT5 S qT5_7 v a) (hS : S w)
    (h : wpAnyH Tryz.prog .any opsT5 Q S 1 (LT5 8) (a.put (some 24) v) w) : wpAnyH Tryz.prog .any opsT5 Q S 2 (LT5 7) a w :=
  wpAnyH_take (i := 7) hT5_7 noselT5 (by kernel_rfl) (by kernel_rfl) hQ hy hS (lT5_7.symm ▸ h)
def qT5_8 : Oper := { dst := some 3, op := Op.assign (Operand.tmp 24), type := 44, pos := "l04_counts.go:93", after := #[{ on := 7, ground := Ground.data }, { on := 7, ground := Ground.chain }, { on := 0, ground := Ground.phase }, { on := 1, ground := Ground.phase }, { on := 2, ground := Ground.phase }, { on := 3, ground := Ground.phase }, { on := 4, ground := Ground.phase }, { on := 5, ground := Ground.phase }, { on := 6, ground := Ground.phase }, { on := 7, ground := Ground.phase }], guard := none }
theorem hT5_8 : opsT5[8]? = some qT5_8 := by kernel_rfl
theorem lT5_8 : (LT5 8).setIfInBounds 8 true = LT5 9 := by kernel_rfl
theorem tT5_8 {Q : Exit → Act → World → Prop} {S : World → Prop} {a : Act} {w : World} (v : Value) (hQ : ∀ c a w, Q (.panic c) (a.put (some 3) v) w → Q (.panic c) a w) (hy : YieldsIf Tryz.prog opsT5 S qT5_8 v a) (hS : S w)
    (h : wpAnyH Tryz.prog .any opsT5 Q S 0 (LT5 9) (a.put (some 3) v) w) : wpAnyH Tryz.prog .any opsT5 Q S 1 (LT5 8) a w :=
  wpAnyH_take (i := 8) hT5_8 noselT5 (by kernel_rfl) (by kernel_rfl) hQ hy hS (lT5_8.symm ▸ h)
end Go.Proofs.YtdmbkjebagnloaaGreatDoor.hexes
