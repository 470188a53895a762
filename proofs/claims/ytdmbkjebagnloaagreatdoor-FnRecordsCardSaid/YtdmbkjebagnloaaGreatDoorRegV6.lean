/-
  A statement of impl.CountsOfRecords: its operations, and a theorem a step.
-/
import Derived.Test.YtdmbkjebagnloaaGreatDoorProg
import Derived.WalkKit
import Derived.Deep.RegionHeld3
namespace Go.Proofs.YtdmbkjebagnloaaGreatDoor.hexes
open Go.RowKit

def findV6 (n : Nat) : Code → Option Code
  | .region id ops d => if id = n then some (.region id ops d) else none
  | .seq a b => match findV6 n a with
    | some c => some c
    | none => findV6 n b
  | .block _ c => findV6 n c
  | .scope c => findV6 n c
  | .loop c => findV6 n c
  | .cond _ a b => match findV6 n a with
    | some c => some c
    | none => findV6 n b
  | _ => none
def opsOfV6 : Option Code → Array Oper
  | some (.region _ ops _) => ops
  | _ => #[]
noncomputable def opsV6 : Array Oper := opsOfV6 (Tryz.f24.body.bind (findV6 6))
def schV6 : List Nat := [0, 1, 2, 3, 4, 5, 6, 7]
def LV6 (k : Nat) : Array Bool := ((List.range 8).map fun i => (schV6.take k).contains i).toArray
theorem noselV6 : Region.noSelect opsV6 = true := by kernel_rfl
def qV6_0 : Oper := { dst := some 16, op := Op.move (Operand.tmp 3), type := 65, pos := "l05_records.go:72", after := #[], guard := none }
theorem hV6_0 : opsV6[0]? = some qV6_0 := by kernel_rfl
def qV6_1 : Oper := { dst := some 17, op := Op.fieldAddr 32 (Operand.tmp 5) 1, type := 0, pos := "l05_records.go:72", after := #[], guard := none }
theorem hV6_1 : opsV6[1]? = some qV6_1 := by kernel_rfl
def qV6_2 : Oper := { dst := some 18, op := Op.load 30 (Operand.tmp 17), type := 30, pos := "l05_records.go:72", after := #[{ on := 1, ground := Ground.data }], guard := none }
theorem hV6_2 : opsV6[2]? = some qV6_2 := by kernel_rfl
def qV6_3 : Oper := { dst := some 19, op := Op.lookup 65 (Operand.tmp 16) (Operand.tmp 18) false, type := 3, pos := "l05_records.go:72", after := #[{ on := 0, ground := Ground.data }, { on := 2, ground := Ground.data }], guard := none }
theorem hV6_3 : opsV6[3]? = some qV6_3 := by kernel_rfl
def qV6_4 : Oper := { dst := some 20, op := Op.binOp BinOp.add 3 (Operand.tmp 19) (Operand.const (Value.int IntKind.i64 1)) 3, type := 3, pos := "l05_records.go:72", after := #[{ on := 3, ground := Ground.data }], guard := none }
theorem hV6_4 : opsV6[4]? = some qV6_4 := by kernel_rfl
def qV6_5 : Oper := { dst := some 21, op := Op.mapEntry 65 (Operand.tmp 16) (Operand.tmp 18), type := 0, pos := "l05_records.go:72", after := #[{ on := 0, ground := Ground.data }, { on := 2, ground := Ground.data }, { on := 0, ground := Ground.phase }, { on := 1, ground := Ground.phase }, { on := 2, ground := Ground.phase }, { on := 3, ground := Ground.textOnly Departure.mapOpAssignEntry }, { on := 4, ground := Ground.textOnly Departure.mapOpAssignEntry }], guard := none }
theorem hV6_5 : opsV6[5]? = some qV6_5 := by kernel_rfl
def qV6_6 : Oper := { dst := some 22, op := Op.extract (Operand.tmp 21) 1, type := 3, pos := "l05_records.go:72", after := #[{ on := 5, ground := Ground.data }], guard := none }
theorem hV6_6 : opsV6[6]? = some qV6_6 := by kernel_rfl
def qV6_7 : Oper := { dst := none, op := Op.entryStore 65 (Operand.tmp 16) (Operand.tmp 22) (Operand.tmp 20), type := 0, pos := "l05_records.go:72", after := #[{ on := 0, ground := Ground.data }, { on := 6, ground := Ground.data }, { on := 4, ground := Ground.data }, { on := 5, ground := Ground.chain }, { on := 0, ground := Ground.phase }, { on := 1, ground := Ground.phase }, { on := 2, ground := Ground.phase }, { on := 3, ground := Ground.phase }, { on := 4, ground := Ground.phase }, { on := 5, ground := Ground.phase }, { on := 6, ground := Ground.phase }], guard := none }
theorem hV6_7 : opsV6[7]? = some qV6_7 := by kernel_rfl
theorem tV6_e_0 {Q : Exit → Act → World → Prop} {S : World → Prop} {a : Act} {w : World} (v : Value) (hQ : ∀ c a w, Q (.panic c) (a.put (some 16) v) w → Q (.panic c) a w) (hy : YieldsIf Tryz.prog opsV6 S qV6_0 v a) (hS : S w)
    (h : wpAnyH Tryz.prog .any opsV6 Q S 7 (#[true, false, false, false, false, false, false, false] : Array Bool) (a.put (some 16) v) w) : wpAnyH Tryz.prog .any opsV6 Q S 8 (#[false, false, false, false, false, false, false, false] : Array Bool) a w :=
  wpAnyH_take (i := 0) hV6_0 noselV6 (by kernel_rfl) (by kernel_rfl) hQ hy hS ((show (#[false, false, false, false, false, false, false, false] : Array Bool).setIfInBounds 0 true = (#[true, false, false, false, false, false, false, false] : Array Bool) by kernel_rfl).symm ▸ h)
theorem tV6_0_1 {Q : Exit → Act → World → Prop} {S : World → Prop} {a : Act} {w : World} (v : Value) (hQ : ∀ c a w, Q (.panic c) (a.put (some 17) v) w → Q (.panic c) a w) (hy : YieldsIf Tryz.prog opsV6 S qV6_1 v a) (hS : S w)
    (h : wpAnyH Tryz.prog .any opsV6 Q S 6 (#[true, true, false, false, false, false, false, false] : Array Bool) (a.put (some 17) v) w) : wpAnyH Tryz.prog .any opsV6 Q S 7 (#[true, false, false, false, false, false, false, false] : Array Bool) a w :=
  wpAnyH_take (i := 1) hV6_1 noselV6 (by kernel_rfl) (by kernel_rfl) hQ hy hS ((show (#[true, false, false, false, false, false, false, false] : Array Bool).setIfInBounds 1 true = (#[true, true, false, false, false, false, false, false] : Array Bool) by kernel_rfl).symm ▸ h)
theorem tV6_01_2 {Q : Exit → Act → World → Prop} {S : World → Prop} {a : Act} {w : World} (v : Value) (hQ : ∀ c a w, Q (.panic c) (a.put (some 18) v) w → Q (.panic c) a w) (hy : YieldsIf Tryz.prog opsV6 S qV6_2 v a) (hS : S w)
    (h : wpAnyH Tryz.prog .any opsV6 Q S 5 (#[true, true, true, false, false, false, false, false] : Array Bool) (a.put (some 18) v) w) : wpAnyH Tryz.prog .any opsV6 Q S 6 (#[true, true, false, false, false, false, false, false] : Array Bool) a w :=
  wpAnyH_take (i := 2) hV6_2 noselV6 (by kernel_rfl) (by kernel_rfl) hQ hy hS ((show (#[true, true, false, false, false, false, false, false] : Array Bool).setIfInBounds 2 true = (#[true, true, true, false, false, false, false, false] : Array Bool) by kernel_rfl).symm ▸ h)
set_option maxRecDepth 100000 in
theorem cV6_012_35 {Q : Exit → Act → World → Prop} {S : World → Prop} {a : Act} {w : World}
    (h3 : ∀ K' : Act → World → Prop, Shut (∀ a w, S w → (S w → wpAnyH Tryz.prog .any opsV6 Q S 4 (#[true, true, true, true, false, false, false, false] : Array Bool) a w) → K' a w) → if Region.wanted qV6_3 (yielded opsV6 a.tmps) = true then Oper.wp Tryz.prog qV6_3 a w K' Q else K' (a.put (some 19) undef) w)
    (h5 : ∀ K' : Act → World → Prop, Shut (∀ a w, S w → (S w → wpAnyH Tryz.prog .any opsV6 Q S 4 (#[true, true, true, false, false, true, false, false] : Array Bool) a w) → K' a w) → if Region.wanted qV6_5 (yielded opsV6 a.tmps) = true then Oper.wp Tryz.prog qV6_5 a w K' Q else K' (a.put (some 21) undef) w) :
    wpAnyH Tryz.prog .any opsV6 Q S 5 (#[true, true, true, false, false, false, false, false] : Array Bool) a w :=
  wpAnyH_ready (rs := [3, 5]) (by kernel_rfl) (by simp) (AllReadyH.cons hV6_3 (fun K' hK => h3 K' ((show (#[true, true, true, false, false, false, false, false] : Array Bool).setIfInBounds 3 true = (#[true, true, true, true, false, false, false, false] : Array Bool) by kernel_rfl) ▸ hK)) (AllReadyH.cons hV6_5 (fun K' hK => h5 K' ((show (#[true, true, true, false, false, false, false, false] : Array Bool).setIfInBounds 5 true = (#[true, true, true, false, false, true, false, false] : Array Bool) by kernel_rfl) ▸ hK)) AllReadyH.nil))
theorem tV6_0123_4 {Q : Exit → Act → World → Prop} {S : World → Prop} {a : Act} {w : World} (v : Value) (hQ : ∀ c a w, Q (.panic c) (a.put (some 20) v) w → Q (.panic c) a w) (hy : YieldsIf Tryz.prog opsV6 S qV6_4 v a) (hS : S w)
    (h : wpAnyH Tryz.prog .any opsV6 Q S 3 (#[true, true, true, true, true, false, false, false] : Array Bool) (a.put (some 20) v) w) : wpAnyH Tryz.prog .any opsV6 Q S 4 (#[true, true, true, true, false, false, false, false] : Array Bool) a w :=
  wpAnyH_take (i := 4) hV6_4 noselV6 (by kernel_rfl) (by kernel_rfl) hQ hy hS ((show (#[true, true, true, true, false, false, false, false] : Array Bool).setIfInBounds 4 true = (#[true, true, true, true, true, false, false, false] : Array Bool) by kernel_rfl).symm ▸ h)
set_option maxRecDepth 100000 in
theorem cV6_01234_5 {Q : Exit → Act → World → Prop} {S : World → Prop} {a : Act} {w : World}
    (h5 : ∀ K' : Act → World → Prop, Shut (∀ a w, S w → (S w → wpAnyH Tryz.prog .any opsV6 Q S 2 (#[true, true, true, true, true, true, false, false] : Array Bool) a w) → K' a w) → if Region.wanted qV6_5 (yielded opsV6 a.tmps) = true then Oper.wp Tryz.prog qV6_5 a w K' Q else K' (a.put (some 21) undef) w) :
    wpAnyH Tryz.prog .any opsV6 Q S 3 (#[true, true, true, true, true, false, false, false] : Array Bool) a w :=
  wpAnyH_ready (rs := [5]) (by kernel_rfl) (by simp) (AllReadyH.cons hV6_5 (fun K' hK => h5 K' ((show (#[true, true, true, true, true, false, false, false] : Array Bool).setIfInBounds 5 true = (#[true, true, true, true, true, true, false, false] : Array Bool) by kernel_rfl) ▸ hK)) AllReadyH.nil)
theorem tV6_012345_6 {Q : Exit → Act → World → Prop} {S : World → Prop} {a : Act} {w : World} (v : Value) (hQ : ∀ c a w, Q (.panic c) (a.put (some 22) v) w → Q (.panic c) a w) (hy : YieldsIf Tryz.prog opsV6 S qV6_6 v a) (hS : S w)
    (h : wpAnyH Tryz.prog .any opsV6 Q S 1 (#[true, true, true, true, true, true, true, false] : Array Bool) (a.put (some 22) v) w) : wpAnyH Tryz.prog .any opsV6 Q S 2 (#[true, true, true, true, true, true, false, false] : Array Bool) a w :=
  wpAnyH_take (i := 6) hV6_6 noselV6 (by kernel_rfl) (by kernel_rfl) hQ hy hS ((show (#[true, true, true, true, true, true, false, false] : Array Bool).setIfInBounds 6 true = (#[true, true, true, true, true, true, true, false] : Array Bool) by kernel_rfl).symm ▸ h)
set_option maxRecDepth 100000 in
theorem cV6_0123456_7 {Q : Exit → Act → World → Prop} {S : World → Prop} {a : Act} {w : World}
    (h7 : ∀ K' : Act → World → Prop, Shut (∀ a w, S w → (S w → wpAnyH Tryz.prog .any opsV6 Q S 0 (#[true, true, true, true, true, true, true, true] : Array Bool) a w) → K' a w) → if Region.wanted qV6_7 (yielded opsV6 a.tmps) = true then Oper.wp Tryz.prog qV6_7 a w K' Q else K' (a.put (none) undef) w) :
    wpAnyH Tryz.prog .any opsV6 Q S 1 (#[true, true, true, true, true, true, true, false] : Array Bool) a w :=
  wpAnyH_ready (rs := [7]) (by kernel_rfl) (by simp) (AllReadyH.cons hV6_7 (fun K' hK => h7 K' ((show (#[true, true, true, true, true, true, true, false] : Array Bool).setIfInBounds 7 true = (#[true, true, true, true, true, true, true, true] : Array Bool) by kernel_rfl) ▸ hK)) AllReadyH.nil)
theorem tV6_0125_6 {Q : Exit → Act → World → Prop} {S : World → Prop} {a : Act} {w : World} (v : Value) (hQ : ∀ c a w, Q (.panic c) (a.put (some 22) v) w → Q (.panic c) a w) (hy : YieldsIf Tryz.prog opsV6 S qV6_6 v a) (hS : S w)
    (h : wpAnyH Tryz.prog .any opsV6 Q S 3 (#[true, true, true, false, false, true, true, false] : Array Bool) (a.put (some 22) v) w) : wpAnyH Tryz.prog .any opsV6 Q S 4 (#[true, true, true, false, false, true, false, false] : Array Bool) a w :=
  wpAnyH_take (i := 6) hV6_6 noselV6 (by kernel_rfl) (by kernel_rfl) hQ hy hS ((show (#[true, true, true, false, false, true, false, false] : Array Bool).setIfInBounds 6 true = (#[true, true, true, false, false, true, true, false] : Array Bool) by kernel_rfl).symm ▸ h)
set_option maxRecDepth 100000 in
theorem cV6_01256_3 {Q : Exit → Act → World → Prop} {S : World → Prop} {a : Act} {w : World}
    (h3 : ∀ K' : Act → World → Prop, Shut (∀ a w, S w → (S w → wpAnyH Tryz.prog .any opsV6 Q S 2 (#[true, true, true, true, false, true, true, false] : Array Bool) a w) → K' a w) → if Region.wanted qV6_3 (yielded opsV6 a.tmps) = true then Oper.wp Tryz.prog qV6_3 a w K' Q else K' (a.put (some 19) undef) w) :
    wpAnyH Tryz.prog .any opsV6 Q S 3 (#[true, true, true, false, false, true, true, false] : Array Bool) a w :=
  wpAnyH_ready (rs := [3]) (by kernel_rfl) (by simp) (AllReadyH.cons hV6_3 (fun K' hK => h3 K' ((show (#[true, true, true, false, false, true, true, false] : Array Bool).setIfInBounds 3 true = (#[true, true, true, true, false, true, true, false] : Array Bool) by kernel_rfl) ▸ hK)) AllReadyH.nil)
theorem tV6_012356_4 {Q : Exit → Act → World → Prop} {S : World → Prop} {a : Act} {w : World} (v : Value) (hQ : ∀ c a w, Q (.panic c) (a.put (some 20) v) w → Q (.panic c) a w) (hy : YieldsIf Tryz.prog opsV6 S qV6_4 v a) (hS : S w)
    (h : wpAnyH Tryz.prog .any opsV6 Q S 1 (#[true, true, true, true, true, true, true, false] : Array Bool) (a.put (some 20) v) w) : wpAnyH Tryz.prog .any opsV6 Q S 2 (#[true, true, true, true, false, true, true, false] : Array Bool) a w :=
  wpAnyH_take (i := 4) hV6_4 noselV6 (by kernel_rfl) (by kernel_rfl) hQ hy hS ((show (#[true, true, true, true, false, true, true, false] : Array Bool).setIfInBounds 4 true = (#[true, true, true, true, true, true, true, false] : Array Bool) by kernel_rfl).symm ▸ h)
end Go.Proofs.YtdmbkjebagnloaaGreatDoor.hexes
