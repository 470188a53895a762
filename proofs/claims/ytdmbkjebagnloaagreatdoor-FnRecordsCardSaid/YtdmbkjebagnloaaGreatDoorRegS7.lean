/-
  A statement of spec.SortRecords: its operations, and a theorem a step.
-/
import Derived.Test.YtdmbkjebagnloaaGreatDoorProg
import Derived.WalkKit
import Derived.Deep.RegionHeld3
namespace Go.Proofs.YtdmbkjebagnloaaGreatDoor.hexes
open Go.RowKit

def findS7 (n : Nat) : Code → Option Code
  | .region id ops d => if id = n then some (.region id ops d) else none
  | .seq a b => match findS7 n a with
    | some c => some c
    | none => findS7 n b
  | .block _ c => findS7 n c
  | .scope c => findS7 n c
  | .loop c => findS7 n c
  | .cond _ a b => match findS7 n a with
    | some c => some c
    | none => findS7 n b
  | _ => none
def opsOfS7 : Option Code → Array Oper
  | some (.region _ ops _) => ops
  | _ => #[]
noncomputable def opsS7 : Array Oper := opsOfS7 (Tryz.f8.body.bind (findS7 7))
def schS7 : List Nat := [0, 1, 2, 3, 4, 5, 6, 7, 8, 9, 10, 11]
def LS7 (k : Nat) : Array Bool := ((List.range 12).map fun i => (schS7.take k).contains i).toArray
theorem noselS7 : Region.noSelect opsS7 = true := by kernel_rfl
def qS7_0 : Oper := { dst := some 21, op := Op.move (Operand.tmp 6), type := 3, pos := "l05_records.go:24", after := #[], guard := none }
theorem hS7_0 : opsS7[0]? = some qS7_0 := by kernel_rfl
theorem lS7_0 : (LS7 0).setIfInBounds 0 true = LS7 1 := by kernel_rfl
theorem tS7_0 {Q : Exit → Act → World → Prop} {S : World → Prop} {a : Act} {w : World} (v : Value) (hQ : ∀ c a w, Q (.panic c) (a.put (some 21) v) w → Q (.panic c) a w) (hy : YieldsIf Tryz.prog opsS7 S qS7_0 v a) (hS : S w)
    (h : wpAnyH Tryz.prog .any opsS7 Q S 11 (LS7 1) (a.put (some 21) v) w) : wpAnyH Tryz.prog .any opsS7 Q S 12 (LS7 0) a w :=
  wpAnyH_take (i := 0) hS7_0 noselS7 (by kernel_rfl) (by kernel_rfl) hQ hy hS (lS7_0.symm ▸ h)
def qS7_1 : Oper := { dst := some 22, op := Op.binOp BinOp.gtr 3 (Operand.tmp 21) (Operand.const (Value.int IntKind.i64 0)) 3, type := 4, pos := "l05_records.go:24", after := #[{ on := 0, ground := Ground.data }], guard := none }
theorem hS7_1 : opsS7[1]? = some qS7_1 := by kernel_rfl
theorem lS7_1 : (LS7 1).setIfInBounds 1 true = LS7 2 := by kernel_rfl
theorem tS7_1 {Q : Exit → Act → World → Prop} {S : World → Prop} {a : Act} {w : World} (v : Value) (hQ : ∀ c a w, Q (.panic c) (a.put (some 22) v) w → Q (.panic c) a w) (hy : YieldsIf Tryz.prog opsS7 S qS7_1 v a) (hS : S w)
    (h : wpAnyH Tryz.prog .any opsS7 Q S 10 (LS7 2) (a.put (some 22) v) w) : wpAnyH Tryz.prog .any opsS7 Q S 11 (LS7 1) a w :=
  wpAnyH_take (i := 1) hS7_1 noselS7 (by kernel_rfl) (by kernel_rfl) hQ hy hS (lS7_1.symm ▸ h)
def qS7_2 : Oper := { dst := some 23, op := Op.move (Operand.tmp 22), type := 4, pos := "l05_records.go:24", after := #[{ on := 1, ground := Ground.data }], guard := none }
theorem hS7_2 : opsS7[2]? = some qS7_2 := by kernel_rfl
theorem lS7_2 : (LS7 2).setIfInBounds 2 true = LS7 3 := by kernel_rfl
theorem tS7_2 {Q : Exit → Act → World → Prop} {S : World → Prop} {a : Act} {w : World} (v : Value) (hQ : ∀ c a w, Q (.panic c) (a.put (some 23) v) w → Q (.panic c) a w) (hy : YieldsIf Tryz.prog opsS7 S qS7_2 v a) (hS : S w)
    (h : wpAnyH Tryz.prog .any opsS7 Q S 9 (LS7 3) (a.put (some 23) v) w) : wpAnyH Tryz.prog .any opsS7 Q S 10 (LS7 2) a w :=
  wpAnyH_take (i := 2) hS7_2 noselS7 (by kernel_rfl) (by kernel_rfl) hQ hy hS (lS7_2.symm ▸ h)
def qS7_3 : Oper := { dst := some 24, op := Op.load 32 (Operand.tmp 5), type := 32, pos := "l05_records.go:24", after := #[{ on := 2, ground := Ground.guard }], guard := some (2, true) }
theorem hS7_3 : opsS7[3]? = some qS7_3 := by kernel_rfl
theorem lS7_3 : (LS7 3).setIfInBounds 3 true = LS7 4 := by kernel_rfl
theorem tS7_3 {Q : Exit → Act → World → Prop} {S : World → Prop} {a : Act} {w : World} (v : Value) (hQ : ∀ c a w, Q (.panic c) (a.put (some 24) v) w → Q (.panic c) a w) (hy : YieldsIf Tryz.prog opsS7 S qS7_3 v a) (hS : S w)
    (h : wpAnyH Tryz.prog .any opsS7 Q S 8 (LS7 4) (a.put (some 24) v) w) : wpAnyH Tryz.prog .any opsS7 Q S 9 (LS7 3) a w :=
  wpAnyH_take (i := 3) hS7_3 noselS7 (by kernel_rfl) (by kernel_rfl) hQ hy hS (lS7_3.symm ▸ h)
def qS7_4 : Oper := { dst := some 25, op := Op.move (Operand.tmp 3), type := 24, pos := "l05_records.go:24", after := #[{ on := 2, ground := Ground.guard }], guard := some (2, true) }
theorem hS7_4 : opsS7[4]? = some qS7_4 := by kernel_rfl
theorem lS7_4 : (LS7 4).setIfInBounds 4 true = LS7 5 := by kernel_rfl
theorem tS7_4 {Q : Exit → Act → World → Prop} {S : World → Prop} {a : Act} {w : World} (v : Value) (hQ : ∀ c a w, Q (.panic c) (a.put (some 25) v) w → Q (.panic c) a w) (hy : YieldsIf Tryz.prog opsS7 S qS7_4 v a) (hS : S w)
    (h : wpAnyH Tryz.prog .any opsS7 Q S 7 (LS7 5) (a.put (some 25) v) w) : wpAnyH Tryz.prog .any opsS7 Q S 8 (LS7 4) a w :=
  wpAnyH_take (i := 4) hS7_4 noselS7 (by kernel_rfl) (by kernel_rfl) hQ hy hS (lS7_4.symm ▸ h)
def qS7_5 : Oper := { dst := some 26, op := Op.move (Operand.tmp 6), type := 3, pos := "l05_records.go:24", after := #[{ on := 2, ground := Ground.guard }], guard := some (2, true) }
theorem hS7_5 : opsS7[5]? = some qS7_5 := by kernel_rfl
theorem lS7_5 : (LS7 5).setIfInBounds 5 true = LS7 6 := by kernel_rfl
theorem tS7_5 {Q : Exit → Act → World → Prop} {S : World → Prop} {a : Act} {w : World} (v : Value) (hQ : ∀ c a w, Q (.panic c) (a.put (some 26) v) w → Q (.panic c) a w) (hy : YieldsIf Tryz.prog opsS7 S qS7_5 v a) (hS : S w)
    (h : wpAnyH Tryz.prog .any opsS7 Q S 6 (LS7 6) (a.put (some 26) v) w) : wpAnyH Tryz.prog .any opsS7 Q S 7 (LS7 5) a w :=
  wpAnyH_take (i := 5) hS7_5 noselS7 (by kernel_rfl) (by kernel_rfl) hQ hy hS (lS7_5.symm ▸ h)
def qS7_6 : Oper := { dst := some 27, op := Op.binOp BinOp.sub 3 (Operand.tmp 26) (Operand.const (Value.int IntKind.i64 1)) 3, type := 3, pos := "l05_records.go:24", after := #[{ on := 5, ground := Ground.data }, { on := 2, ground := Ground.guard }], guard := some (2, true) }
theorem hS7_6 : opsS7[6]? = some qS7_6 := by kernel_rfl
theorem lS7_6 : (LS7 6).setIfInBounds 6 true = LS7 7 := by kernel_rfl
theorem tS7_6 {Q : Exit → Act → World → Prop} {S : World → Prop} {a : Act} {w : World} (v : Value) (hQ : ∀ c a w, Q (.panic c) (a.put (some 27) v) w → Q (.panic c) a w) (hy : YieldsIf Tryz.prog opsS7 S qS7_6 v a) (hS : S w)
    (h : wpAnyH Tryz.prog .any opsS7 Q S 5 (LS7 7) (a.put (some 27) v) w) : wpAnyH Tryz.prog .any opsS7 Q S 6 (LS7 6) a w :=
  wpAnyH_take (i := 6) hS7_6 noselS7 (by kernel_rfl) (by kernel_rfl) hQ hy hS (lS7_6.symm ▸ h)
def qS7_7 : Oper := { dst := some 28, op := Op.indexAddr 24 (Operand.tmp 25) (Operand.tmp 27), type := 0, pos := "l05_records.go:24", after := #[{ on := 4, ground := Ground.data }, { on := 6, ground := Ground.data }, { on := 2, ground := Ground.guard }], guard := some (2, true) }
theorem hS7_7 : opsS7[7]? = some qS7_7 := by kernel_rfl
theorem lS7_7 : (LS7 7).setIfInBounds 7 true = LS7 8 := by kernel_rfl
theorem tS7_7 {Q : Exit → Act → World → Prop} {S : World → Prop} {a : Act} {w : World} (v : Value) (hQ : ∀ c a w, Q (.panic c) (a.put (some 28) v) w → Q (.panic c) a w) (hy : YieldsIf Tryz.prog opsS7 S qS7_7 v a) (hS : S w)
    (h : wpAnyH Tryz.prog .any opsS7 Q S 4 (LS7 8) (a.put (some 28) v) w) : wpAnyH Tryz.prog .any opsS7 Q S 5 (LS7 7) a w :=
  wpAnyH_take (i := 7) hS7_7 noselS7 (by kernel_rfl) (by kernel_rfl) hQ hy hS (lS7_7.symm ▸ h)
def qS7_8 : Oper := { dst := some 29, op := Op.load 32 (Operand.tmp 28), type := 32, pos := "l05_records.go:24", after := #[{ on := 7, ground := Ground.data }, { on := 2, ground := Ground.guard }], guard := some (2, true) }
theorem hS7_8 : opsS7[8]? = some qS7_8 := by kernel_rfl
theorem lS7_8 : (LS7 8).setIfInBounds 8 true = LS7 9 := by kernel_rfl
theorem tS7_8 {Q : Exit → Act → World → Prop} {S : World → Prop} {a : Act} {w : World} (v : Value) (hQ : ∀ c a w, Q (.panic c) (a.put (some 29) v) w → Q (.panic c) a w) (hy : YieldsIf Tryz.prog opsS7 S qS7_8 v a) (hS : S w)
    (h : wpAnyH Tryz.prog .any opsS7 Q S 3 (LS7 9) (a.put (some 29) v) w) : wpAnyH Tryz.prog .any opsS7 Q S 4 (LS7 8) a w :=
  wpAnyH_take (i := 8) hS7_8 noselS7 (by kernel_rfl) (by kernel_rfl) hQ hy hS (lS7_8.symm ▸ h)
def qS7_9 : Oper := { dst := some 30, op := Op.call { callee := Callee.value (Operand.func 20), args := #[Operand.tmp 24, Operand.tmp 29], argTypes := #[32, 32] }, type := 3, pos := "l05_records.go:24", after := #[{ on := 3, ground := Ground.data }, { on := 8, ground := Ground.data }, { on := 2, ground := Ground.chain }, { on := 2, ground := Ground.guard }], guard := some (2, true) }
theorem hS7_9 : opsS7[9]? = some qS7_9 := by kernel_rfl
theorem lS7_9 : (LS7 9).setIfInBounds 9 true = LS7 10 := by kernel_rfl
set_option maxRecDepth 100000 in
theorem cS7_9 {Q : Exit → Act → World → Prop} {S : World → Prop} {a : Act} {w : World}
    (h : ∀ K' : Act → World → Prop, Shut (∀ a w, S w → (S w → wpAnyH Tryz.prog .any opsS7 Q S 2 (LS7 10) a w) → K' a w) → if Region.wanted qS7_9 (yielded opsS7 a.tmps) = true then Oper.wp Tryz.prog qS7_9 a w K' Q else K' (a.put (some 30) undef) w) :
    wpAnyH Tryz.prog .any opsS7 Q S 3 (LS7 9) a w :=
  wpAnyH_ready (rs := [9]) (by kernel_rfl) (by simp) (AllReadyH.cons hS7_9 (fun K' hK => h K' (lS7_9 ▸ hK)) AllReadyH.nil)
theorem tS7_9 {Q : Exit → Act → World → Prop} {S : World → Prop} {a : Act} {w : World} (v : Value) (hQ : ∀ c a w, Q (.panic c) (a.put (some 30) v) w → Q (.panic c) a w) (hy : YieldsIf Tryz.prog opsS7 S qS7_9 v a) (hS : S w)
    (h : wpAnyH Tryz.prog .any opsS7 Q S 2 (LS7 10) (a.put (some 30) v) w) : wpAnyH Tryz.prog .any opsS7 Q S 3 (LS7 9) a w :=
  wpAnyH_take (i := 9) hS7_9 noselS7 (by kernel_rfl) (by kernel_rfl) hQ hy hS (lS7_9.symm ▸ h)
def qS7_10 : Oper := { dst := some 31, op := Op.binOp BinOp.lss 3 (Operand.tmp 30) (Operand.const (Value.int IntKind.i64 0)) 3, type := 4, pos := "l05_records.go:24", after := #[{ on := 9, ground := Ground.data }, { on := 2, ground := Ground.guard }], guard := some (2, true) }
theorem hS7_10 : opsS7[10]? = some qS7_10 := by kernel_rfl
theorem lS7_10 : (LS7 10).setIfInBounds 10 true = LS7 11 := by kernel_rfl
theorem tS7_10 {Q : Exit → Act → World → Prop} {S : World → Prop} {a : Act} {w : World} (v : Value) (hQ : ∀ c a w, Q (.panic c) (a.put (some 31) v) w → Q (.panic c) a w) (hy : YieldsIf Tryz.prog opsS7 S qS7_10 v a) (hS : S w)
    (h : wpAnyH Tryz.prog .any opsS7 Q S 1 (LS7 11) (a.put (some 31) v) w) : wpAnyH Tryz.prog .any opsS7 Q S 2 (LS7 10) a w :=
  wpAnyH_take (i := 10) hS7_10 noselS7 (by kernel_rfl) (by kernel_rfl) hQ hy hS (lS7_10.symm ▸ h)
def qS7_11 : Oper := { dst := some 32, op := Op.pick (Operand.tmp 23) (Operand.tmp 31) (Operand.const (Value.bool false)), type := 4, pos := "l05_records.go:24", after := #[{ on := 2, ground := Ground.data }, { on := 10, ground := Ground.data }], guard := none }
theorem hS7_11 : opsS7[11]? = some qS7_11 := by kernel_rfl
theorem lS7_11 : (LS7 11).setIfInBounds 11 true = LS7 12 := by kernel_rfl
theorem tS7_11 {Q : Exit → Act → World → Prop} {S : World → Prop} {a : Act} {w : World} (v : Value) (hQ : ∀ c a w, Q (.panic c) (a.put (some 32) v) w → Q (.panic c) a w) (hy : YieldsIf Tryz.prog opsS7 S qS7_11 v a) (hS : S w)
    (h : wpAnyH Tryz.prog .any opsS7 Q S 0 (LS7 12) (a.put (some 32) v) w) : wpAnyH Tryz.prog .any opsS7 Q S 1 (LS7 11) a w :=
  wpAnyH_take (i := 11) hS7_11 noselS7 (by kernel_rfl) (by kernel_rfl) hQ hy hS (lS7_11.symm ▸ h)
end Go.Proofs.YtdmbkjebagnloaaGreatDoor.hexes
