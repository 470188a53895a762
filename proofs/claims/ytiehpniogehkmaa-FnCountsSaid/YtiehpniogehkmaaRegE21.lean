/-
  A statement of laws.FnCounts: its operations, and a theorem a step.
-/
import Derived.Test.YtiehpniogehkmaaProg
import Derived.WalkKit
import Derived.Deep.RegionHeld3
namespace Go.Proofs.Ytiehpniogehkmaa.hexes
open Go.RowKit

def findE21 (n : Nat) : Code → Option Code
  | .region id ops d => if id = n then some (.region id ops d) else none
  | .seq a b => match findE21 n a with
    | some c => some c
    | none => findE21 n b
  | .block _ c => findE21 n c
  | .scope c => findE21 n c
  | .loop c => findE21 n c
  | .cond _ a b => match findE21 n a with
    | some c => some c
    | none => findE21 n b
  | _ => none
def opsOfE21 : Option Code → Array Oper
  | some (.region _ ops _) => ops
  | _ => #[]
noncomputable def opsE21 : Array Oper := opsOfE21 (Try.f3.body.bind (findE21 21))
def schE21 : List Nat := [0, 1, 2, 3, 4, 5, 6, 7, 8, 10, 11, 13, 9, 12, 14, 15, 16, 17, 18, 20, 22, 19, 21, 23, 24, 25, 26, 27, 28, 29, 30, 32, 34, 31, 33, 35, 36, 37, 38, 39, 40]
def LE21 (k : Nat) : Array Bool := ((List.range 41).map fun i => (schE21.take k).contains i).toArray
theorem noselE21 : Region.noSelect opsE21 = true := by kernel_rfl
def qE21_0 : Oper := { dst := some 144, op := Op.move (Operand.tmp 22), type := 4, pos := "laws.go:281", after := #[], guard := none }
theorem hE21_0 : opsE21[0]? = some qE21_0 := by kernel_rfl
theorem lE21_0 : (LE21 0).setIfInBounds 0 true = LE21 1 := by kernel_rfl
theorem tE21_0 {Q : Exit → Act → World → Prop} {S : World → Prop} {a : Act} {w : World} (v : Value) (hQ : ∀ c a w, Q (.panic c) (a.put (some 144) v) w → Q (.panic c) a w) (hy : YieldsIf Try.prog opsE21 S qE21_0 v a) (hS : S w)
    (h : wpAnyH Try.prog .any opsE21 Q S 40 (LE21 1) (a.put (some 144) v) w) : wpAnyH Try.prog .any opsE21 Q S 41 (LE21 0) a w :=
  wpAnyH_take (i := 0) hE21_0 noselE21 (by kernel_rfl) (by kernel_rfl) hQ hy hS (lE21_0.symm ▸ h)
def qE21_1 : Oper := { dst := some 145, op := Op.move (Operand.tmp 144), type := 4, pos := "laws.go:281", after := #[{ on := 0, ground := Ground.data }], guard := none }
theorem hE21_1 : opsE21[1]? = some qE21_1 := by kernel_rfl
theorem lE21_1 : (LE21 1).setIfInBounds 1 true = LE21 2 := by kernel_rfl
theorem tE21_1 {Q : Exit → Act → World → Prop} {S : World → Prop} {a : Act} {w : World} (v : Value) (hQ : ∀ c a w, Q (.panic c) (a.put (some 145) v) w → Q (.panic c) a w) (hy : YieldsIf Try.prog opsE21 S qE21_1 v a) (hS : S w)
    (h : wpAnyH Try.prog .any opsE21 Q S 39 (LE21 2) (a.put (some 145) v) w) : wpAnyH Try.prog .any opsE21 Q S 40 (LE21 1) a w :=
  wpAnyH_take (i := 1) hE21_1 noselE21 (by kernel_rfl) (by kernel_rfl) hQ hy hS (lE21_1.symm ▸ h)
def qE21_2 : Oper := { dst := some 146, op := Op.move (Operand.tmp 21), type := 24, pos := "laws.go:281", after := #[{ on := 1, ground := Ground.guard }], guard := some (1, true) }
theorem hE21_2 : opsE21[2]? = some qE21_2 := by kernel_rfl
theorem lE21_2 : (LE21 2).setIfInBounds 2 true = LE21 3 := by kernel_rfl
theorem tE21_2 {Q : Exit → Act → World → Prop} {S : World → Prop} {a : Act} {w : World} (v : Value) (hQ : ∀ c a w, Q (.panic c) (a.put (some 146) v) w → Q (.panic c) a w) (hy : YieldsIf Try.prog opsE21 S qE21_2 v a) (hS : S w)
    (h : wpAnyH Try.prog .any opsE21 Q S 38 (LE21 3) (a.put (some 146) v) w) : wpAnyH Try.prog .any opsE21 Q S 39 (LE21 2) a w :=
  wpAnyH_take (i := 2) hE21_2 noselE21 (by kernel_rfl) (by kernel_rfl) hQ hy hS (lE21_2.symm ▸ h)
def qE21_3 : Oper := { dst := some 147, op := Op.move (Operand.tmp 3), type := 24, pos := "laws.go:281", after := #[{ on := 1, ground := Ground.guard }], guard := some (1, true) }
theorem hE21_3 : opsE21[3]? = some qE21_3 := by kernel_rfl
theorem lE21_3 : (LE21 3).setIfInBounds 3 true = LE21 4 := by kernel_rfl
theorem tE21_3 {Q : Exit → Act → World → Prop} {S : World → Prop} {a : Act} {w : World} (v : Value) (hQ : ∀ c a w, Q (.panic c) (a.put (some 147) v) w → Q (.panic c) a w) (hy : YieldsIf Try.prog opsE21 S qE21_3 v a) (hS : S w)
    (h : wpAnyH Try.prog .any opsE21 Q S 37 (LE21 4) (a.put (some 147) v) w) : wpAnyH Try.prog .any opsE21 Q S 38 (LE21 3) a w :=
  wpAnyH_take (i := 3) hE21_3 noselE21 (by kernel_rfl) (by kernel_rfl) hQ hy hS (lE21_3.symm ▸ h)
def qE21_4 : Oper := { dst := some 148, op := Op.call { callee := Callee.value (Operand.func 15), args := #[Operand.tmp 146, Operand.tmp 147], argTypes := #[24, 24] }, type := 4, pos := "laws.go:281", after := #[{ on := 2, ground := Ground.data }, { on := 3, ground := Ground.data }, { on := 1, ground := Ground.chain }, { on := 1, ground := Ground.guard }], guard := some (1, true) }
theorem hE21_4 : opsE21[4]? = some qE21_4 := by kernel_rfl
theorem lE21_4 : (LE21 4).setIfInBounds 4 true = LE21 5 := by kernel_rfl
set_option maxRecDepth 100000 in
theorem cE21_4 {Q : Exit → Act → World → Prop} {S : World → Prop} {a : Act} {w : World}
    (h : ∀ K' : Act → World → Prop, Shut (∀ a w, S w → (S w → wpAnyH Try.prog .any opsE21 Q S 36 (LE21 5) a w) → K' a w) → if Region.wanted qE21_4 (yielded opsE21 a.tmps) = true then Oper.wp Try.prog qE21_4 a w K' Q else K' (a.put (some 148) undef) w) :
    wpAnyH Try.prog .any opsE21 Q S 37 (LE21 4) a w :=
  wpAnyH_ready (rs := [4]) (by kernel_rfl) (by simp) (AllReadyH.cons hE21_4 (fun K' hK => h K' (lE21_4 ▸ hK)) AllReadyH.nil)
theorem tE21_4 {Q : Exit → Act → World → Prop} {S : World → Prop} {a : Act} {w : World} (v : Value) (hQ : ∀ c a w, Q (.panic c) (a.put (some 148) v) w → Q (.panic c) a w) (hy : YieldsIf Try.prog opsE21 S qE21_4 v a) (hS : S w)
    (h : wpAnyH Try.prog .any opsE21 Q S 36 (LE21 5) (a.put (some 148) v) w) : wpAnyH Try.prog .any opsE21 Q S 37 (LE21 4) a w :=
  wpAnyH_take (i := 4) hE21_4 noselE21 (by kernel_rfl) (by kernel_rfl) hQ hy hS (lE21_4.symm ▸ h)
def qE21_5 : Oper := { dst := some 149, op := Op.pick (Operand.tmp 145) (Operand.tmp 148) (Operand.const (Value.bool false)), type := 4, pos := "laws.go:281", after := #[{ on := 1, ground := Ground.data }, { on := 4, ground := Ground.data }], guard := none }
theorem hE21_5 : opsE21[5]? = some qE21_5 := by kernel_rfl
theorem lE21_5 : (LE21 5).setIfInBounds 5 true = LE21 6 := by kernel_rfl
theorem tE21_5 {Q : Exit → Act → World → Prop} {S : World → Prop} {a : Act} {w : World} (v : Value) (hQ : ∀ c a w, Q (.panic c) (a.put (some 149) v) w → Q (.panic c) a w) (hy : YieldsIf Try.prog opsE21 S qE21_5 v a) (hS : S w)
    (h : wpAnyH Try.prog .any opsE21 Q S 35 (LE21 6) (a.put (some 149) v) w) : wpAnyH Try.prog .any opsE21 Q S 36 (LE21 5) a w :=
  wpAnyH_take (i := 5) hE21_5 noselE21 (by kernel_rfl) (by kernel_rfl) hQ hy hS (lE21_5.symm ▸ h)
def qE21_6 : Oper := { dst := some 150, op := Op.move (Operand.tmp 149), type := 4, pos := "laws.go:281", after := #[{ on := 5, ground := Ground.data }, { on := 4, ground := Ground.chain }], guard := none }
theorem hE21_6 : opsE21[6]? = some qE21_6 := by kernel_rfl
theorem lE21_6 : (LE21 6).setIfInBounds 6 true = LE21 7 := by kernel_rfl
theorem tE21_6 {Q : Exit → Act → World → Prop} {S : World → Prop} {a : Act} {w : World} (v : Value) (hQ : ∀ c a w, Q (.panic c) (a.put (some 150) v) w → Q (.panic c) a w) (hy : YieldsIf Try.prog opsE21 S qE21_6 v a) (hS : S w)
    (h : wpAnyH Try.prog .any opsE21 Q S 34 (LE21 7) (a.put (some 150) v) w) : wpAnyH Try.prog .any opsE21 Q S 35 (LE21 6) a w :=
  wpAnyH_take (i := 6) hE21_6 noselE21 (by kernel_rfl) (by kernel_rfl) hQ hy hS (lE21_6.symm ▸ h)
def qE21_7 : Oper := { dst := some 151, op := Op.move (Operand.tmp 6), type := 24, pos := "laws.go:281", after := #[{ on := 6, ground := Ground.guard }], guard := some (6, true) }
theorem hE21_7 : opsE21[7]? = some qE21_7 := by kernel_rfl
theorem lE21_7 : (LE21 7).setIfInBounds 7 true = LE21 8 := by kernel_rfl
theorem tE21_7 {Q : Exit → Act → World → Prop} {S : World → Prop} {a : Act} {w : World} (v : Value) (hQ : ∀ c a w, Q (.panic c) (a.put (some 151) v) w → Q (.panic c) a w) (hy : YieldsIf Try.prog opsE21 S qE21_7 v a) (hS : S w)
    (h : wpAnyH Try.prog .any opsE21 Q S 33 (LE21 8) (a.put (some 151) v) w) : wpAnyH Try.prog .any opsE21 Q S 34 (LE21 7) a w :=
  wpAnyH_take (i := 7) hE21_7 noselE21 (by kernel_rfl) (by kernel_rfl) hQ hy hS (lE21_7.symm ▸ h)
def qE21_8 : Oper := { dst := some 152, op := Op.load 26 (Operand.tmp 4), type := 26, pos := "laws.go:281", after := #[{ on := 6, ground := Ground.guard }], guard := some (6, true) }
theorem hE21_8 : opsE21[8]? = some qE21_8 := by kernel_rfl
theorem lE21_8 : (LE21 8).setIfInBounds 8 true = LE21 9 := by kernel_rfl
theorem tE21_8 {Q : Exit → Act → World → Prop} {S : World → Prop} {a : Act} {w : World} (v : Value) (hQ : ∀ c a w, Q (.panic c) (a.put (some 152) v) w → Q (.panic c) a w) (hy : YieldsIf Try.prog opsE21 S qE21_8 v a) (hS : S w)
    (h : wpAnyH Try.prog .any opsE21 Q S 32 (LE21 9) (a.put (some 152) v) w) : wpAnyH Try.prog .any opsE21 Q S 33 (LE21 8) a w :=
  wpAnyH_take (i := 8) hE21_8 noselE21 (by kernel_rfl) (by kernel_rfl) hQ hy hS (lE21_8.symm ▸ h)
def qE21_10 : Oper := { dst := some 154, op := Op.move (Operand.tmp 3), type := 24, pos := "laws.go:281", after := #[{ on := 6, ground := Ground.guard }], guard := some (6, true) }
theorem hE21_10 : opsE21[10]? = some qE21_10 := by kernel_rfl
theorem lE21_9 : (LE21 9).setIfInBounds 10 true = LE21 10 := by kernel_rfl
theorem tE21_9 {Q : Exit → Act → World → Prop} {S : World → Prop} {a : Act} {w : World} (v : Value) (hQ : ∀ c a w, Q (.panic c) (a.put (some 154) v) w → Q (.panic c) a w) (hy : YieldsIf Try.prog opsE21 S qE21_10 v a) (hS : S w)
    (h : wpAnyH Try.prog .any opsE21 Q S 31 (LE21 10) (a.put (some 154) v) w) : wpAnyH Try.prog .any opsE21 Q S 32 (LE21 9) a w :=
  wpAnyH_take (i := 10) hE21_10 noselE21 (by kernel_rfl) (by kernel_rfl) hQ hy hS (lE21_9.symm ▸ h)
def qE21_11 : Oper := { dst := some 155, op := Op.load 26 (Operand.tmp 4), type := 26, pos := "laws.go:281", after := #[{ on := 6, ground := Ground.guard }], guard := some (6, true) }
theorem hE21_11 : opsE21[11]? = some qE21_11 := by kernel_rfl
theorem lE21_10 : (LE21 10).setIfInBounds 11 true = LE21 11 := by kernel_rfl
theorem tE21_10 {Q : Exit → Act → World → Prop} {S : World → Prop} {a : Act} {w : World} (v : Value) (hQ : ∀ c a w, Q (.panic c) (a.put (some 155) v) w → Q (.panic c) a w) (hy : YieldsIf Try.prog opsE21 S qE21_11 v a) (hS : S w)
    (h : wpAnyH Try.prog .any opsE21 Q S 30 (LE21 11) (a.put (some 155) v) w) : wpAnyH Try.prog .any opsE21 Q S 31 (LE21 10) a w :=
  wpAnyH_take (i := 11) hE21_11 noselE21 (by kernel_rfl) (by kernel_rfl) hQ hy hS (lE21_10.symm ▸ h)
def qE21_13 : Oper := { dst := some 157, op := Op.move (Operand.tmp 5), type := 3, pos := "laws.go:281", after := #[{ on := 6, ground := Ground.guard }], guard := some (6, true) }
theorem hE21_13 : opsE21[13]? = some qE21_13 := by kernel_rfl
theorem lE21_11 : (LE21 11).setIfInBounds 13 true = LE21 12 := by kernel_rfl
theorem tE21_11 {Q : Exit → Act → World → Prop} {S : World → Prop} {a : Act} {w : World} (v : Value) (hQ : ∀ c a w, Q (.panic c) (a.put (some 157) v) w → Q (.panic c) a w) (hy : YieldsIf Try.prog opsE21 S qE21_13 v a) (hS : S w)
    (h : wpAnyH Try.prog .any opsE21 Q S 29 (LE21 12) (a.put (some 157) v) w) : wpAnyH Try.prog .any opsE21 Q S 30 (LE21 11) a w :=
  wpAnyH_take (i := 13) hE21_13 noselE21 (by kernel_rfl) (by kernel_rfl) hQ hy hS (lE21_11.symm ▸ h)
def qE21_9 : Oper := { dst := some 153, op := Op.call { callee := Callee.value (Operand.func 29), args := #[Operand.tmp 151, Operand.tmp 152], argTypes := #[24, 26] }, type := 3, pos := "laws.go:281", after := #[{ on := 7, ground := Ground.data }, { on := 8, ground := Ground.data }, { on := 6, ground := Ground.chain }, { on := 6, ground := Ground.guard }], guard := some (6, true) }
theorem hE21_9 : opsE21[9]? = some qE21_9 := by kernel_rfl
theorem lE21_12 : (LE21 12).setIfInBounds 9 true = LE21 13 := by kernel_rfl
set_option maxRecDepth 100000 in
theorem cE21_12 {Q : Exit → Act → World → Prop} {S : World → Prop} {a : Act} {w : World}
    (h : ∀ K' : Act → World → Prop, Shut (∀ a w, S w → (S w → wpAnyH Try.prog .any opsE21 Q S 28 (LE21 13) a w) → K' a w) → if Region.wanted qE21_9 (yielded opsE21 a.tmps) = true then Oper.wp Try.prog qE21_9 a w K' Q else K' (a.put (some 153) undef) w) :
    wpAnyH Try.prog .any opsE21 Q S 29 (LE21 12) a w :=
  wpAnyH_ready (rs := [9]) (by kernel_rfl) (by simp) (AllReadyH.cons hE21_9 (fun K' hK => h K' (lE21_12 ▸ hK)) AllReadyH.nil)
theorem tE21_12 {Q : Exit → Act → World → Prop} {S : World → Prop} {a : Act} {w : World} (v : Value) (hQ : ∀ c a w, Q (.panic c) (a.put (some 153) v) w → Q (.panic c) a w) (hy : YieldsIf Try.prog opsE21 S qE21_9 v a) (hS : S w)
    (h : wpAnyH Try.prog .any opsE21 Q S 28 (LE21 13) (a.put (some 153) v) w) : wpAnyH Try.prog .any opsE21 Q S 29 (LE21 12) a w :=
  wpAnyH_take (i := 9) hE21_9 noselE21 (by kernel_rfl) (by kernel_rfl) hQ hy hS (lE21_12.symm ▸ h)
def qE21_12 : Oper := { dst := some 156, op := Op.call { callee := Callee.value (Operand.func 30), args := #[Operand.tmp 154, Operand.tmp 155], argTypes := #[24, 26] }, type := 3, pos := "laws.go:281", after := #[{ on := 10, ground := Ground.data }, { on := 11, ground := Ground.data }, { on := 9, ground := Ground.chain }, { on := 6, ground := Ground.guard }], guard := some (6, true) }
theorem hE21_12 : opsE21[12]? = some qE21_12 := by kernel_rfl
theorem lE21_13 : (LE21 13).setIfInBounds 12 true = LE21 14 := by kernel_rfl
set_option maxRecDepth 100000 in
theorem cE21_13 {Q : Exit → Act → World → Prop} {S : World → Prop} {a : Act} {w : World}
    (h : ∀ K' : Act → World → Prop, Shut (∀ a w, S w → (S w → wpAnyH Try.prog .any opsE21 Q S 27 (LE21 14) a w) → K' a w) → if Region.wanted qE21_12 (yielded opsE21 a.tmps) = true then Oper.wp Try.prog qE21_12 a w K' Q else K' (a.put (some 156) undef) w) :
    wpAnyH Try.prog .any opsE21 Q S 28 (LE21 13) a w :=
  wpAnyH_ready (rs := [12]) (by kernel_rfl) (by simp) (AllReadyH.cons hE21_12 (fun K' hK => h K' (lE21_13 ▸ hK)) AllReadyH.nil)
theorem tE21_13 {Q : Exit → Act → World → Prop} {S : World → Prop} {a : Act} {w : World} (v : Value) (hQ : ∀ c a w, Q (.panic c) (a.put (some 156) v) w → Q (.panic c) a w) (hy : YieldsIf Try.prog opsE21 S qE21_12 v a) (hS : S w)
    (h : wpAnyH Try.prog .any opsE21 Q S 27 (LE21 14) (a.put (some 156) v) w) : wpAnyH Try.prog .any opsE21 Q S 28 (LE21 13) a w :=
  wpAnyH_take (i := 12) hE21_12 noselE21 (by kernel_rfl) (by kernel_rfl) hQ hy hS (lE21_13.symm ▸ h)
def qE21_14 : Oper := { dst := some 158, op := Op.binOp BinOp.add 3 (Operand.tmp 156) (Operand.tmp 157) 3, type := 3, pos := "laws.go:281", after := #[{ on := 12, ground := Ground.data }, { on := 13, ground := Ground.data }, { on := 6, ground := Ground.guard }], guard := some (6, true) }
theorem hE21_14 : opsE21[14]? = some qE21_14 := by kernel_rfl
theorem lE21_14 : (LE21 14).setIfInBounds 14 true = LE21 15 := by kernel_rfl
theorem tE21_14 {Q : Exit → Act → World → Prop} {S : World → Prop} {a : Act} {w : World} (v : Value) (hQ : ∀ c a w, Q (.panic c) (a.put (some 158) v) w → Q (.panic c) a w) (hy : YieldsIf Try.prog opsE21 S qE21_14 v a) (hS : S w)
    (h : wpAnyH Try.prog .any opsE21 Q S 26 (LE21 15) (a.put (some 158) v) w) : wpAnyH Try.prog .any opsE21 Q S 27 (LE21 14) a w :=
  wpAnyH_take (i := 14) hE21_14 noselE21 (by kernel_rfl) (by kernel_rfl) hQ hy hS (lE21_14.symm ▸ h)
def qE21_15 : Oper := { dst := some 159, op := Op.binOp BinOp.eql 3 (Operand.tmp 153) (Operand.tmp 158) 3, type := 4, pos := "laws.go:281", after := #[{ on := 9, ground := Ground.data }, { on := 14, ground := Ground.data }, { on := 6, ground := Ground.guard }], guard := some (6, true) }
theorem hE21_15 : opsE21[15]? = some qE21_15 := by kernel_rfl
theorem lE21_15 : (LE21 15).setIfInBounds 15 true = LE21 16 := by kernel_rfl
theorem tE21_15 {Q : Exit → Act → World → Prop} {S : World → Prop} {a : Act} {w : World} (v : Value) (hQ : ∀ c a w, Q (.panic c) (a.put (some 159) v) w → Q (.panic c) a w) (hy : YieldsIf Try.prog opsE21 S qE21_15 v a) (hS : S w)
    (h : wpAnyH Try.prog .any opsE21 Q S 25 (LE21 16) (a.put (some 159) v) w) : wpAnyH Try.prog .any opsE21 Q S 26 (LE21 15) a w :=
  wpAnyH_take (i := 15) hE21_15 noselE21 (by kernel_rfl) (by kernel_rfl) hQ hy hS (lE21_15.symm ▸ h)
def qE21_16 : Oper := { dst := some 160, op := Op.pick (Operand.tmp 150) (Operand.tmp 159) (Operand.const (Value.bool false)), type := 4, pos := "laws.go:281", after := #[{ on := 6, ground := Ground.data }, { on := 15, ground := Ground.data }], guard := none }
theorem hE21_16 : opsE21[16]? = some qE21_16 := by kernel_rfl
theorem lE21_16 : (LE21 16).setIfInBounds 16 true = LE21 17 := by kernel_rfl
theorem tE21_16 {Q : Exit → Act → World → Prop} {S : World → Prop} {a : Act} {w : World} (v : Value) (hQ : ∀ c a w, Q (.panic c) (a.put (some 160) v) w → Q (.panic c) a w) (hy : YieldsIf Try.prog opsE21 S qE21_16 v a) (hS : S w)
    (h : wpAnyH Try.prog .any opsE21 Q S 24 (LE21 17) (a.put (some 160) v) w) : wpAnyH Try.prog .any opsE21 Q S 25 (LE21 16) a w :=
  wpAnyH_take (i := 16) hE21_16 noselE21 (by kernel_rfl) (by kernel_rfl) hQ hy hS (lE21_16.symm ▸ h)
def qE21_17 : Oper := { dst := some 161, op := Op.move (Operand.tmp 160), type := 4, pos := "laws.go:281", after := #[{ on := 16, ground := Ground.data }, { on := 12, ground := Ground.chain }], guard := none }
theorem hE21_17 : opsE21[17]? = some qE21_17 := by kernel_rfl
theorem lE21_17 : (LE21 17).setIfInBounds 17 true = LE21 18 := by kernel_rfl
theorem tE21_17 {Q : Exit → Act → World → Prop} {S : World → Prop} {a : Act} {w : World} (v : Value) (hQ : ∀ c a w, Q (.panic c) (a.put (some 161) v) w → Q (.panic c) a w) (hy : YieldsIf Try.prog opsE21 S qE21_17 v a) (hS : S w)
    (h : wpAnyH Try.prog .any opsE21 Q S 23 (LE21 18) (a.put (some 161) v) w) : wpAnyH Try.prog .any opsE21 Q S 24 (LE21 17) a w :=
  wpAnyH_take (i := 17) hE21_17 noselE21 (by kernel_rfl) (by kernel_rfl) hQ hy hS (lE21_17.symm ▸ h)
def qE21_18 : Oper := { dst := some 162, op := Op.move (Operand.tmp 6), type := 24, pos := "laws.go:281", after := #[{ on := 17, ground := Ground.guard }], guard := some (17, true) }
theorem hE21_18 : opsE21[18]? = some qE21_18 := by kernel_rfl
theorem lE21_18 : (LE21 18).setIfInBounds 18 true = LE21 19 := by kernel_rfl
theorem tE21_18 {Q : Exit → Act → World → Prop} {S : World → Prop} {a : Act} {w : World} (v : Value) (hQ : ∀ c a w, Q (.panic c) (a.put (some 162) v) w → Q (.panic c) a w) (hy : YieldsIf Try.prog opsE21 S qE21_18 v a) (hS : S w)
    (h : wpAnyH Try.prog .any opsE21 Q S 22 (LE21 19) (a.put (some 162) v) w) : wpAnyH Try.prog .any opsE21 Q S 23 (LE21 18) a w :=
  wpAnyH_take (i := 18) hE21_18 noselE21 (by kernel_rfl) (by kernel_rfl) hQ hy hS (lE21_18.symm ▸ h)
def qE21_20 : Oper := { dst := some 164, op := Op.move (Operand.tmp 3), type := 24, pos := "laws.go:281", after := #[{ on := 17, ground := Ground.guard }], guard := some (17, true) }
theorem hE21_20 : opsE21[20]? = some qE21_20 := by kernel_rfl
theorem lE21_19 : (LE21 19).setIfInBounds 20 true = LE21 20 := by kernel_rfl
theorem tE21_19 {Q : Exit → Act → World → Prop} {S : World → Prop} {a : Act} {w : World} (v : Value) (hQ : ∀ c a w, Q (.panic c) (a.put (some 164) v) w → Q (.panic c) a w) (hy : YieldsIf Try.prog opsE21 S qE21_20 v a) (hS : S w)
    (h : wpAnyH Try.prog .any opsE21 Q S 21 (LE21 20) (a.put (some 164) v) w) : wpAnyH Try.prog .any opsE21 Q S 22 (LE21 19) a w :=
  wpAnyH_take (i := 20) hE21_20 noselE21 (by kernel_rfl) (by kernel_rfl) hQ hy hS (lE21_19.symm ▸ h)
def qE21_22 : Oper := { dst := some 166, op := Op.move (Operand.tmp 5), type := 3, pos := "laws.go:281", after := #[{ on := 17, ground := Ground.guard }], guard := some (17, true) }
theorem hE21_22 : opsE21[22]? = some qE21_22 := by kernel_rfl
theorem lE21_20 : (LE21 20).setIfInBounds 22 true = LE21 21 := by kernel_rfl
theorem tE21_20 {Q : Exit → Act → World → Prop} {S : World → Prop} {a : Act} {w : World} (v : Value) (hQ : ∀ c a w, Q (.panic c) (a.put (some 166) v) w → Q (.panic c) a w) (hy : YieldsIf Try.prog opsE21 S qE21_22 v a) (hS : S w)
    (h : wpAnyH Try.prog .any opsE21 Q S 20 (LE21 21) (a.put (some 166) v) w) : wpAnyH Try.prog .any opsE21 Q S 21 (LE21 20) a w :=
  wpAnyH_take (i := 22) hE21_22 noselE21 (by kernel_rfl) (by kernel_rfl) hQ hy hS (lE21_20.symm ▸ h)
def qE21_19 : Oper := { dst := some 163, op := Op.call { callee := Callee.value (Operand.func 27), args := #[Operand.tmp 162], argTypes := #[24] }, type := 3, pos := "laws.go:281", after := #[{ on := 18, ground := Ground.data }, { on := 17, ground := Ground.chain }, { on := 17, ground := Ground.guard }], guard := some (17, true) }
theorem hE21_19 : opsE21[19]? = some qE21_19 := by kernel_rfl
theorem lE21_21 : (LE21 21).setIfInBounds 19 true = LE21 22 := by kernel_rfl
set_option maxRecDepth 100000 in
theorem cE21_21 {Q : Exit → Act → World → Prop} {S : World → Prop} {a : Act} {w : World}
    (h : ∀ K' : Act → World → Prop, Shut (∀ a w, S w → (S w → wpAnyH Try.prog .any opsE21 Q S 19 (LE21 22) a w) → K' a w) → if Region.wanted qE21_19 (yielded opsE21 a.tmps) = true then Oper.wp Try.prog qE21_19 a w K' Q else K' (a.put (some 163) undef) w) :
    wpAnyH Try.prog .any opsE21 Q S 20 (LE21 21) a w :=
  wpAnyH_ready (rs := [19]) (by kernel_rfl) (by simp) (AllReadyH.cons hE21_19 (fun K' hK => h K' (lE21_21 ▸ hK)) AllReadyH.nil)
theorem tE21_21 {Q : Exit → Act → World → Prop} {S : World → Prop} {a : Act} {w : World} (v : Value) (hQ : ∀ c a w, Q (.panic c) (a.put (some 163) v) w → Q (.panic c) a w) (hy : YieldsIf Try.prog opsE21 S qE21_19 v a) (hS : S w)
    (h : wpAnyH Try.prog .any opsE21 Q S 19 (LE21 22) (a.put (some 163) v) w) : wpAnyH Try.prog .any opsE21 Q S 20 (LE21 21) a w :=
  wpAnyH_take (i := 19) hE21_19 noselE21 (by kernel_rfl) (by kernel_rfl) hQ hy hS (lE21_21.symm ▸ h)
def qE21_21 : Oper := { dst := some 165, op := Op.call { callee := Callee.value (Operand.func 28), args := #[Operand.tmp 164], argTypes := #[24] }, type := 3, pos := "laws.go:281", after := #[{ on := 20, ground := Ground.data }, { on := 19, ground := Ground.chain }, { on := 17, ground := Ground.guard }], guard := some (17, true) }
theorem hE21_21 : opsE21[21]? = some qE21_21 := by kernel_rfl
theorem lE21_22 : (LE21 22).setIfInBounds 21 true = LE21 23 := by kernel_rfl
set_option maxRecDepth 100000 in
theorem cE21_22 {Q : Exit → Act → World → Prop} {S : World → Prop} {a : Act} {w : World}
    (h : ∀ K' : Act → World → Prop, Shut (∀ a w, S w → (S w → wpAnyH Try.prog .any opsE21 Q S 18 (LE21 23) a w) → K' a w) → if Region.wanted qE21_21 (yielded opsE21 a.tmps) = true then Oper.wp Try.prog qE21_21 a w K' Q else K' (a.put (some 165) undef) w) :
    wpAnyH Try.prog .any opsE21 Q S 19 (LE21 22) a w :=
  wpAnyH_ready (rs := [21]) (by kernel_rfl) (by simp) (AllReadyH.cons hE21_21 (fun K' hK => h K' (lE21_22 ▸ hK)) AllReadyH.nil)
theorem tE21_22 {Q : Exit → Act → World → Prop} {S : World → Prop} {a : Act} {w : World} (v : Value) (hQ : ∀ c a w, Q (.panic c) (a.put (some 165) v) w → Q (.panic c) a w) (hy : YieldsIf Try.prog opsE21 S qE21_21 v a) (hS : S w)
    (h : wpAnyH Try.prog .any opsE21 Q S 18 (LE21 23) (a.put (some 165) v) w) : wpAnyH Try.prog .any opsE21 Q S 19 (LE21 22) a w :=
  wpAnyH_take (i := 21) hE21_21 noselE21 (by kernel_rfl) (by kernel_rfl) hQ hy hS (lE21_22.symm ▸ h)
def qE21_23 : Oper := { dst := some 167, op := Op.binOp BinOp.add 3 (Operand.tmp 165) (Operand.tmp 166) 3, type := 3, pos := "laws.go:281", after := #[{ on := 21, ground := Ground.data }, { on := 22, ground := Ground.data }, { on := 17, ground := Ground.guard }], guard := some (17, true) }
theorem hE21_23 : opsE21[23]? = some qE21_23 := by kernel_rfl
theorem lE21_23 : (LE21 23).setIfInBounds 23 true = LE21 24 := by kernel_rfl
theorem tE21_23 {Q : Exit → Act → World → Prop} {S : World → Prop} {a : Act} {w : World} (v : Value) (hQ : ∀ c a w, Q (.panic c) (a.put (some 167) v) w → Q (.panic c) a w) (hy : YieldsIf Try.prog opsE21 S qE21_23 v a) (hS : S w)
    (h : wpAnyH Try.prog .any opsE21 Q S 17 (LE21 24) (a.put (some 167) v) w) : wpAnyH Try.prog .any opsE21 Q S 18 (LE21 23) a w :=
  wpAnyH_take (i := 23) hE21_23 noselE21 (by kernel_rfl) (by kernel_rfl) hQ hy hS (lE21_23.symm ▸ h)
def qE21_24 : Oper := { dst := some 168, op := Op.binOp BinOp.eql 3 (Operand.tmp 163) (Operand.tmp 167) 3, type := 4, pos := "laws.go:281", after := #[{ on := 19, ground := Ground.data }, { on := 23, ground := Ground.data }, { on := 17, ground := Ground.guard }], guard := some (17, true) }
theorem hE21_24 : opsE21[24]? = some qE21_24 := by kernel_rfl
theorem lE21_24 : (LE21 24).setIfInBounds 24 true = LE21 25 := by kernel_rfl
theorem tE21_24 {Q : Exit → Act → World → Prop} {S : World → Prop} {a : Act} {w : World} (v : Value) (hQ : ∀ c a w, Q (.panic c) (a.put (some 168) v) w → Q (.panic c) a w) (hy : YieldsIf Try.prog opsE21 S qE21_24 v a) (hS : S w)
    (h : wpAnyH Try.prog .any opsE21 Q S 16 (LE21 25) (a.put (some 168) v) w) : wpAnyH Try.prog .any opsE21 Q S 17 (LE21 24) a w :=
  wpAnyH_take (i := 24) hE21_24 noselE21 (by kernel_rfl) (by kernel_rfl) hQ hy hS (lE21_24.symm ▸ h)
def qE21_25 : Oper := { dst := some 169, op := Op.pick (Operand.tmp 161) (Operand.tmp 168) (Operand.const (Value.bool false)), type := 4, pos := "laws.go:281", after := #[{ on := 17, ground := Ground.data }, { on := 24, ground := Ground.data }], guard := none }
theorem hE21_25 : opsE21[25]? = some qE21_25 := by kernel_rfl
theorem lE21_25 : (LE21 25).setIfInBounds 25 true = LE21 26 := by kernel_rfl
theorem tE21_25 {Q : Exit → Act → World → Prop} {S : World → Prop} {a : Act} {w : World} (v : Value) (hQ : ∀ c a w, Q (.panic c) (a.put (some 169) v) w → Q (.panic c) a w) (hy : YieldsIf Try.prog opsE21 S qE21_25 v a) (hS : S w)
    (h : wpAnyH Try.prog .any opsE21 Q S 15 (LE21 26) (a.put (some 169) v) w) : wpAnyH Try.prog .any opsE21 Q S 16 (LE21 25) a w :=
  wpAnyH_take (i := 25) hE21_25 noselE21 (by kernel_rfl) (by kernel_rfl) hQ hy hS (lE21_25.symm ▸ h)
def qE21_26 : Oper := { dst := some 170, op := Op.move (Operand.tmp 169), type := 4, pos := "laws.go:281", after := #[{ on := 25, ground := Ground.data }, { on := 21, ground := Ground.chain }], guard := none }
theorem hE21_26 : opsE21[26]? = some qE21_26 := by kernel_rfl
theorem lE21_26 : (LE21 26).setIfInBounds 26 true = LE21 27 := by kernel_rfl
theorem tE21_26 {Q : Exit → Act → World → Prop} {S : World → Prop} {a : Act} {w : World} (v : Value) (hQ : ∀ c a w, Q (.panic c) (a.put (some 170) v) w → Q (.panic c) a w) (hy : YieldsIf Try.prog opsE21 S qE21_26 v a) (hS : S w)
    (h : wpAnyH Try.prog .any opsE21 Q S 14 (LE21 27) (a.put (some 170) v) w) : wpAnyH Try.prog .any opsE21 Q S 15 (LE21 26) a w :=
  wpAnyH_take (i := 26) hE21_26 noselE21 (by kernel_rfl) (by kernel_rfl) hQ hy hS (lE21_26.symm ▸ h)
def qE21_27 : Oper := { dst := some 171, op := Op.move (Operand.tmp 13), type := 4, pos := "laws.go:281", after := #[{ on := 26, ground := Ground.guard }], guard := some (26, true) }
theorem hE21_27 : opsE21[27]? = some qE21_27 := by kernel_rfl
theorem lE21_27 : (LE21 27).setIfInBounds 27 true = LE21 28 := by kernel_rfl
theorem tE21_27 {Q : Exit → Act → World → Prop} {S : World → Prop} {a : Act} {w : World} (v : Value) (hQ : ∀ c a w, Q (.panic c) (a.put (some 171) v) w → Q (.panic c) a w) (hy : YieldsIf Try.prog opsE21 S qE21_27 v a) (hS : S w)
    (h : wpAnyH Try.prog .any opsE21 Q S 13 (LE21 28) (a.put (some 171) v) w) : wpAnyH Try.prog .any opsE21 Q S 14 (LE21 27) a w :=
  wpAnyH_take (i := 27) hE21_27 noselE21 (by kernel_rfl) (by kernel_rfl) hQ hy hS (lE21_27.symm ▸ h)
def qE21_28 : Oper := { dst := some 172, op := Op.unOp UnOp.not 4 (Operand.tmp 171), type := 4, pos := "laws.go:281", after := #[{ on := 27, ground := Ground.data }, { on := 26, ground := Ground.guard }], guard := some (26, true) }
theorem hE21_28 : opsE21[28]? = some qE21_28 := by kernel_rfl
theorem lE21_28 : (LE21 28).setIfInBounds 28 true = LE21 29 := by kernel_rfl
theorem tE21_28 {Q : Exit → Act → World → Prop} {S : World → Prop} {a : Act} {w : World} (v : Value) (hQ : ∀ c a w, Q (.panic c) (a.put (some 172) v) w → Q (.panic c) a w) (hy : YieldsIf Try.prog opsE21 S qE21_28 v a) (hS : S w)
    (h : wpAnyH Try.prog .any opsE21 Q S 12 (LE21 29) (a.put (some 172) v) w) : wpAnyH Try.prog .any opsE21 Q S 13 (LE21 28) a w :=
  wpAnyH_take (i := 28) hE21_28 noselE21 (by kernel_rfl) (by kernel_rfl) hQ hy hS (lE21_28.symm ▸ h)
def qE21_29 : Oper := { dst := some 173, op := Op.move (Operand.tmp 172), type := 4, pos := "laws.go:281", after := #[{ on := 28, ground := Ground.data }, { on := 26, ground := Ground.chain }, { on := 26, ground := Ground.guard }], guard := some (26, true) }
theorem hE21_29 : opsE21[29]? = some qE21_29 := by kernel_rfl
theorem lE21_29 : (LE21 29).setIfInBounds 29 true = LE21 30 := by kernel_rfl
theorem tE21_29 {Q : Exit → Act → World → Prop} {S : World → Prop} {a : Act} {w : World} (v : Value) (hQ : ∀ c a w, Q (.panic c) (a.put (some 173) v) w → Q (.panic c) a w) (hy : YieldsIf Try.prog opsE21 S qE21_29 v a) (hS : S w)
    (h : wpAnyH Try.prog .any opsE21 Q S 11 (LE21 30) (a.put (some 173) v) w) : wpAnyH Try.prog .any opsE21 Q S 12 (LE21 29) a w :=
  wpAnyH_take (i := 29) hE21_29 noselE21 (by kernel_rfl) (by kernel_rfl) hQ hy hS (lE21_29.symm ▸ h)
def qE21_30 : Oper := { dst := some 174, op := Op.move (Operand.tmp 12), type := 24, pos := "laws.go:281", after := #[{ on := 29, ground := Ground.guard }], guard := some (29, false) }
theorem hE21_30 : opsE21[30]? = some qE21_30 := by kernel_rfl
theorem lE21_30 : (LE21 30).setIfInBounds 30 true = LE21 31 := by kernel_rfl
theorem tE21_30 {Q : Exit → Act → World → Prop} {S : World → Prop} {a : Act} {w : World} (v : Value) (hQ : ∀ c a w, Q (.panic c) (a.put (some 174) v) w → Q (.panic c) a w) (hy : YieldsIf Try.prog opsE21 S qE21_30 v a) (hS : S w)
    (h : wpAnyH Try.prog .any opsE21 Q S 10 (LE21 31) (a.put (some 174) v) w) : wpAnyH Try.prog .any opsE21 Q S 11 (LE21 30) a w :=
  wpAnyH_take (i := 30) hE21_30 noselE21 (by kernel_rfl) (by kernel_rfl) hQ hy hS (lE21_30.symm ▸ h)
def qE21_32 : Oper := { dst := some 176, op := Op.move (Operand.tmp 10), type := 24, pos := "laws.go:281", after := #[{ on := 29, ground := Ground.guard }], guard := some (29, false) }
theorem hE21_32 : opsE21[32]? = some qE21_32 := by kernel_rfl
theorem lE21_31 : (LE21 31).setIfInBounds 32 true = LE21 32 := by kernel_rfl
theorem tE21_31 {Q : Exit → Act → World → Prop} {S : World → Prop} {a : Act} {w : World} (v : Value) (hQ : ∀ c a w, Q (.panic c) (a.put (some 176) v) w → Q (.panic c) a w) (hy : YieldsIf Try.prog opsE21 S qE21_32 v a) (hS : S w)
    (h : wpAnyH Try.prog .any opsE21 Q S 9 (LE21 32) (a.put (some 176) v) w) : wpAnyH Try.prog .any opsE21 Q S 10 (LE21 31) a w :=
  wpAnyH_take (i := 32) hE21_32 noselE21 (by kernel_rfl) (by kernel_rfl) hQ hy hS (lE21_31.symm ▸ h)
def qE21_34 : Oper := { dst := some 178, op := Op.move (Operand.tmp 11), type := 24, pos := "laws.go:281", after := #[{ on := 29, ground := Ground.guard }], guard := some (29, false) }
theorem hE21_34 : opsE21[34]? = some qE21_34 := by kernel_rfl
theorem lE21_32 : (LE21 32).setIfInBounds 34 true = LE21 33 := by kernel_rfl
theorem tE21_32 {Q : Exit → Act → World → Prop} {S : World → Prop} {a : Act} {w : World} (v : Value) (hQ : ∀ c a w, Q (.panic c) (a.put (some 178) v) w → Q (.panic c) a w) (hy : YieldsIf Try.prog opsE21 S qE21_34 v a) (hS : S w)
    (h : wpAnyH Try.prog .any opsE21 Q S 8 (LE21 33) (a.put (some 178) v) w) : wpAnyH Try.prog .any opsE21 Q S 9 (LE21 32) a w :=
  wpAnyH_take (i := 34) hE21_34 noselE21 (by kernel_rfl) (by kernel_rfl) hQ hy hS (lE21_32.symm ▸ h)
def qE21_31 : Oper := { dst := some 175, op := Op.call { callee := Callee.value (Operand.func 27), args := #[Operand.tmp 174], argTypes := #[24] }, type := 3, pos := "laws.go:281", after := #[{ on := 30, ground := Ground.data }, { on := 29, ground := Ground.chain }, { on := 29, ground := Ground.guard }], guard := some (29, false) }
theorem hE21_31 : opsE21[31]? = some qE21_31 := by kernel_rfl
theorem lE21_33 : (LE21 33).setIfInBounds 31 true = LE21 34 := by kernel_rfl
set_option maxRecDepth 100000 in
theorem cE21_33 {Q : Exit → Act → World → Prop} {S : World → Prop} {a : Act} {w : World}
    (h : ∀ K' : Act → World → Prop, Shut (∀ a w, S w → (S w → wpAnyH Try.prog .any opsE21 Q S 7 (LE21 34) a w) → K' a w) → if Region.wanted qE21_31 (yielded opsE21 a.tmps) = true then Oper.wp Try.prog qE21_31 a w K' Q else K' (a.put (some 175) undef) w) :
    wpAnyH Try.prog .any opsE21 Q S 8 (LE21 33) a w :=
  wpAnyH_ready (rs := [31]) (by kernel_rfl) (by simp) (AllReadyH.cons hE21_31 (fun K' hK => h K' (lE21_33 ▸ hK)) AllReadyH.nil)
theorem tE21_33 {Q : Exit → Act → World → Prop} {S : World → Prop} {a : Act} {w : World} (v : Value) (hQ : ∀ c a w, Q (.panic c) (a.put (some 175) v) w → Q (.panic c) a w) (hy : YieldsIf Try.prog opsE21 S qE21_31 v a) (hS : S w)
    (h : wpAnyH Try.prog .any opsE21 Q S 7 (LE21 34) (a.put (some 175) v) w) : wpAnyH Try.prog .any opsE21 Q S 8 (LE21 33) a w :=
  wpAnyH_take (i := 31) hE21_31 noselE21 (by kernel_rfl) (by kernel_rfl) hQ hy hS (lE21_33.symm ▸ h)
def qE21_33 : Oper := { dst := some 177, op := Op.call { callee := Callee.value (Operand.func 28), args := #[Operand.tmp 176], argTypes := #[24] }, type := 3, pos := "laws.go:281", after := #[{ on := 32, ground := Ground.data }, { on := 31, ground := Ground.chain }, { on := 29, ground := Ground.guard }], guard := some (29, false) }
theorem hE21_33 : opsE21[33]? = some qE21_33 := by kernel_rfl
theorem lE21_34 : (LE21 34).setIfInBounds 33 true = LE21 35 := by kernel_rfl
set_option maxRecDepth 100000 in
theorem cE21_34 {Q : Exit → Act → World → Prop} {S : World → Prop} {a : Act} {w : World}
    (h : ∀ K' : Act → World → Prop, Shut (∀ a w, S w → (S w → wpAnyH Try.prog .any opsE21 Q S 6 (LE21 35) a w) → K' a w) → if Region.wanted qE21_33 (yielded opsE21 a.tmps) = true then Oper.wp Try.prog qE21_33 a w K' Q else K' (a.put (some 177) undef) w) :
    wpAnyH Try.prog .any opsE21 Q S 7 (LE21 34) a w :=
  wpAnyH_ready (rs := [33]) (by kernel_rfl) (by simp) (AllReadyH.cons hE21_33 (fun K' hK => h K' (lE21_34 ▸ hK)) AllReadyH.nil)
theorem tE21_34 {Q : Exit → Act → World → Prop} {S : World → Prop} {a : Act} {w : World} (v : Value) (hQ : ∀ c a w, Q (.panic c) (a.put (some 177) v) w → Q (.panic c) a w) (hy : YieldsIf Try.prog opsE21 S qE21_33 v a) (hS : S w)
    (h : wpAnyH Try.prog .any opsE21 Q S 6 (LE21 35) (a.put (some 177) v) w) : wpAnyH Try.prog .any opsE21 Q S 7 (LE21 34) a w :=
  wpAnyH_take (i := 33) hE21_33 noselE21 (by kernel_rfl) (by kernel_rfl) hQ hy hS (lE21_34.symm ▸ h)
def qE21_35 : Oper := { dst := some 179, op := Op.call { callee := Callee.value (Operand.func 28), args := #[Operand.tmp 178], argTypes := #[24] }, type := 3, pos := "laws.go:281", after := #[{ on := 34, ground := Ground.data }, { on := 33, ground := Ground.chain }, { on := 29, ground := Ground.guard }], guard := some (29, false) }
theorem hE21_35 : opsE21[35]? = some qE21_35 := by kernel_rfl
theorem lE21_35 : (LE21 35).setIfInBounds 35 true = LE21 36 := by kernel_rfl
set_option maxRecDepth 100000 in
theorem cE21_35 {Q : Exit → Act → World → Prop} {S : World → Prop} {a : Act} {w : World}
    (h : ∀ K' : Act → World → Prop, Shut (∀ a w, S w → (S w → wpAnyH Try.prog .any opsE21 Q S 5 (LE21 36) a w) → K' a w) → if Region.wanted qE21_35 (yielded opsE21 a.tmps) = true then Oper.wp Try.prog qE21_35 a w K' Q else K' (a.put (some 179) undef) w) :
    wpAnyH Try.prog .any opsE21 Q S 6 (LE21 35) a w :=
  wpAnyH_ready (rs := [35]) (by kernel_rfl) (by simp) (AllReadyH.cons hE21_35 (fun K' hK => h K' (lE21_35 ▸ hK)) AllReadyH.nil)
theorem tE21_35 {Q : Exit → Act → World → Prop} {S : World → Prop} {a : Act} {w : World} (v : Value) (hQ : ∀ c a w, Q (.panic c) (a.put (some 179) v) w → Q (.panic c) a w) (hy : YieldsIf Try.prog opsE21 S qE21_35 v a) (hS : S w)
    (h : wpAnyH Try.prog .any opsE21 Q S 5 (LE21 36) (a.put (some 179) v) w) : wpAnyH Try.prog .any opsE21 Q S 6 (LE21 35) a w :=
  wpAnyH_take (i := 35) hE21_35 noselE21 (by kernel_rfl) (by kernel_rfl) hQ hy hS (lE21_35.symm ▸ h)
def qE21_36 : Oper := { dst := some 180, op := Op.binOp BinOp.add 3 (Operand.tmp 177) (Operand.tmp 179) 3, type := 3, pos := "laws.go:281", after := #[{ on := 33, ground := Ground.data }, { on := 35, ground := Ground.data }, { on := 29, ground := Ground.guard }], guard := some (29, false) }
theorem hE21_36 : opsE21[36]? = some qE21_36 := by kernel_rfl
theorem lE21_36 : (LE21 36).setIfInBounds 36 true = LE21 37 := by kernel_rfl
theorem tE21_36 {Q : Exit → Act → World → Prop} {S : World → Prop} {a : Act} {w : World} (v : Value) (hQ : ∀ c a w, Q (.panic c) (a.put (some 180) v) w → Q (.panic c) a w) (hy : YieldsIf Try.prog opsE21 S qE21_36 v a) (hS : S w)
    (h : wpAnyH Try.prog .any opsE21 Q S 4 (LE21 37) (a.put (some 180) v) w) : wpAnyH Try.prog .any opsE21 Q S 5 (LE21 36) a w :=
  wpAnyH_take (i := 36) hE21_36 noselE21 (by kernel_rfl) (by kernel_rfl) hQ hy hS (lE21_36.symm ▸ h)
def qE21_37 : Oper := { dst := some 181, op := Op.binOp BinOp.eql 3 (Operand.tmp 175) (Operand.tmp 180) 3, type := 4, pos := "laws.go:281", after := #[{ on := 31, ground := Ground.data }, { on := 36, ground := Ground.data }, { on := 29, ground := Ground.guard }], guard := some (29, false) }
theorem hE21_37 : opsE21[37]? = some qE21_37 := by kernel_rfl
theorem lE21_37 : (LE21 37).setIfInBounds 37 true = LE21 38 := by kernel_rfl
theorem tE21_37 {Q : Exit → Act → World → Prop} {S : World → Prop} {a : Act} {w : World} (v : Value) (hQ : ∀ c a w, Q (.panic c) (a.put (some 181) v) w → Q (.panic c) a w) (hy : YieldsIf Try.prog opsE21 S qE21_37 v a) (hS : S w)
    (h : wpAnyH Try.prog .any opsE21 Q S 3 (LE21 38) (a.put (some 181) v) w) : wpAnyH Try.prog .any opsE21 Q S 4 (LE21 37) a w :=
  wpAnyH_take (i := 37) hE21_37 noselE21 (by kernel_rfl) (by kernel_rfl) hQ hy hS (lE21_37.symm ▸ h)
def qE21_38 : Oper := { dst := some 182, op := Op.pick (Operand.tmp 173) (Operand.const (Value.bool true)) (Operand.tmp 181), type := 4, pos := "laws.go:281", after := #[{ on := 29, ground := Ground.data }, { on := 37, ground := Ground.data }, { on := 26, ground := Ground.guard }], guard := some (26, true) }
theorem hE21_38 : opsE21[38]? = some qE21_38 := by kernel_rfl
theorem lE21_38 : (LE21 38).setIfInBounds 38 true = LE21 39 := by kernel_rfl
theorem tE21_38 {Q : Exit → Act → World → Prop} {S : World → Prop} {a : Act} {w : World} (v : Value) (hQ : ∀ c a w, Q (.panic c) (a.put (some 182) v) w → Q (.panic c) a w) (hy : YieldsIf Try.prog opsE21 S qE21_38 v a) (hS : S w)
    (h : wpAnyH Try.prog .any opsE21 Q S 2 (LE21 39) (a.put (some 182) v) w) : wpAnyH Try.prog .any opsE21 Q S 3 (LE21 38) a w :=
  wpAnyH_take (i := 38) hE21_38 noselE21 (by kernel_rfl) (by kernel_rfl) hQ hy hS (lE21_38.symm ▸ h)
def qE21_39 : Oper := { dst := some 183, op := Op.pick (Operand.tmp 170) (Operand.tmp 182) (Operand.const (Value.bool false)), type := 4, pos := "laws.go:281", after := #[{ on := 26, ground := Ground.data }, { on := 38, ground := Ground.data }], guard := none }
theorem hE21_39 : opsE21[39]? = some qE21_39 := by kernel_rfl
theorem lE21_39 : (LE21 39).setIfInBounds 39 true = LE21 40 := by kernel_rfl
theorem tE21_39 {Q : Exit → Act → World → Prop} {S : World → Prop} {a : Act} {w : World} (v : Value) (hQ : ∀ c a w, Q (.panic c) (a.put (some 183) v) w → Q (.panic c) a w) (hy : YieldsIf Try.prog opsE21 S qE21_39 v a) (hS : S w)
    (h : wpAnyH Try.prog .any opsE21 Q S 1 (LE21 40) (a.put (some 183) v) w) : wpAnyH Try.prog .any opsE21 Q S 2 (LE21 39) a w :=
  wpAnyH_take (i := 39) hE21_39 noselE21 (by kernel_rfl) (by kernel_rfl) hQ hy hS (lE21_39.symm ▸ h)
def qE21_40 : Oper := { dst := some 2, op := Op.assign (Operand.tmp 183), type := 4, pos := "laws.go:281", after := #[{ on := 39, ground := Ground.data }, { on := 35, ground := Ground.chain }, { on := 0, ground := Ground.phase }, { on := 1, ground := Ground.phase }, { on := 2, ground := Ground.phase }, { on := 3, ground := Ground.phase }, { on := 4, ground := Ground.phase }, { on := 5, ground := Ground.phase }, { on := 6, ground := Ground.phase }, { on := 7, ground := Ground.phase }, { on := 8, ground := Ground.phase }, { on := 9, ground := Ground.phase }, { on := 10, ground := Ground.phase }, { on := 11, ground := Ground.phase }, { on := 12, ground := Ground.phase }, { on := 13, ground := Ground.phase }, { on := 14, ground := Ground.phase }, { on := 15, ground := Ground.phase }, { on := 16, ground := Ground.phase }, { on := 17, ground := Ground.phase }, { on := 18, ground := Ground.phase }, { on := 19, ground := Ground.phase }, { on := 20, ground := Ground.phase }, { on := 21, ground := Ground.phase }, { on := 22, ground := Ground.phase }, { on := 23, ground := Ground.phase }, { on := 24, ground := Ground.phase }, { on := 25, ground := Ground.phase }, { on := 26, ground := Ground.phase }, { on := 27, ground := Ground.phase }, { on := 28, ground := Ground.phase }, { on := 29, ground := Ground.phase }, { on := 30, ground := Ground.phase }, { on := 31, ground := Ground.phase }, { on := 32, ground := Ground.phase }, { on := 33, ground := Ground.phase }, { on := 34, ground := Ground.phase }, { on := 35, ground := Ground.phase }, { on := 36, ground := Ground.phase }, { on := 37, ground := Ground.phase }, { on := 38, ground := Ground.phase }, { on := 39, ground := Ground.phase }], guard := none }
theorem hE21_40 : opsE21[40]? = some qE21_40 := by kernel_rfl
theorem lE21_40 : (LE21 40).setIfInBounds 40 true = LE21 41 := by kernel_rfl
theorem tE21_40 {Q : Exit → Act → World → Prop} {S : World → Prop} {a : Act} {w : World} (v : Value) (hQ : ∀ c a w, Q (.panic c) (a.put (some 2) v) w → Q (.panic c) a w) (hy : YieldsIf Try.prog opsE21 S qE21_40 v a) (hS : S w)
    (h : wpAnyH Try.prog .any opsE21 Q S 0 (LE21 41) (a.put (some 2) v) w) : wpAnyH Try.prog .any opsE21 Q S 1 (LE21 40) a w :=
  wpAnyH_take (i := 40) hE21_40 noselE21 (by kernel_rfl) (by kernel_rfl) hQ hy hS (lE21_40.symm ▸ h)
end Go.Proofs.Ytiehpniogehkmaa.hexes
