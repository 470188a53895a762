/-
  A statement of laws.FnStamps: its operations, and a theorem a step.
-/
import Derived.Test.YtpodppmcdikmbaaDoorProg
import Derived.WalkKit
import Derived.Deep.RegionHeld3
namespace Go.Proofs.YtpodppmcdikmbaaDoor.fnStamps
open Go.RowKit

def findS (n : Nat) : Code → Option Code
  | .region id ops d => if id = n then some (.region id ops d) else none
  | .seq a b => match findS n a with
    | some c => some c
    | none => findS n b
  | .block _ c => findS n c
  | .scope c => findS n c
  | .loop c => findS n c
  | .cond _ a b => match findS n a with
    | some c => some c
    | none => findS n b
  | _ => none
def opsOfS : Option Code → Array Oper
  | some (.region _ ops _) => ops
  | _ => #[]
noncomputable def opsS : Array Oper := opsOfS (Tryd.f3.body.bind (findS 11))
def schS : List Nat := [0, 1, 2, 3, 4, 5, 6, 7, 8, 9, 10, 11, 12, 13, 14, 15, 16, 17, 18, 19, 20, 21, 22, 23, 24, 25, 26, 27, 28, 29, 30, 31, 32, 33, 34, 36, 37, 35, 38, 39, 40, 41, 42, 43, 44, 45, 46, 47, 48, 49, 50, 51, 52, 53, 54, 55, 56, 57, 58, 59, 60, 61, 62, 63, 64, 65, 66, 67, 68, 69, 70, 71]
def LS (k : Nat) : Array Bool := ((List.range 72).map fun i => (schS.take k).contains i).toArray
theorem noselS : Region.noSelect opsS = true := by kernel_rfl
def qS_0 : Oper := { dst := some 60, op := Op.load 25 (Operand.tmp 5), type := 25, pos := "laws.go:231", after := #[], guard := none }
theorem hS_0 : opsS[0]? = some qS_0 := by kernel_rfl
theorem lS_0 : (LS 0).setIfInBounds 0 true = LS 1 := by kernel_rfl
theorem tS_0 {Q : Exit → Act → World → Prop} {S : World → Prop} {a : Act} {w : World} (v : Value) (hQ : ∀ c a w, Q (.panic c) (a.put (some 60) v) w → Q (.panic c) a w) (hy : YieldsIf Tryd.prog opsS S qS_0 v a) (hS : S w)
    (h : wpAnyH Tryd.prog .any opsS Q S 71 (LS 1) (a.put (some 60) v) w) : wpAnyH Tryd.prog .any opsS Q S 72 (LS 0) a w :=
  wpAnyH_take (i := 0) hS_0 noselS (by kernel_rfl) (by kernel_rfl) hQ hy hS (lS_0.symm ▸ h)
def qS_1 : Oper := { dst := some 61, op := Op.load 25 (Operand.tmp 3), type := 25, pos := "laws.go:231", after := #[], guard := none }
theorem hS_1 : opsS[1]? = some qS_1 := by kernel_rfl
theorem lS_1 : (LS 1).setIfInBounds 1 true = LS 2 := by kernel_rfl
theorem tS_1 {Q : Exit → Act → World → Prop} {S : World → Prop} {a : Act} {w : World} (v : Value) (hQ : ∀ c a w, Q (.panic c) (a.put (some 61) v) w → Q (.panic c) a w) (hy : YieldsIf Tryd.prog opsS S qS_1 v a) (hS : S w)
    (h : wpAnyH Tryd.prog .any opsS Q S 70 (LS 2) (a.put (some 61) v) w) : wpAnyH Tryd.prog .any opsS Q S 71 (LS 1) a w :=
  wpAnyH_take (i := 1) hS_1 noselS (by kernel_rfl) (by kernel_rfl) hQ hy hS (lS_1.symm ▸ h)
def qS_2 : Oper := { dst := some 62, op := Op.call { callee := Callee.value (Operand.func 15), args := #[Operand.tmp 60, Operand.tmp 61], argTypes := #[25, 25] }, type := 4, pos := "laws.go:231", after := #[{ on := 0, ground := Ground.data }, { on := 1, ground := Ground.data }], guard := none }
theorem hS_2 : opsS[2]? = some qS_2 := by kernel_rfl
theorem lS_2 : (LS 2).setIfInBounds 2 true = LS 3 := by kernel_rfl
theorem cS_2 {Q : Exit → Act → World → Prop} {S : World → Prop} {a : Act} {w : World}
    (h : ∀ K' : Act → World → Prop, Shut (∀ a w, S w → (S w → wpAnyH Tryd.prog .any opsS Q S 69 (LS 3) a w) → K' a w) → if Region.wanted qS_2 (yielded opsS a.tmps) = true then Oper.wp Tryd.prog qS_2 a w K' Q else K' (a.put (some 62) undef) w) :
    wpAnyH Tryd.prog .any opsS Q S 70 (LS 2) a w :=
  wpAnyH_ready (rs := [2]) (by kernel_rfl) (by simp) (AllReadyH.cons hS_2 (fun K' hK => h K' (lS_2 ▸ hK)) AllReadyH.nil)
theorem tS_2 {Q : Exit → Act → World → Prop} {S : World → Prop} {a : Act} {w : World} (v : Value) (hQ : ∀ c a w, Q (.panic c) (a.put (some 62) v) w → Q (.panic c) a w) (hy : YieldsIf Tryd.prog opsS S qS_2 v a) (hS : S w)
    (h : wpAnyH Tryd.prog .any opsS Q S 69 (LS 3) (a.put (some 62) v) w) : wpAnyH Tryd.prog .any opsS Q S 70 (LS 2) a w :=
  wpAnyH_take (i := 2) hS_2 noselS (by kernel_rfl) (by kernel_rfl) hQ hy hS (lS_2.symm ▸ h)
def qS_3 : Oper := { dst := some 63, op := Op.move (Operand.tmp 62), type := 4, pos := "laws.go:231", after := #[{ on := 2, ground := Ground.data }, { on := 2, ground := Ground.chain }], guard := none }
theorem hS_3 : opsS[3]? = some qS_3 := by kernel_rfl
theorem lS_3 : (LS 3).setIfInBounds 3 true = LS 4 := by kernel_rfl
theorem tS_3 {Q : Exit → Act → World → Prop} {S : World → Prop} {a : Act} {w : World} (v : Value) (hQ : ∀ c a w, Q (.panic c) (a.put (some 63) v) w → Q (.panic c) a w) (hy : YieldsIf Tryd.prog opsS S qS_3 v a) (hS : S w)
    (h : wpAnyH Tryd.prog .any opsS Q S 68 (LS 4) (a.put (some 63) v) w) : wpAnyH Tryd.prog .any opsS Q S 69 (LS 3) a w :=
  wpAnyH_take (i := 3) hS_3 noselS (by kernel_rfl) (by kernel_rfl) hQ hy hS (lS_3.symm ▸ h)
def qS_4 : Oper := { dst := some 64, op := Op.load 25 (Operand.tmp 5), type := 25, pos := "laws.go:231", after := #[{ on := 3, ground := Ground.guard }], guard := some (3, true) }
theorem hS_4 : opsS[4]? = some qS_4 := by kernel_rfl
theorem lS_4 : (LS 4).setIfInBounds 4 true = LS 5 := by kernel_rfl
theorem tS_4 {Q : Exit → Act → World → Prop} {S : World → Prop} {a : Act} {w : World} (v : Value) (hQ : ∀ c a w, Q (.panic c) (a.put (some 64) v) w → Q (.panic c) a w) (hy : YieldsIf Tryd.prog opsS S qS_4 v a) (hS : S w)
    (h : wpAnyH Tryd.prog .any opsS Q S 67 (LS 5) (a.put (some 64) v) w) : wpAnyH Tryd.prog .any opsS Q S 68 (LS 4) a w :=
  wpAnyH_take (i := 4) hS_4 noselS (by kernel_rfl) (by kernel_rfl) hQ hy hS (lS_4.symm ▸ h)
def qS_5 : Oper := { dst := some 65, op := Op.load 25 (Operand.tmp 4), type := 25, pos := "laws.go:231", after := #[{ on := 3, ground := Ground.guard }], guard := some (3, true) }
theorem hS_5 : opsS[5]? = some qS_5 := by kernel_rfl
theorem lS_5 : (LS 5).setIfInBounds 5 true = LS 6 := by kernel_rfl
theorem tS_5 {Q : Exit → Act → World → Prop} {S : World → Prop} {a : Act} {w : World} (v : Value) (hQ : ∀ c a w, Q (.panic c) (a.put (some 65) v) w → Q (.panic c) a w) (hy : YieldsIf Tryd.prog opsS S qS_5 v a) (hS : S w)
    (h : wpAnyH Tryd.prog .any opsS Q S 66 (LS 6) (a.put (some 65) v) w) : wpAnyH Tryd.prog .any opsS Q S 67 (LS 5) a w :=
  wpAnyH_take (i := 5) hS_5 noselS (by kernel_rfl) (by kernel_rfl) hQ hy hS (lS_5.symm ▸ h)
def qS_6 : Oper := { dst := some 66, op := Op.call { callee := Callee.value (Operand.func 15), args := #[Operand.tmp 64, Operand.tmp 65], argTypes := #[25, 25] }, type := 4, pos := "laws.go:231", after := #[{ on := 4, ground := Ground.data }, { on := 5, ground := Ground.data }, { on := 3, ground := Ground.chain }, { on := 3, ground := Ground.guard }], guard := some (3, true) }
theorem hS_6 : opsS[6]? = some qS_6 := by kernel_rfl
theorem lS_6 : (LS 6).setIfInBounds 6 true = LS 7 := by kernel_rfl
theorem cS_6 {Q : Exit → Act → World → Prop} {S : World → Prop} {a : Act} {w : World}
    (h : ∀ K' : Act → World → Prop, Shut (∀ a w, S w → (S w → wpAnyH Tryd.prog .any opsS Q S 65 (LS 7) a w) → K' a w) → if Region.wanted qS_6 (yielded opsS a.tmps) = true then Oper.wp Tryd.prog qS_6 a w K' Q else K' (a.put (some 66) undef) w) :
    wpAnyH Tryd.prog .any opsS Q S 66 (LS 6) a w :=
  wpAnyH_ready (rs := [6]) (by kernel_rfl) (by simp) (AllReadyH.cons hS_6 (fun K' hK => h K' (lS_6 ▸ hK)) AllReadyH.nil)
theorem tS_6 {Q : Exit → Act → World → Prop} {S : World → Prop} {a : Act} {w : World} (v : Value) (hQ : ∀ c a w, Q (.panic c) (a.put (some 66) v) w → Q (.panic c) a w) (hy : YieldsIf Tryd.prog opsS S qS_6 v a) (hS : S w)
    (h : wpAnyH Tryd.prog .any opsS Q S 65 (LS 7) (a.put (some 66) v) w) : wpAnyH Tryd.prog .any opsS Q S 66 (LS 6) a w :=
  wpAnyH_take (i := 6) hS_6 noselS (by kernel_rfl) (by kernel_rfl) hQ hy hS (lS_6.symm ▸ h)
def qS_7 : Oper := { dst := some 67, op := Op.pick (Operand.tmp 63) (Operand.tmp 66) (Operand.const (Value.bool false)), type := 4, pos := "laws.go:231", after := #[{ on := 3, ground := Ground.data }, { on := 6, ground := Ground.data }], guard := none }
theorem hS_7 : opsS[7]? = some qS_7 := by kernel_rfl
theorem lS_7 : (LS 7).setIfInBounds 7 true = LS 8 := by kernel_rfl
theorem tS_7 {Q : Exit → Act → World → Prop} {S : World → Prop} {a : Act} {w : World} (v : Value) (hQ : ∀ c a w, Q (.panic c) (a.put (some 67) v) w → Q (.panic c) a w) (hy : YieldsIf Tryd.prog opsS S qS_7 v a) (hS : S w)
    (h : wpAnyH Tryd.prog .any opsS Q S 64 (LS 8) (a.put (some 67) v) w) : wpAnyH Tryd.prog .any opsS Q S 65 (LS 7) a w :=
  wpAnyH_take (i := 7) hS_7 noselS (by kernel_rfl) (by kernel_rfl) hQ hy hS (lS_7.symm ▸ h)
def qS_8 : Oper := { dst := some 68, op := Op.move (Operand.tmp 67), type := 4, pos := "laws.go:231", after := #[{ on := 7, ground := Ground.data }, { on := 6, ground := Ground.chain }], guard := none }
theorem hS_8 : opsS[8]? = some qS_8 := by kernel_rfl
theorem lS_8 : (LS 8).setIfInBounds 8 true = LS 9 := by kernel_rfl
theorem tS_8 {Q : Exit → Act → World → Prop} {S : World → Prop} {a : Act} {w : World} (v : Value) (hQ : ∀ c a w, Q (.panic c) (a.put (some 68) v) w → Q (.panic c) a w) (hy : YieldsIf Tryd.prog opsS S qS_8 v a) (hS : S w)
    (h : wpAnyH Tryd.prog .any opsS Q S 63 (LS 9) (a.put (some 68) v) w) : wpAnyH Tryd.prog .any opsS Q S 64 (LS 8) a w :=
  wpAnyH_take (i := 8) hS_8 noselS (by kernel_rfl) (by kernel_rfl) hQ hy hS (lS_8.symm ▸ h)
def qS_9 : Oper := { dst := some 69, op := Op.load 25 (Operand.tmp 3), type := 25, pos := "laws.go:231", after := #[{ on := 8, ground := Ground.guard }], guard := some (8, true) }
theorem hS_9 : opsS[9]? = some qS_9 := by kernel_rfl
theorem lS_9 : (LS 9).setIfInBounds 9 true = LS 10 := by kernel_rfl
theorem tS_9 {Q : Exit → Act → World → Prop} {S : World → Prop} {a : Act} {w : World} (v : Value) (hQ : ∀ c a w, Q (.panic c) (a.put (some 69) v) w → Q (.panic c) a w) (hy : YieldsIf Tryd.prog opsS S qS_9 v a) (hS : S w)
    (h : wpAnyH Tryd.prog .any opsS Q S 62 (LS 10) (a.put (some 69) v) w) : wpAnyH Tryd.prog .any opsS Q S 63 (LS 9) a w :=
  wpAnyH_take (i := 9) hS_9 noselS (by kernel_rfl) (by kernel_rfl) hQ hy hS (lS_9.symm ▸ h)
def qS_10 : Oper := { dst := some 70, op := Op.load 25 (Operand.tmp 6), type := 25, pos := "laws.go:231", after := #[{ on := 8, ground := Ground.guard }], guard := some (8, true) }
theorem hS_10 : opsS[10]? = some qS_10 := by kernel_rfl
theorem lS_10 : (LS 10).setIfInBounds 10 true = LS 11 := by kernel_rfl
theorem tS_10 {Q : Exit → Act → World → Prop} {S : World → Prop} {a : Act} {w : World} (v : Value) (hQ : ∀ c a w, Q (.panic c) (a.put (some 70) v) w → Q (.panic c) a w) (hy : YieldsIf Tryd.prog opsS S qS_10 v a) (hS : S w)
    (h : wpAnyH Tryd.prog .any opsS Q S 61 (LS 11) (a.put (some 70) v) w) : wpAnyH Tryd.prog .any opsS Q S 62 (LS 10) a w :=
  wpAnyH_take (i := 10) hS_10 noselS (by kernel_rfl) (by kernel_rfl) hQ hy hS (lS_10.symm ▸ h)
def qS_11 : Oper := { dst := some 71, op := Op.call { callee := Callee.value (Operand.func 15), args := #[Operand.tmp 69, Operand.tmp 70], argTypes := #[25, 25] }, type := 4, pos := "laws.go:231", after := #[{ on := 9, ground := Ground.data }, { on := 10, ground := Ground.data }, { on := 8, ground := Ground.chain }, { on := 8, ground := Ground.guard }], guard := some (8, true) }
theorem hS_11 : opsS[11]? = some qS_11 := by kernel_rfl
theorem lS_11 : (LS 11).setIfInBounds 11 true = LS 12 := by kernel_rfl
theorem cS_11 {Q : Exit → Act → World → Prop} {S : World → Prop} {a : Act} {w : World}
    (h : ∀ K' : Act → World → Prop, Shut (∀ a w, S w → (S w → wpAnyH Tryd.prog .any opsS Q S 60 (LS 12) a w) → K' a w) → if Region.wanted qS_11 (yielded opsS a.tmps) = true then Oper.wp Tryd.prog qS_11 a w K' Q else K' (a.put (some 71) undef) w) :
    wpAnyH Tryd.prog .any opsS Q S 61 (LS 11) a w :=
  wpAnyH_ready (rs := [11]) (by kernel_rfl) (by simp) (AllReadyH.cons hS_11 (fun K' hK => h K' (lS_11 ▸ hK)) AllReadyH.nil)
theorem tS_11 {Q : Exit → Act → World → Prop} {S : World → Prop} {a : Act} {w : World} (v : Value) (hQ : ∀ c a w, Q (.panic c) (a.put (some 71) v) w → Q (.panic c) a w) (hy : YieldsIf Tryd.prog opsS S qS_11 v a) (hS : S w)
    (h : wpAnyH Tryd.prog .any opsS Q S 60 (LS 12) (a.put (some 71) v) w) : wpAnyH Tryd.prog .any opsS Q S 61 (LS 11) a w :=
  wpAnyH_take (i := 11) hS_11 noselS (by kernel_rfl) (by kernel_rfl) hQ hy hS (lS_11.symm ▸ h)
def qS_12 : Oper := { dst := some 72, op := Op.pick (Operand.tmp 68) (Operand.tmp 71) (Operand.const (Value.bool false)), type := 4, pos := "laws.go:231", after := #[{ on := 8, ground := Ground.data }, { on := 11, ground := Ground.data }], guard := none }
theorem hS_12 : opsS[12]? = some qS_12 := by kernel_rfl
theorem lS_12 : (LS 12).setIfInBounds 12 true = LS 13 := by kernel_rfl
theorem tS_12 {Q : Exit → Act → World → Prop} {S : World → Prop} {a : Act} {w : World} (v : Value) (hQ : ∀ c a w, Q (.panic c) (a.put (some 72) v) w → Q (.panic c) a w) (hy : YieldsIf Tryd.prog opsS S qS_12 v a) (hS : S w)
    (h : wpAnyH Tryd.prog .any opsS Q S 59 (LS 13) (a.put (some 72) v) w) : wpAnyH Tryd.prog .any opsS Q S 60 (LS 12) a w :=
  wpAnyH_take (i := 12) hS_12 noselS (by kernel_rfl) (by kernel_rfl) hQ hy hS (lS_12.symm ▸ h)
def qS_13 : Oper := { dst := some 73, op := Op.move (Operand.tmp 72), type := 4, pos := "laws.go:231", after := #[{ on := 12, ground := Ground.data }, { on := 11, ground := Ground.chain }], guard := none }
theorem hS_13 : opsS[13]? = some qS_13 := by kernel_rfl
theorem lS_13 : (LS 13).setIfInBounds 13 true = LS 14 := by kernel_rfl
theorem tS_13 {Q : Exit → Act → World → Prop} {S : World → Prop} {a : Act} {w : World} (v : Value) (hQ : ∀ c a w, Q (.panic c) (a.put (some 73) v) w → Q (.panic c) a w) (hy : YieldsIf Tryd.prog opsS S qS_13 v a) (hS : S w)
    (h : wpAnyH Tryd.prog .any opsS Q S 58 (LS 14) (a.put (some 73) v) w) : wpAnyH Tryd.prog .any opsS Q S 59 (LS 13) a w :=
  wpAnyH_take (i := 13) hS_13 noselS (by kernel_rfl) (by kernel_rfl) hQ hy hS (lS_13.symm ▸ h)
def qS_14 : Oper := { dst := some 74, op := Op.load 25 (Operand.tmp 4), type := 25, pos := "laws.go:231", after := #[{ on := 13, ground := Ground.guard }], guard := some (13, true) }
theorem hS_14 : opsS[14]? = some qS_14 := by kernel_rfl
theorem lS_14 : (LS 14).setIfInBounds 14 true = LS 15 := by kernel_rfl
theorem tS_14 {Q : Exit → Act → World → Prop} {S : World → Prop} {a : Act} {w : World} (v : Value) (hQ : ∀ c a w, Q (.panic c) (a.put (some 74) v) w → Q (.panic c) a w) (hy : YieldsIf Tryd.prog opsS S qS_14 v a) (hS : S w)
    (h : wpAnyH Tryd.prog .any opsS Q S 57 (LS 15) (a.put (some 74) v) w) : wpAnyH Tryd.prog .any opsS Q S 58 (LS 14) a w :=
  wpAnyH_take (i := 14) hS_14 noselS (by kernel_rfl) (by kernel_rfl) hQ hy hS (lS_14.symm ▸ h)
def qS_15 : Oper := { dst := some 75, op := Op.load 25 (Operand.tmp 6), type := 25, pos := "laws.go:231", after := #[{ on := 13, ground := Ground.guard }], guard := some (13, true) }
theorem hS_15 : opsS[15]? = some qS_15 := by kernel_rfl
theorem lS_15 : (LS 15).setIfInBounds 15 true = LS 16 := by kernel_rfl
theorem tS_15 {Q : Exit → Act → World → Prop} {S : World → Prop} {a : Act} {w : World} (v : Value) (hQ : ∀ c a w, Q (.panic c) (a.put (some 75) v) w → Q (.panic c) a w) (hy : YieldsIf Tryd.prog opsS S qS_15 v a) (hS : S w)
    (h : wpAnyH Tryd.prog .any opsS Q S 56 (LS 16) (a.put (some 75) v) w) : wpAnyH Tryd.prog .any opsS Q S 57 (LS 15) a w :=
  wpAnyH_take (i := 15) hS_15 noselS (by kernel_rfl) (by kernel_rfl) hQ hy hS (lS_15.symm ▸ h)
def qS_16 : Oper := { dst := some 76, op := Op.call { callee := Callee.value (Operand.func 15), args := #[Operand.tmp 74, Operand.tmp 75], argTypes := #[25, 25] }, type := 4, pos := "laws.go:231", after := #[{ on := 14, ground := Ground.data }, { on := 15, ground := Ground.data }, { on := 13, ground := Ground.chain }, { on := 13, ground := Ground.guard }], guard := some (13, true) }
theorem hS_16 : opsS[16]? = some qS_16 := by kernel_rfl
theorem lS_16 : (LS 16).setIfInBounds 16 true = LS 17 := by kernel_rfl
theorem cS_16 {Q : Exit → Act → World → Prop} {S : World → Prop} {a : Act} {w : World}
    (h : ∀ K' : Act → World → Prop, Shut (∀ a w, S w → (S w → wpAnyH Tryd.prog .any opsS Q S 55 (LS 17) a w) → K' a w) → if Region.wanted qS_16 (yielded opsS a.tmps) = true then Oper.wp Tryd.prog qS_16 a w K' Q else K' (a.put (some 76) undef) w) :
    wpAnyH Tryd.prog .any opsS Q S 56 (LS 16) a w :=
  wpAnyH_ready (rs := [16]) (by kernel_rfl) (by simp) (AllReadyH.cons hS_16 (fun K' hK => h K' (lS_16 ▸ hK)) AllReadyH.nil)
theorem tS_16 {Q : Exit → Act → World → Prop} {S : World → Prop} {a : Act} {w : World} (v : Value) (hQ : ∀ c a w, Q (.panic c) (a.put (some 76) v) w → Q (.panic c) a w) (hy : YieldsIf Tryd.prog opsS S qS_16 v a) (hS : S w)
    (h : wpAnyH Tryd.prog .any opsS Q S 55 (LS 17) (a.put (some 76) v) w) : wpAnyH Tryd.prog .any opsS Q S 56 (LS 16) a w :=
  wpAnyH_take (i := 16) hS_16 noselS (by kernel_rfl) (by kernel_rfl) hQ hy hS (lS_16.symm ▸ h)
def qS_17 : Oper := { dst := some 77, op := Op.pick (Operand.tmp 73) (Operand.tmp 76) (Operand.const (Value.bool false)), type := 4, pos := "laws.go:231", after := #[{ on := 13, ground := Ground.data }, { on := 16, ground := Ground.data }], guard := none }
theorem hS_17 : opsS[17]? = some qS_17 := by kernel_rfl
theorem lS_17 : (LS 17).setIfInBounds 17 true = LS 18 := by kernel_rfl
theorem tS_17 {Q : Exit → Act → World → Prop} {S : World → Prop} {a : Act} {w : World} (v : Value) (hQ : ∀ c a w, Q (.panic c) (a.put (some 77) v) w → Q (.panic c) a w) (hy : YieldsIf Tryd.prog opsS S qS_17 v a) (hS : S w)
    (h : wpAnyH Tryd.prog .any opsS Q S 54 (LS 18) (a.put (some 77) v) w) : wpAnyH Tryd.prog .any opsS Q S 55 (LS 17) a w :=
  wpAnyH_take (i := 17) hS_17 noselS (by kernel_rfl) (by kernel_rfl) hQ hy hS (lS_17.symm ▸ h)
def qS_18 : Oper := { dst := some 78, op := Op.move (Operand.tmp 77), type := 4, pos := "laws.go:231", after := #[{ on := 17, ground := Ground.data }, { on := 16, ground := Ground.chain }], guard := none }
theorem hS_18 : opsS[18]? = some qS_18 := by kernel_rfl
theorem lS_18 : (LS 18).setIfInBounds 18 true = LS 19 := by kernel_rfl
theorem tS_18 {Q : Exit → Act → World → Prop} {S : World → Prop} {a : Act} {w : World} (v : Value) (hQ : ∀ c a w, Q (.panic c) (a.put (some 78) v) w → Q (.panic c) a w) (hy : YieldsIf Tryd.prog opsS S qS_18 v a) (hS : S w)
    (h : wpAnyH Tryd.prog .any opsS Q S 53 (LS 19) (a.put (some 78) v) w) : wpAnyH Tryd.prog .any opsS Q S 54 (LS 18) a w :=
  wpAnyH_take (i := 18) hS_18 noselS (by kernel_rfl) (by kernel_rfl) hQ hy hS (lS_18.symm ▸ h)
def qS_19 : Oper := { dst := some 79, op := Op.move (Operand.tmp 11), type := 4, pos := "laws.go:231", after := #[{ on := 18, ground := Ground.guard }], guard := some (18, true) }
theorem hS_19 : opsS[19]? = some qS_19 := by kernel_rfl
theorem lS_19 : (LS 19).setIfInBounds 19 true = LS 20 := by kernel_rfl
theorem tS_19 {Q : Exit → Act → World → Prop} {S : World → Prop} {a : Act} {w : World} (v : Value) (hQ : ∀ c a w, Q (.panic c) (a.put (some 79) v) w → Q (.panic c) a w) (hy : YieldsIf Tryd.prog opsS S qS_19 v a) (hS : S w)
    (h : wpAnyH Tryd.prog .any opsS Q S 52 (LS 20) (a.put (some 79) v) w) : wpAnyH Tryd.prog .any opsS Q S 53 (LS 19) a w :=
  wpAnyH_take (i := 19) hS_19 noselS (by kernel_rfl) (by kernel_rfl) hQ hy hS (lS_19.symm ▸ h)
def qS_20 : Oper := { dst := some 80, op := Op.load 25 (Operand.tmp 5), type := 25, pos := "laws.go:231", after := #[{ on := 18, ground := Ground.guard }], guard := some (18, true) }
theorem hS_20 : opsS[20]? = some qS_20 := by kernel_rfl
theorem lS_20 : (LS 20).setIfInBounds 20 true = LS 21 := by kernel_rfl
theorem tS_20 {Q : Exit → Act → World → Prop} {S : World → Prop} {a : Act} {w : World} (v : Value) (hQ : ∀ c a w, Q (.panic c) (a.put (some 80) v) w → Q (.panic c) a w) (hy : YieldsIf Tryd.prog opsS S qS_20 v a) (hS : S w)
    (h : wpAnyH Tryd.prog .any opsS Q S 51 (LS 21) (a.put (some 80) v) w) : wpAnyH Tryd.prog .any opsS Q S 52 (LS 20) a w :=
  wpAnyH_take (i := 20) hS_20 noselS (by kernel_rfl) (by kernel_rfl) hQ hy hS (lS_20.symm ▸ h)
def qS_21 : Oper := { dst := some 81, op := Op.load 25 (Operand.tmp 3), type := 25, pos := "laws.go:231", after := #[{ on := 18, ground := Ground.guard }], guard := some (18, true) }
theorem hS_21 : opsS[21]? = some qS_21 := by kernel_rfl
theorem lS_21 : (LS 21).setIfInBounds 21 true = LS 22 := by kernel_rfl
theorem tS_21 {Q : Exit → Act → World → Prop} {S : World → Prop} {a : Act} {w : World} (v : Value) (hQ : ∀ c a w, Q (.panic c) (a.put (some 81) v) w → Q (.panic c) a w) (hy : YieldsIf Tryd.prog opsS S qS_21 v a) (hS : S w)
    (h : wpAnyH Tryd.prog .any opsS Q S 50 (LS 22) (a.put (some 81) v) w) : wpAnyH Tryd.prog .any opsS Q S 51 (LS 21) a w :=
  wpAnyH_take (i := 21) hS_21 noselS (by kernel_rfl) (by kernel_rfl) hQ hy hS (lS_21.symm ▸ h)
def qS_22 : Oper := { dst := some 82, op := Op.binOp BinOp.eql 25 (Operand.tmp 80) (Operand.tmp 81) 25, type := 4, pos := "laws.go:231", after := #[{ on := 20, ground := Ground.data }, { on := 21, ground := Ground.data }, { on := 18, ground := Ground.guard }], guard := some (18, true) }
theorem hS_22 : opsS[22]? = some qS_22 := by kernel_rfl
theorem lS_22 : (LS 22).setIfInBounds 22 true = LS 23 := by kernel_rfl
theorem tS_22 {Q : Exit → Act → World → Prop} {S : World → Prop} {a : Act} {w : World} (v : Value) (hQ : ∀ c a w, Q (.panic c) (a.put (some 82) v) w → Q (.panic c) a w) (hy : YieldsIf Tryd.prog opsS S qS_22 v a) (hS : S w)
    (h : wpAnyH Tryd.prog .any opsS Q S 49 (LS 23) (a.put (some 82) v) w) : wpAnyH Tryd.prog .any opsS Q S 50 (LS 22) a w :=
  wpAnyH_take (i := 22) hS_22 noselS (by kernel_rfl) (by kernel_rfl) hQ hy hS (lS_22.symm ▸ h)
def qS_23 : Oper := { dst := some 83, op := Op.binOp BinOp.eql 4 (Operand.tmp 79) (Operand.tmp 82) 4, type := 4, pos := "laws.go:231", after := #[{ on := 19, ground := Ground.data }, { on := 22, ground := Ground.data }, { on := 18, ground := Ground.guard }], guard := some (18, true) }
theorem hS_23 : opsS[23]? = some qS_23 := by kernel_rfl
theorem lS_23 : (LS 23).setIfInBounds 23 true = LS 24 := by kernel_rfl
theorem tS_23 {Q : Exit → Act → World → Prop} {S : World → Prop} {a : Act} {w : World} (v : Value) (hQ : ∀ c a w, Q (.panic c) (a.put (some 83) v) w → Q (.panic c) a w) (hy : YieldsIf Tryd.prog opsS S qS_23 v a) (hS : S w)
    (h : wpAnyH Tryd.prog .any opsS Q S 48 (LS 24) (a.put (some 83) v) w) : wpAnyH Tryd.prog .any opsS Q S 49 (LS 23) a w :=
  wpAnyH_take (i := 23) hS_23 noselS (by kernel_rfl) (by kernel_rfl) hQ hy hS (lS_23.symm ▸ h)
def qS_24 : Oper := { dst := some 84, op := Op.pick (Operand.tmp 78) (Operand.tmp 83) (Operand.const (Value.bool false)), type := 4, pos := "laws.go:231", after := #[{ on := 18, ground := Ground.data }, { on := 23, ground := Ground.data }], guard := none }
theorem hS_24 : opsS[24]? = some qS_24 := by kernel_rfl
theorem lS_24 : (LS 24).setIfInBounds 24 true = LS 25 := by kernel_rfl
theorem tS_24 {Q : Exit → Act → World → Prop} {S : World → Prop} {a : Act} {w : World} (v : Value) (hQ : ∀ c a w, Q (.panic c) (a.put (some 84) v) w → Q (.panic c) a w) (hy : YieldsIf Tryd.prog opsS S qS_24 v a) (hS : S w)
    (h : wpAnyH Tryd.prog .any opsS Q S 47 (LS 25) (a.put (some 84) v) w) : wpAnyH Tryd.prog .any opsS Q S 48 (LS 24) a w :=
  wpAnyH_take (i := 24) hS_24 noselS (by kernel_rfl) (by kernel_rfl) hQ hy hS (lS_24.symm ▸ h)
def qS_25 : Oper := { dst := some 85, op := Op.move (Operand.tmp 84), type := 4, pos := "laws.go:231", after := #[{ on := 24, ground := Ground.data }, { on := 18, ground := Ground.chain }], guard := none }
theorem hS_25 : opsS[25]? = some qS_25 := by kernel_rfl
theorem lS_25 : (LS 25).setIfInBounds 25 true = LS 26 := by kernel_rfl
theorem tS_25 {Q : Exit → Act → World → Prop} {S : World → Prop} {a : Act} {w : World} (v : Value) (hQ : ∀ c a w, Q (.panic c) (a.put (some 85) v) w → Q (.panic c) a w) (hy : YieldsIf Tryd.prog opsS S qS_25 v a) (hS : S w)
    (h : wpAnyH Tryd.prog .any opsS Q S 46 (LS 26) (a.put (some 85) v) w) : wpAnyH Tryd.prog .any opsS Q S 47 (LS 25) a w :=
  wpAnyH_take (i := 25) hS_25 noselS (by kernel_rfl) (by kernel_rfl) hQ hy hS (lS_25.symm ▸ h)
def qS_26 : Oper := { dst := some 86, op := Op.move (Operand.tmp 11), type := 4, pos := "laws.go:231", after := #[{ on := 25, ground := Ground.guard }], guard := some (25, true) }
theorem hS_26 : opsS[26]? = some qS_26 := by kernel_rfl
theorem lS_26 : (LS 26).setIfInBounds 26 true = LS 27 := by kernel_rfl
theorem tS_26 {Q : Exit → Act → World → Prop} {S : World → Prop} {a : Act} {w : World} (v : Value) (hQ : ∀ c a w, Q (.panic c) (a.put (some 86) v) w → Q (.panic c) a w) (hy : YieldsIf Tryd.prog opsS S qS_26 v a) (hS : S w)
    (h : wpAnyH Tryd.prog .any opsS Q S 45 (LS 27) (a.put (some 86) v) w) : wpAnyH Tryd.prog .any opsS Q S 46 (LS 26) a w :=
  wpAnyH_take (i := 26) hS_26 noselS (by kernel_rfl) (by kernel_rfl) hQ hy hS (lS_26.symm ▸ h)
def qS_27 : Oper := { dst := some 87, op := Op.load 25 (Operand.tmp 6), type := 25, pos := "laws.go:231", after := #[{ on := 25, ground := Ground.guard }], guard := some (25, true) }
theorem hS_27 : opsS[27]? = some qS_27 := by kernel_rfl
theorem lS_27 : (LS 27).setIfInBounds 27 true = LS 28 := by kernel_rfl
theorem tS_27 {Q : Exit → Act → World → Prop} {S : World → Prop} {a : Act} {w : World} (v : Value) (hQ : ∀ c a w, Q (.panic c) (a.put (some 87) v) w → Q (.panic c) a w) (hy : YieldsIf Tryd.prog opsS S qS_27 v a) (hS : S w)
    (h : wpAnyH Tryd.prog .any opsS Q S 44 (LS 28) (a.put (some 87) v) w) : wpAnyH Tryd.prog .any opsS Q S 45 (LS 27) a w :=
  wpAnyH_take (i := 27) hS_27 noselS (by kernel_rfl) (by kernel_rfl) hQ hy hS (lS_27.symm ▸ h)
def qS_28 : Oper := { dst := some 88, op := Op.load 25 (Operand.tmp 4), type := 25, pos := "laws.go:231", after := #[{ on := 25, ground := Ground.guard }], guard := some (25, true) }
theorem hS_28 : opsS[28]? = some qS_28 := by kernel_rfl
theorem lS_28 : (LS 28).setIfInBounds 28 true = LS 29 := by kernel_rfl
theorem tS_28 {Q : Exit → Act → World → Prop} {S : World → Prop} {a : Act} {w : World} (v : Value) (hQ : ∀ c a w, Q (.panic c) (a.put (some 88) v) w → Q (.panic c) a w) (hy : YieldsIf Tryd.prog opsS S qS_28 v a) (hS : S w)
    (h : wpAnyH Tryd.prog .any opsS Q S 43 (LS 29) (a.put (some 88) v) w) : wpAnyH Tryd.prog .any opsS Q S 44 (LS 28) a w :=
  wpAnyH_take (i := 28) hS_28 noselS (by kernel_rfl) (by kernel_rfl) hQ hy hS (lS_28.symm ▸ h)
def qS_29 : Oper := { dst := some 89, op := Op.binOp BinOp.eql 25 (Operand.tmp 87) (Operand.tmp 88) 25, type := 4, pos := "laws.go:231", after := #[{ on := 27, ground := Ground.data }, { on := 28, ground := Ground.data }, { on := 25, ground := Ground.guard }], guard := some (25, true) }
theorem hS_29 : opsS[29]? = some qS_29 := by kernel_rfl
theorem lS_29 : (LS 29).setIfInBounds 29 true = LS 30 := by kernel_rfl
theorem tS_29 {Q : Exit → Act → World → Prop} {S : World → Prop} {a : Act} {w : World} (v : Value) (hQ : ∀ c a w, Q (.panic c) (a.put (some 89) v) w → Q (.panic c) a w) (hy : YieldsIf Tryd.prog opsS S qS_29 v a) (hS : S w)
    (h : wpAnyH Tryd.prog .any opsS Q S 42 (LS 30) (a.put (some 89) v) w) : wpAnyH Tryd.prog .any opsS Q S 43 (LS 29) a w :=
  wpAnyH_take (i := 29) hS_29 noselS (by kernel_rfl) (by kernel_rfl) hQ hy hS (lS_29.symm ▸ h)
def qS_30 : Oper := { dst := some 90, op := Op.binOp BinOp.eql 4 (Operand.tmp 86) (Operand.tmp 89) 4, type := 4, pos := "laws.go:231", after := #[{ on := 26, ground := Ground.data }, { on := 29, ground := Ground.data }, { on := 25, ground := Ground.guard }], guard := some (25, true) }
theorem hS_30 : opsS[30]? = some qS_30 := by kernel_rfl
theorem lS_30 : (LS 30).setIfInBounds 30 true = LS 31 := by kernel_rfl
theorem tS_30 {Q : Exit → Act → World → Prop} {S : World → Prop} {a : Act} {w : World} (v : Value) (hQ : ∀ c a w, Q (.panic c) (a.put (some 90) v) w → Q (.panic c) a w) (hy : YieldsIf Tryd.prog opsS S qS_30 v a) (hS : S w)
    (h : wpAnyH Tryd.prog .any opsS Q S 41 (LS 31) (a.put (some 90) v) w) : wpAnyH Tryd.prog .any opsS Q S 42 (LS 30) a w :=
  wpAnyH_take (i := 30) hS_30 noselS (by kernel_rfl) (by kernel_rfl) hQ hy hS (lS_30.symm ▸ h)
def qS_31 : Oper := { dst := some 91, op := Op.pick (Operand.tmp 85) (Operand.tmp 90) (Operand.const (Value.bool false)), type := 4, pos := "laws.go:231", after := #[{ on := 25, ground := Ground.data }, { on := 30, ground := Ground.data }], guard := none }
theorem hS_31 : opsS[31]? = some qS_31 := by kernel_rfl
theorem lS_31 : (LS 31).setIfInBounds 31 true = LS 32 := by kernel_rfl
theorem tS_31 {Q : Exit → Act → World → Prop} {S : World → Prop} {a : Act} {w : World} (v : Value) (hQ : ∀ c a w, Q (.panic c) (a.put (some 91) v) w → Q (.panic c) a w) (hy : YieldsIf Tryd.prog opsS S qS_31 v a) (hS : S w)
    (h : wpAnyH Tryd.prog .any opsS Q S 40 (LS 32) (a.put (some 91) v) w) : wpAnyH Tryd.prog .any opsS Q S 41 (LS 31) a w :=
  wpAnyH_take (i := 31) hS_31 noselS (by kernel_rfl) (by kernel_rfl) hQ hy hS (lS_31.symm ▸ h)
def qS_32 : Oper := { dst := some 92, op := Op.move (Operand.tmp 91), type := 4, pos := "laws.go:231", after := #[{ on := 31, ground := Ground.data }, { on := 25, ground := Ground.chain }], guard := none }
theorem hS_32 : opsS[32]? = some qS_32 := by kernel_rfl
theorem lS_32 : (LS 32).setIfInBounds 32 true = LS 33 := by kernel_rfl
theorem tS_32 {Q : Exit → Act → World → Prop} {S : World → Prop} {a : Act} {w : World} (v : Value) (hQ : ∀ c a w, Q (.panic c) (a.put (some 92) v) w → Q (.panic c) a w) (hy : YieldsIf Tryd.prog opsS S qS_32 v a) (hS : S w)
    (h : wpAnyH Tryd.prog .any opsS Q S 39 (LS 33) (a.put (some 92) v) w) : wpAnyH Tryd.prog .any opsS Q S 40 (LS 32) a w :=
  wpAnyH_take (i := 32) hS_32 noselS (by kernel_rfl) (by kernel_rfl) hQ hy hS (lS_32.symm ▸ h)
def qS_33 : Oper := { dst := some 93, op := Op.load 25 (Operand.tmp 3), type := 25, pos := "laws.go:231", after := #[{ on := 32, ground := Ground.guard }], guard := some (32, true) }
theorem hS_33 : opsS[33]? = some qS_33 := by kernel_rfl
theorem lS_33 : (LS 33).setIfInBounds 33 true = LS 34 := by kernel_rfl
theorem tS_33 {Q : Exit → Act → World → Prop} {S : World → Prop} {a : Act} {w : World} (v : Value) (hQ : ∀ c a w, Q (.panic c) (a.put (some 93) v) w → Q (.panic c) a w) (hy : YieldsIf Tryd.prog opsS S qS_33 v a) (hS : S w)
    (h : wpAnyH Tryd.prog .any opsS Q S 38 (LS 34) (a.put (some 93) v) w) : wpAnyH Tryd.prog .any opsS Q S 39 (LS 33) a w :=
  wpAnyH_take (i := 33) hS_33 noselS (by kernel_rfl) (by kernel_rfl) hQ hy hS (lS_33.symm ▸ h)
def qS_34 : Oper := { dst := some 94, op := Op.load 25 (Operand.tmp 4), type := 25, pos := "laws.go:231", after := #[{ on := 32, ground := Ground.guard }], guard := some (32, true) }
theorem hS_34 : opsS[34]? = some qS_34 := by kernel_rfl
theorem lS_34 : (LS 34).setIfInBounds 34 true = LS 35 := by kernel_rfl
theorem tS_34 {Q : Exit → Act → World → Prop} {S : World → Prop} {a : Act} {w : World} (v : Value) (hQ : ∀ c a w, Q (.panic c) (a.put (some 94) v) w → Q (.panic c) a w) (hy : YieldsIf Tryd.prog opsS S qS_34 v a) (hS : S w)
    (h : wpAnyH Tryd.prog .any opsS Q S 37 (LS 35) (a.put (some 94) v) w) : wpAnyH Tryd.prog .any opsS Q S 38 (LS 34) a w :=
  wpAnyH_take (i := 34) hS_34 noselS (by kernel_rfl) (by kernel_rfl) hQ hy hS (lS_34.symm ▸ h)
def qS_36 : Oper := { dst := some 96, op := Op.load 25 (Operand.tmp 4), type := 25, pos := "laws.go:231", after := #[{ on := 32, ground := Ground.guard }], guard := some (32, true) }
theorem hS_36 : opsS[36]? = some qS_36 := by kernel_rfl
theorem lS_35 : (LS 35).setIfInBounds 36 true = LS 36 := by kernel_rfl
theorem tS_35 {Q : Exit → Act → World → Prop} {S : World → Prop} {a : Act} {w : World} (v : Value) (hQ : ∀ c a w, Q (.panic c) (a.put (some 96) v) w → Q (.panic c) a w) (hy : YieldsIf Tryd.prog opsS S qS_36 v a) (hS : S w)
    (h : wpAnyH Tryd.prog .any opsS Q S 36 (LS 36) (a.put (some 96) v) w) : wpAnyH Tryd.prog .any opsS Q S 37 (LS 35) a w :=
  wpAnyH_take (i := 36) hS_36 noselS (by kernel_rfl) (by kernel_rfl) hQ hy hS (lS_35.symm ▸ h)
def qS_37 : Oper := { dst := some 97, op := Op.load 25 (Operand.tmp 3), type := 25, pos := "laws.go:231", after := #[{ on := 32, ground := Ground.guard }], guard := some (32, true) }
theorem hS_37 : opsS[37]? = some qS_37 := by kernel_rfl
theorem lS_36 : (LS 36).setIfInBounds 37 true = LS 37 := by kernel_rfl
theorem tS_36 {Q : Exit → Act → World → Prop} {S : World → Prop} {a : Act} {w : World} (v : Value) (hQ : ∀ c a w, Q (.panic c) (a.put (some 97) v) w → Q (.panic c) a w) (hy : YieldsIf Tryd.prog opsS S qS_37 v a) (hS : S w)
    (h : wpAnyH Tryd.prog .any opsS Q S 35 (LS 37) (a.put (some 97) v) w) : wpAnyH Tryd.prog .any opsS Q S 36 (LS 36) a w :=
  wpAnyH_take (i := 37) hS_37 noselS (by kernel_rfl) (by kernel_rfl) hQ hy hS (lS_36.symm ▸ h)
def qS_35 : Oper := { dst := some 95, op := Op.call { callee := Callee.value (Operand.func 16), args := #[Operand.tmp 93, Operand.tmp 94], argTypes := #[25, 25] }, type := 3, pos := "laws.go:231", after := #[{ on := 33, ground := Ground.data }, { on := 34, ground := Ground.data }, { on := 32, ground := Ground.chain }, { on := 32, ground := Ground.guard }], guard := some (32, true) }
theorem hS_35 : opsS[35]? = some qS_35 := by kernel_rfl
theorem lS_37 : (LS 37).setIfInBounds 35 true = LS 38 := by kernel_rfl
theorem cS_37 {Q : Exit → Act → World → Prop} {S : World → Prop} {a : Act} {w : World}
    (h : ∀ K' : Act → World → Prop, Shut (∀ a w, S w → (S w → wpAnyH Tryd.prog .any opsS Q S 34 (LS 38) a w) → K' a w) → if Region.wanted qS_35 (yielded opsS a.tmps) = true then Oper.wp Tryd.prog qS_35 a w K' Q else K' (a.put (some 95) undef) w) :
    wpAnyH Tryd.prog .any opsS Q S 35 (LS 37) a w :=
  wpAnyH_ready (rs := [35]) (by kernel_rfl) (by simp) (AllReadyH.cons hS_35 (fun K' hK => h K' (lS_37 ▸ hK)) AllReadyH.nil)
theorem tS_37 {Q : Exit → Act → World → Prop} {S : World → Prop} {a : Act} {w : World} (v : Value) (hQ : ∀ c a w, Q (.panic c) (a.put (some 95) v) w → Q (.panic c) a w) (hy : YieldsIf Tryd.prog opsS S qS_35 v a) (hS : S w)
    (h : wpAnyH Tryd.prog .any opsS Q S 34 (LS 38) (a.put (some 95) v) w) : wpAnyH Tryd.prog .any opsS Q S 35 (LS 37) a w :=
  wpAnyH_take (i := 35) hS_35 noselS (by kernel_rfl) (by kernel_rfl) hQ hy hS (lS_37.symm ▸ h)
def qS_38 : Oper := { dst := some 98, op := Op.call { callee := Callee.value (Operand.func 16), args := #[Operand.tmp 96, Operand.tmp 97], argTypes := #[25, 25] }, type := 3, pos := "laws.go:231", after := #[{ on := 36, ground := Ground.data }, { on := 37, ground := Ground.data }, { on := 35, ground := Ground.chain }, { on := 32, ground := Ground.guard }], guard := some (32, true) }
theorem hS_38 : opsS[38]? = some qS_38 := by kernel_rfl
theorem lS_38 : (LS 38).setIfInBounds 38 true = LS 39 := by kernel_rfl
theorem cS_38 {Q : Exit → Act → World → Prop} {S : World → Prop} {a : Act} {w : World}
    (h : ∀ K' : Act → World → Prop, Shut (∀ a w, S w → (S w → wpAnyH Tryd.prog .any opsS Q S 33 (LS 39) a w) → K' a w) → if Region.wanted qS_38 (yielded opsS a.tmps) = true then Oper.wp Tryd.prog qS_38 a w K' Q else K' (a.put (some 98) undef) w) :
    wpAnyH Tryd.prog .any opsS Q S 34 (LS 38) a w :=
  wpAnyH_ready (rs := [38]) (by kernel_rfl) (by simp) (AllReadyH.cons hS_38 (fun K' hK => h K' (lS_38 ▸ hK)) AllReadyH.nil)
theorem tS_38 {Q : Exit → Act → World → Prop} {S : World → Prop} {a : Act} {w : World} (v : Value) (hQ : ∀ c a w, Q (.panic c) (a.put (some 98) v) w → Q (.panic c) a w) (hy : YieldsIf Tryd.prog opsS S qS_38 v a) (hS : S w)
    (h : wpAnyH Tryd.prog .any opsS Q S 33 (LS 39) (a.put (some 98) v) w) : wpAnyH Tryd.prog .any opsS Q S 34 (LS 38) a w :=
  wpAnyH_take (i := 38) hS_38 noselS (by kernel_rfl) (by kernel_rfl) hQ hy hS (lS_38.symm ▸ h)
def qS_39 : Oper := { dst := some 99, op := Op.unOp UnOp.neg 3 (Operand.tmp 98), type := 3, pos := "laws.go:231", after := #[{ on := 38, ground := Ground.data }, { on := 32, ground := Ground.guard }], guard := some (32, true) }
theorem hS_39 : opsS[39]? = some qS_39 := by kernel_rfl
theorem lS_39 : (LS 39).setIfInBounds 39 true = LS 40 := by kernel_rfl
theorem tS_39 {Q : Exit → Act → World → Prop} {S : World → Prop} {a : Act} {w : World} (v : Value) (hQ : ∀ c a w, Q (.panic c) (a.put (some 99) v) w → Q (.panic c) a w) (hy : YieldsIf Tryd.prog opsS S qS_39 v a) (hS : S w)
    (h : wpAnyH Tryd.prog .any opsS Q S 32 (LS 40) (a.put (some 99) v) w) : wpAnyH Tryd.prog .any opsS Q S 33 (LS 39) a w :=
  wpAnyH_take (i := 39) hS_39 noselS (by kernel_rfl) (by kernel_rfl) hQ hy hS (lS_39.symm ▸ h)
def qS_40 : Oper := { dst := some 100, op := Op.binOp BinOp.eql 3 (Operand.tmp 95) (Operand.tmp 99) 3, type := 4, pos := "laws.go:231", after := #[{ on := 35, ground := Ground.data }, { on := 39, ground := Ground.data }, { on := 32, ground := Ground.guard }], guard := some (32, true) }
theorem hS_40 : opsS[40]? = some qS_40 := by kernel_rfl
theorem lS_40 : (LS 40).setIfInBounds 40 true = LS 41 := by kernel_rfl
theorem tS_40 {Q : Exit → Act → World → Prop} {S : World → Prop} {a : Act} {w : World} (v : Value) (hQ : ∀ c a w, Q (.panic c) (a.put (some 100) v) w → Q (.panic c) a w) (hy : YieldsIf Tryd.prog opsS S qS_40 v a) (hS : S w)
    (h : wpAnyH Tryd.prog .any opsS Q S 31 (LS 41) (a.put (some 100) v) w) : wpAnyH Tryd.prog .any opsS Q S 32 (LS 40) a w :=
  wpAnyH_take (i := 40) hS_40 noselS (by kernel_rfl) (by kernel_rfl) hQ hy hS (lS_40.symm ▸ h)
def qS_41 : Oper := { dst := some 101, op := Op.pick (Operand.tmp 92) (Operand.tmp 100) (Operand.const (Value.bool false)), type := 4, pos := "laws.go:231", after := #[{ on := 32, ground := Ground.data }, { on := 40, ground := Ground.data }], guard := none }
theorem hS_41 : opsS[41]? = some qS_41 := by kernel_rfl
theorem lS_41 : (LS 41).setIfInBounds 41 true = LS 42 := by kernel_rfl
theorem tS_41 {Q : Exit → Act → World → Prop} {S : World → Prop} {a : Act} {w : World} (v : Value) (hQ : ∀ c a w, Q (.panic c) (a.put (some 101) v) w → Q (.panic c) a w) (hy : YieldsIf Tryd.prog opsS S qS_41 v a) (hS : S w)
    (h : wpAnyH Tryd.prog .any opsS Q S 30 (LS 42) (a.put (some 101) v) w) : wpAnyH Tryd.prog .any opsS Q S 31 (LS 41) a w :=
  wpAnyH_take (i := 41) hS_41 noselS (by kernel_rfl) (by kernel_rfl) hQ hy hS (lS_41.symm ▸ h)
def qS_42 : Oper := { dst := some 102, op := Op.move (Operand.tmp 101), type := 4, pos := "laws.go:231", after := #[{ on := 41, ground := Ground.data }, { on := 38, ground := Ground.chain }], guard := none }
theorem hS_42 : opsS[42]? = some qS_42 := by kernel_rfl
theorem lS_42 : (LS 42).setIfInBounds 42 true = LS 43 := by kernel_rfl
theorem tS_42 {Q : Exit → Act → World → Prop} {S : World → Prop} {a : Act} {w : World} (v : Value) (hQ : ∀ c a w, Q (.panic c) (a.put (some 102) v) w → Q (.panic c) a w) (hy : YieldsIf Tryd.prog opsS S qS_42 v a) (hS : S w)
    (h : wpAnyH Tryd.prog .any opsS Q S 29 (LS 43) (a.put (some 102) v) w) : wpAnyH Tryd.prog .any opsS Q S 30 (LS 42) a w :=
  wpAnyH_take (i := 42) hS_42 noselS (by kernel_rfl) (by kernel_rfl) hQ hy hS (lS_42.symm ▸ h)
def qS_43 : Oper := { dst := some 103, op := Op.move (Operand.tmp 11), type := 4, pos := "laws.go:231", after := #[{ on := 42, ground := Ground.guard }], guard := some (42, true) }
theorem hS_43 : opsS[43]? = some qS_43 := by kernel_rfl
theorem lS_43 : (LS 43).setIfInBounds 43 true = LS 44 := by kernel_rfl
theorem tS_43 {Q : Exit → Act → World → Prop} {S : World → Prop} {a : Act} {w : World} (v : Value) (hQ : ∀ c a w, Q (.panic c) (a.put (some 103) v) w → Q (.panic c) a w) (hy : YieldsIf Tryd.prog opsS S qS_43 v a) (hS : S w)
    (h : wpAnyH Tryd.prog .any opsS Q S 28 (LS 44) (a.put (some 103) v) w) : wpAnyH Tryd.prog .any opsS Q S 29 (LS 43) a w :=
  wpAnyH_take (i := 43) hS_43 noselS (by kernel_rfl) (by kernel_rfl) hQ hy hS (lS_43.symm ▸ h)
def qS_44 : Oper := { dst := some 104, op := Op.unOp UnOp.not 4 (Operand.tmp 103), type := 4, pos := "laws.go:231", after := #[{ on := 43, ground := Ground.data }, { on := 42, ground := Ground.guard }], guard := some (42, true) }
theorem hS_44 : opsS[44]? = some qS_44 := by kernel_rfl
theorem lS_44 : (LS 44).setIfInBounds 44 true = LS 45 := by kernel_rfl
theorem tS_44 {Q : Exit → Act → World → Prop} {S : World → Prop} {a : Act} {w : World} (v : Value) (hQ : ∀ c a w, Q (.panic c) (a.put (some 104) v) w → Q (.panic c) a w) (hy : YieldsIf Tryd.prog opsS S qS_44 v a) (hS : S w)
    (h : wpAnyH Tryd.prog .any opsS Q S 27 (LS 45) (a.put (some 104) v) w) : wpAnyH Tryd.prog .any opsS Q S 28 (LS 44) a w :=
  wpAnyH_take (i := 44) hS_44 noselS (by kernel_rfl) (by kernel_rfl) hQ hy hS (lS_44.symm ▸ h)
def qS_45 : Oper := { dst := some 105, op := Op.move (Operand.tmp 104), type := 4, pos := "laws.go:231", after := #[{ on := 44, ground := Ground.data }, { on := 42, ground := Ground.chain }, { on := 42, ground := Ground.guard }], guard := some (42, true) }
theorem hS_45 : opsS[45]? = some qS_45 := by kernel_rfl
theorem lS_45 : (LS 45).setIfInBounds 45 true = LS 46 := by kernel_rfl
theorem tS_45 {Q : Exit → Act → World → Prop} {S : World → Prop} {a : Act} {w : World} (v : Value) (hQ : ∀ c a w, Q (.panic c) (a.put (some 105) v) w → Q (.panic c) a w) (hy : YieldsIf Tryd.prog opsS S qS_45 v a) (hS : S w)
    (h : wpAnyH Tryd.prog .any opsS Q S 26 (LS 46) (a.put (some 105) v) w) : wpAnyH Tryd.prog .any opsS Q S 27 (LS 45) a w :=
  wpAnyH_take (i := 45) hS_45 noselS (by kernel_rfl) (by kernel_rfl) hQ hy hS (lS_45.symm ▸ h)
def qS_46 : Oper := { dst := some 106, op := Op.load 25 (Operand.tmp 3), type := 25, pos := "laws.go:231", after := #[{ on := 45, ground := Ground.guard }], guard := some (45, false) }
theorem hS_46 : opsS[46]? = some qS_46 := by kernel_rfl
theorem lS_46 : (LS 46).setIfInBounds 46 true = LS 47 := by kernel_rfl
theorem tS_46 {Q : Exit → Act → World → Prop} {S : World → Prop} {a : Act} {w : World} (v : Value) (hQ : ∀ c a w, Q (.panic c) (a.put (some 106) v) w → Q (.panic c) a w) (hy : YieldsIf Tryd.prog opsS S qS_46 v a) (hS : S w)
    (h : wpAnyH Tryd.prog .any opsS Q S 25 (LS 47) (a.put (some 106) v) w) : wpAnyH Tryd.prog .any opsS Q S 26 (LS 46) a w :=
  wpAnyH_take (i := 46) hS_46 noselS (by kernel_rfl) (by kernel_rfl) hQ hy hS (lS_46.symm ▸ h)
def qS_47 : Oper := { dst := some 107, op := Op.load 25 (Operand.tmp 4), type := 25, pos := "laws.go:231", after := #[{ on := 45, ground := Ground.guard }], guard := some (45, false) }
theorem hS_47 : opsS[47]? = some qS_47 := by kernel_rfl
theorem lS_47 : (LS 47).setIfInBounds 47 true = LS 48 := by kernel_rfl
theorem tS_47 {Q : Exit → Act → World → Prop} {S : World → Prop} {a : Act} {w : World} (v : Value) (hQ : ∀ c a w, Q (.panic c) (a.put (some 107) v) w → Q (.panic c) a w) (hy : YieldsIf Tryd.prog opsS S qS_47 v a) (hS : S w)
    (h : wpAnyH Tryd.prog .any opsS Q S 24 (LS 48) (a.put (some 107) v) w) : wpAnyH Tryd.prog .any opsS Q S 25 (LS 47) a w :=
  wpAnyH_take (i := 47) hS_47 noselS (by kernel_rfl) (by kernel_rfl) hQ hy hS (lS_47.symm ▸ h)
def qS_48 : Oper := { dst := some 108, op := Op.call { callee := Callee.value (Operand.func 16), args := #[Operand.tmp 106, Operand.tmp 107], argTypes := #[25, 25] }, type := 3, pos := "laws.go:231", after := #[{ on := 46, ground := Ground.data }, { on := 47, ground := Ground.data }, { on := 45, ground := Ground.chain }, { on := 45, ground := Ground.guard }], guard := some (45, false) }
theorem hS_48 : opsS[48]? = some qS_48 := by kernel_rfl
theorem lS_48 : (LS 48).setIfInBounds 48 true = LS 49 := by kernel_rfl
theorem cS_48 {Q : Exit → Act → World → Prop} {S : World → Prop} {a : Act} {w : World}
    (h : ∀ K' : Act → World → Prop, Shut (∀ a w, S w → (S w → wpAnyH Tryd.prog .any opsS Q S 23 (LS 49) a w) → K' a w) → if Region.wanted qS_48 (yielded opsS a.tmps) = true then Oper.wp Tryd.prog qS_48 a w K' Q else K' (a.put (some 108) undef) w) :
    wpAnyH Tryd.prog .any opsS Q S 24 (LS 48) a w :=
  wpAnyH_ready (rs := [48]) (by kernel_rfl) (by simp) (AllReadyH.cons hS_48 (fun K' hK => h K' (lS_48 ▸ hK)) AllReadyH.nil)
theorem tS_48 {Q : Exit → Act → World → Prop} {S : World → Prop} {a : Act} {w : World} (v : Value) (hQ : ∀ c a w, Q (.panic c) (a.put (some 108) v) w → Q (.panic c) a w) (hy : YieldsIf Tryd.prog opsS S qS_48 v a) (hS : S w)
    (h : wpAnyH Tryd.prog .any opsS Q S 23 (LS 49) (a.put (some 108) v) w) : wpAnyH Tryd.prog .any opsS Q S 24 (LS 48) a w :=
  wpAnyH_take (i := 48) hS_48 noselS (by kernel_rfl) (by kernel_rfl) hQ hy hS (lS_48.symm ▸ h)
def qS_49 : Oper := { dst := some 109, op := Op.binOp BinOp.leq 3 (Operand.tmp 108) (Operand.const (Value.int IntKind.i64 0)) 3, type := 4, pos := "laws.go:231", after := #[{ on := 48, ground := Ground.data }, { on := 45, ground := Ground.guard }], guard := some (45, false) }
theorem hS_49 : opsS[49]? = some qS_49 := by kernel_rfl
theorem lS_49 : (LS 49).setIfInBounds 49 true = LS 50 := by kernel_rfl
theorem tS_49 {Q : Exit → Act → World → Prop} {S : World → Prop} {a : Act} {w : World} (v : Value) (hQ : ∀ c a w, Q (.panic c) (a.put (some 109) v) w → Q (.panic c) a w) (hy : YieldsIf Tryd.prog opsS S qS_49 v a) (hS : S w)
    (h : wpAnyH Tryd.prog .any opsS Q S 22 (LS 50) (a.put (some 109) v) w) : wpAnyH Tryd.prog .any opsS Q S 23 (LS 49) a w :=
  wpAnyH_take (i := 49) hS_49 noselS (by kernel_rfl) (by kernel_rfl) hQ hy hS (lS_49.symm ▸ h)
def qS_50 : Oper := { dst := some 110, op := Op.pick (Operand.tmp 105) (Operand.const (Value.bool true)) (Operand.tmp 109), type := 4, pos := "laws.go:231", after := #[{ on := 45, ground := Ground.data }, { on := 49, ground := Ground.data }, { on := 42, ground := Ground.guard }], guard := some (42, true) }
theorem hS_50 : opsS[50]? = some qS_50 := by kernel_rfl
theorem lS_50 : (LS 50).setIfInBounds 50 true = LS 51 := by kernel_rfl
theorem tS_50 {Q : Exit → Act → World → Prop} {S : World → Prop} {a : Act} {w : World} (v : Value) (hQ : ∀ c a w, Q (.panic c) (a.put (some 110) v) w → Q (.panic c) a w) (hy : YieldsIf Tryd.prog opsS S qS_50 v a) (hS : S w)
    (h : wpAnyH Tryd.prog .any opsS Q S 21 (LS 51) (a.put (some 110) v) w) : wpAnyH Tryd.prog .any opsS Q S 22 (LS 50) a w :=
  wpAnyH_take (i := 50) hS_50 noselS (by kernel_rfl) (by kernel_rfl) hQ hy hS (lS_50.symm ▸ h)
def qS_51 : Oper := { dst := some 111, op := Op.pick (Operand.tmp 102) (Operand.tmp 110) (Operand.const (Value.bool false)), type := 4, pos := "laws.go:231", after := #[{ on := 42, ground := Ground.data }, { on := 50, ground := Ground.data }], guard := none }
theorem hS_51 : opsS[51]? = some qS_51 := by kernel_rfl
theorem lS_51 : (LS 51).setIfInBounds 51 true = LS 52 := by kernel_rfl
theorem tS_51 {Q : Exit → Act → World → Prop} {S : World → Prop} {a : Act} {w : World} (v : Value) (hQ : ∀ c a w, Q (.panic c) (a.put (some 111) v) w → Q (.panic c) a w) (hy : YieldsIf Tryd.prog opsS S qS_51 v a) (hS : S w)
    (h : wpAnyH Tryd.prog .any opsS Q S 20 (LS 52) (a.put (some 111) v) w) : wpAnyH Tryd.prog .any opsS Q S 21 (LS 51) a w :=
  wpAnyH_take (i := 51) hS_51 noselS (by kernel_rfl) (by kernel_rfl) hQ hy hS (lS_51.symm ▸ h)
def qS_52 : Oper := { dst := some 112, op := Op.move (Operand.tmp 111), type := 4, pos := "laws.go:231", after := #[{ on := 51, ground := Ground.data }, { on := 48, ground := Ground.chain }], guard := none }
theorem hS_52 : opsS[52]? = some qS_52 := by kernel_rfl
theorem lS_52 : (LS 52).setIfInBounds 52 true = LS 53 := by kernel_rfl
theorem tS_52 {Q : Exit → Act → World → Prop} {S : World → Prop} {a : Act} {w : World} (v : Value) (hQ : ∀ c a w, Q (.panic c) (a.put (some 112) v) w → Q (.panic c) a w) (hy : YieldsIf Tryd.prog opsS S qS_52 v a) (hS : S w)
    (h : wpAnyH Tryd.prog .any opsS Q S 19 (LS 53) (a.put (some 112) v) w) : wpAnyH Tryd.prog .any opsS Q S 20 (LS 52) a w :=
  wpAnyH_take (i := 52) hS_52 noselS (by kernel_rfl) (by kernel_rfl) hQ hy hS (lS_52.symm ▸ h)
def qS_53 : Oper := { dst := some 113, op := Op.move (Operand.tmp 8), type := 4, pos := "laws.go:231", after := #[{ on := 52, ground := Ground.guard }], guard := some (52, true) }
theorem hS_53 : opsS[53]? = some qS_53 := by kernel_rfl
theorem lS_53 : (LS 53).setIfInBounds 53 true = LS 54 := by kernel_rfl
theorem tS_53 {Q : Exit → Act → World → Prop} {S : World → Prop} {a : Act} {w : World} (v : Value) (hQ : ∀ c a w, Q (.panic c) (a.put (some 113) v) w → Q (.panic c) a w) (hy : YieldsIf Tryd.prog opsS S qS_53 v a) (hS : S w)
    (h : wpAnyH Tryd.prog .any opsS Q S 18 (LS 54) (a.put (some 113) v) w) : wpAnyH Tryd.prog .any opsS Q S 19 (LS 53) a w :=
  wpAnyH_take (i := 53) hS_53 noselS (by kernel_rfl) (by kernel_rfl) hQ hy hS (lS_53.symm ▸ h)
def qS_54 : Oper := { dst := some 114, op := Op.unOp UnOp.not 4 (Operand.tmp 113), type := 4, pos := "laws.go:231", after := #[{ on := 53, ground := Ground.data }, { on := 52, ground := Ground.guard }], guard := some (52, true) }
theorem hS_54 : opsS[54]? = some qS_54 := by kernel_rfl
theorem lS_54 : (LS 54).setIfInBounds 54 true = LS 55 := by kernel_rfl
theorem tS_54 {Q : Exit → Act → World → Prop} {S : World → Prop} {a : Act} {w : World} (v : Value) (hQ : ∀ c a w, Q (.panic c) (a.put (some 114) v) w → Q (.panic c) a w) (hy : YieldsIf Tryd.prog opsS S qS_54 v a) (hS : S w)
    (h : wpAnyH Tryd.prog .any opsS Q S 17 (LS 55) (a.put (some 114) v) w) : wpAnyH Tryd.prog .any opsS Q S 18 (LS 54) a w :=
  wpAnyH_take (i := 54) hS_54 noselS (by kernel_rfl) (by kernel_rfl) hQ hy hS (lS_54.symm ▸ h)
def qS_55 : Oper := { dst := some 115, op := Op.move (Operand.tmp 114), type := 4, pos := "laws.go:231", after := #[{ on := 54, ground := Ground.data }, { on := 52, ground := Ground.chain }, { on := 52, ground := Ground.guard }], guard := some (52, true) }
theorem hS_55 : opsS[55]? = some qS_55 := by kernel_rfl
theorem lS_55 : (LS 55).setIfInBounds 55 true = LS 56 := by kernel_rfl
theorem tS_55 {Q : Exit → Act → World → Prop} {S : World → Prop} {a : Act} {w : World} (v : Value) (hQ : ∀ c a w, Q (.panic c) (a.put (some 115) v) w → Q (.panic c) a w) (hy : YieldsIf Tryd.prog opsS S qS_55 v a) (hS : S w)
    (h : wpAnyH Tryd.prog .any opsS Q S 16 (LS 56) (a.put (some 115) v) w) : wpAnyH Tryd.prog .any opsS Q S 17 (LS 55) a w :=
  wpAnyH_take (i := 55) hS_55 noselS (by kernel_rfl) (by kernel_rfl) hQ hy hS (lS_55.symm ▸ h)
def qS_56 : Oper := { dst := some 116, op := Op.load 25 (Operand.tmp 3), type := 25, pos := "laws.go:231", after := #[{ on := 55, ground := Ground.guard }], guard := some (55, false) }
theorem hS_56 : opsS[56]? = some qS_56 := by kernel_rfl
theorem lS_56 : (LS 56).setIfInBounds 56 true = LS 57 := by kernel_rfl
theorem tS_56 {Q : Exit → Act → World → Prop} {S : World → Prop} {a : Act} {w : World} (v : Value) (hQ : ∀ c a w, Q (.panic c) (a.put (some 116) v) w → Q (.panic c) a w) (hy : YieldsIf Tryd.prog opsS S qS_56 v a) (hS : S w)
    (h : wpAnyH Tryd.prog .any opsS Q S 15 (LS 57) (a.put (some 116) v) w) : wpAnyH Tryd.prog .any opsS Q S 16 (LS 56) a w :=
  wpAnyH_take (i := 56) hS_56 noselS (by kernel_rfl) (by kernel_rfl) hQ hy hS (lS_56.symm ▸ h)
def qS_57 : Oper := { dst := some 117, op := Op.load 25 (Operand.tmp 7), type := 25, pos := "laws.go:231", after := #[{ on := 55, ground := Ground.guard }], guard := some (55, false) }
theorem hS_57 : opsS[57]? = some qS_57 := by kernel_rfl
theorem lS_57 : (LS 57).setIfInBounds 57 true = LS 58 := by kernel_rfl
theorem tS_57 {Q : Exit → Act → World → Prop} {S : World → Prop} {a : Act} {w : World} (v : Value) (hQ : ∀ c a w, Q (.panic c) (a.put (some 117) v) w → Q (.panic c) a w) (hy : YieldsIf Tryd.prog opsS S qS_57 v a) (hS : S w)
    (h : wpAnyH Tryd.prog .any opsS Q S 14 (LS 58) (a.put (some 117) v) w) : wpAnyH Tryd.prog .any opsS Q S 15 (LS 57) a w :=
  wpAnyH_take (i := 57) hS_57 noselS (by kernel_rfl) (by kernel_rfl) hQ hy hS (lS_57.symm ▸ h)
def qS_58 : Oper := { dst := some 118, op := Op.call { callee := Callee.value (Operand.func 15), args := #[Operand.tmp 116, Operand.tmp 117], argTypes := #[25, 25] }, type := 4, pos := "laws.go:231", after := #[{ on := 56, ground := Ground.data }, { on := 57, ground := Ground.data }, { on := 55, ground := Ground.chain }, { on := 55, ground := Ground.guard }], guard := some (55, false) }
theorem hS_58 : opsS[58]? = some qS_58 := by kernel_rfl
theorem lS_58 : (LS 58).setIfInBounds 58 true = LS 59 := by kernel_rfl
theorem cS_58 {Q : Exit → Act → World → Prop} {S : World → Prop} {a : Act} {w : World}
    (h : ∀ K' : Act → World → Prop, Shut (∀ a w, S w → (S w → wpAnyH Tryd.prog .any opsS Q S 13 (LS 59) a w) → K' a w) → if Region.wanted qS_58 (yielded opsS a.tmps) = true then Oper.wp Tryd.prog qS_58 a w K' Q else K' (a.put (some 118) undef) w) :
    wpAnyH Tryd.prog .any opsS Q S 14 (LS 58) a w :=
  wpAnyH_ready (rs := [58]) (by kernel_rfl) (by simp) (AllReadyH.cons hS_58 (fun K' hK => h K' (lS_58 ▸ hK)) AllReadyH.nil)
theorem tS_58 {Q : Exit → Act → World → Prop} {S : World → Prop} {a : Act} {w : World} (v : Value) (hQ : ∀ c a w, Q (.panic c) (a.put (some 118) v) w → Q (.panic c) a w) (hy : YieldsIf Tryd.prog opsS S qS_58 v a) (hS : S w)
    (h : wpAnyH Tryd.prog .any opsS Q S 13 (LS 59) (a.put (some 118) v) w) : wpAnyH Tryd.prog .any opsS Q S 14 (LS 58) a w :=
  wpAnyH_take (i := 58) hS_58 noselS (by kernel_rfl) (by kernel_rfl) hQ hy hS (lS_58.symm ▸ h)
def qS_59 : Oper := { dst := some 119, op := Op.move (Operand.tmp 118), type := 4, pos := "laws.go:231", after := #[{ on := 58, ground := Ground.data }, { on := 58, ground := Ground.chain }, { on := 55, ground := Ground.guard }], guard := some (55, false) }
theorem hS_59 : opsS[59]? = some qS_59 := by kernel_rfl
theorem lS_59 : (LS 59).setIfInBounds 59 true = LS 60 := by kernel_rfl
theorem tS_59 {Q : Exit → Act → World → Prop} {S : World → Prop} {a : Act} {w : World} (v : Value) (hQ : ∀ c a w, Q (.panic c) (a.put (some 119) v) w → Q (.panic c) a w) (hy : YieldsIf Tryd.prog opsS S qS_59 v a) (hS : S w)
    (h : wpAnyH Tryd.prog .any opsS Q S 12 (LS 60) (a.put (some 119) v) w) : wpAnyH Tryd.prog .any opsS Q S 13 (LS 59) a w :=
  wpAnyH_take (i := 59) hS_59 noselS (by kernel_rfl) (by kernel_rfl) hQ hy hS (lS_59.symm ▸ h)
def qS_60 : Oper := { dst := some 120, op := Op.load 25 (Operand.tmp 7), type := 25, pos := "laws.go:231", after := #[{ on := 59, ground := Ground.guard }], guard := some (59, true) }
theorem hS_60 : opsS[60]? = some qS_60 := by kernel_rfl
theorem lS_60 : (LS 60).setIfInBounds 60 true = LS 61 := by kernel_rfl
theorem tS_60 {Q : Exit → Act → World → Prop} {S : World → Prop} {a : Act} {w : World} (v : Value) (hQ : ∀ c a w, Q (.panic c) (a.put (some 120) v) w → Q (.panic c) a w) (hy : YieldsIf Tryd.prog opsS S qS_60 v a) (hS : S w)
    (h : wpAnyH Tryd.prog .any opsS Q S 11 (LS 61) (a.put (some 120) v) w) : wpAnyH Tryd.prog .any opsS Q S 12 (LS 60) a w :=
  wpAnyH_take (i := 60) hS_60 noselS (by kernel_rfl) (by kernel_rfl) hQ hy hS (lS_60.symm ▸ h)
def qS_61 : Oper := { dst := some 121, op := Op.load 25 (Operand.tmp 3), type := 25, pos := "laws.go:231", after := #[{ on := 59, ground := Ground.guard }], guard := some (59, true) }
theorem hS_61 : opsS[61]? = some qS_61 := by kernel_rfl
theorem lS_61 : (LS 61).setIfInBounds 61 true = LS 62 := by kernel_rfl
theorem tS_61 {Q : Exit → Act → World → Prop} {S : World → Prop} {a : Act} {w : World} (v : Value) (hQ : ∀ c a w, Q (.panic c) (a.put (some 121) v) w → Q (.panic c) a w) (hy : YieldsIf Tryd.prog opsS S qS_61 v a) (hS : S w)
    (h : wpAnyH Tryd.prog .any opsS Q S 10 (LS 62) (a.put (some 121) v) w) : wpAnyH Tryd.prog .any opsS Q S 11 (LS 61) a w :=
  wpAnyH_take (i := 61) hS_61 noselS (by kernel_rfl) (by kernel_rfl) hQ hy hS (lS_61.symm ▸ h)
def qS_62 : Oper := { dst := some 122, op := Op.binOp BinOp.neq 25 (Operand.tmp 120) (Operand.tmp 121) 25, type := 4, pos := "laws.go:231", after := #[{ on := 60, ground := Ground.data }, { on := 61, ground := Ground.data }, { on := 59, ground := Ground.guard }], guard := some (59, true) }
theorem hS_62 : opsS[62]? = some qS_62 := by kernel_rfl
theorem lS_62 : (LS 62).setIfInBounds 62 true = LS 63 := by kernel_rfl
theorem tS_62 {Q : Exit → Act → World → Prop} {S : World → Prop} {a : Act} {w : World} (v : Value) (hQ : ∀ c a w, Q (.panic c) (a.put (some 122) v) w → Q (.panic c) a w) (hy : YieldsIf Tryd.prog opsS S qS_62 v a) (hS : S w)
    (h : wpAnyH Tryd.prog .any opsS Q S 9 (LS 63) (a.put (some 122) v) w) : wpAnyH Tryd.prog .any opsS Q S 10 (LS 62) a w :=
  wpAnyH_take (i := 62) hS_62 noselS (by kernel_rfl) (by kernel_rfl) hQ hy hS (lS_62.symm ▸ h)
def qS_63 : Oper := { dst := some 123, op := Op.pick (Operand.tmp 119) (Operand.tmp 122) (Operand.const (Value.bool false)), type := 4, pos := "laws.go:231", after := #[{ on := 59, ground := Ground.data }, { on := 62, ground := Ground.data }, { on := 55, ground := Ground.guard }], guard := some (55, false) }
theorem hS_63 : opsS[63]? = some qS_63 := by kernel_rfl
theorem lS_63 : (LS 63).setIfInBounds 63 true = LS 64 := by kernel_rfl
theorem tS_63 {Q : Exit → Act → World → Prop} {S : World → Prop} {a : Act} {w : World} (v : Value) (hQ : ∀ c a w, Q (.panic c) (a.put (some 123) v) w → Q (.panic c) a w) (hy : YieldsIf Tryd.prog opsS S qS_63 v a) (hS : S w)
    (h : wpAnyH Tryd.prog .any opsS Q S 8 (LS 64) (a.put (some 123) v) w) : wpAnyH Tryd.prog .any opsS Q S 9 (LS 63) a w :=
  wpAnyH_take (i := 63) hS_63 noselS (by kernel_rfl) (by kernel_rfl) hQ hy hS (lS_63.symm ▸ h)
def qS_64 : Oper := { dst := some 124, op := Op.pick (Operand.tmp 115) (Operand.const (Value.bool true)) (Operand.tmp 123), type := 4, pos := "laws.go:231", after := #[{ on := 55, ground := Ground.data }, { on := 63, ground := Ground.data }, { on := 52, ground := Ground.guard }], guard := some (52, true) }
theorem hS_64 : opsS[64]? = some qS_64 := by kernel_rfl
theorem lS_64 : (LS 64).setIfInBounds 64 true = LS 65 := by kernel_rfl
theorem tS_64 {Q : Exit → Act → World → Prop} {S : World → Prop} {a : Act} {w : World} (v : Value) (hQ : ∀ c a w, Q (.panic c) (a.put (some 124) v) w → Q (.panic c) a w) (hy : YieldsIf Tryd.prog opsS S qS_64 v a) (hS : S w)
    (h : wpAnyH Tryd.prog .any opsS Q S 7 (LS 65) (a.put (some 124) v) w) : wpAnyH Tryd.prog .any opsS Q S 8 (LS 64) a w :=
  wpAnyH_take (i := 64) hS_64 noselS (by kernel_rfl) (by kernel_rfl) hQ hy hS (lS_64.symm ▸ h)
def qS_65 : Oper := { dst := some 125, op := Op.pick (Operand.tmp 112) (Operand.tmp 124) (Operand.const (Value.bool false)), type := 4, pos := "laws.go:231", after := #[{ on := 52, ground := Ground.data }, { on := 64, ground := Ground.data }], guard := none }
theorem hS_65 : opsS[65]? = some qS_65 := by kernel_rfl
theorem lS_65 : (LS 65).setIfInBounds 65 true = LS 66 := by kernel_rfl
theorem tS_65 {Q : Exit → Act → World → Prop} {S : World → Prop} {a : Act} {w : World} (v : Value) (hQ : ∀ c a w, Q (.panic c) (a.put (some 125) v) w → Q (.panic c) a w) (hy : YieldsIf Tryd.prog opsS S qS_65 v a) (hS : S w)
    (h : wpAnyH Tryd.prog .any opsS Q S 6 (LS 66) (a.put (some 125) v) w) : wpAnyH Tryd.prog .any opsS Q S 7 (LS 65) a w :=
  wpAnyH_take (i := 65) hS_65 noselS (by kernel_rfl) (by kernel_rfl) hQ hy hS (lS_65.symm ▸ h)
def qS_66 : Oper := { dst := some 126, op := Op.move (Operand.tmp 125), type := 4, pos := "laws.go:231", after := #[{ on := 65, ground := Ground.data }, { on := 59, ground := Ground.chain }], guard := none }
theorem hS_66 : opsS[66]? = some qS_66 := by kernel_rfl
theorem lS_66 : (LS 66).setIfInBounds 66 true = LS 67 := by kernel_rfl
theorem tS_66 {Q : Exit → Act → World → Prop} {S : World → Prop} {a : Act} {w : World} (v : Value) (hQ : ∀ c a w, Q (.panic c) (a.put (some 126) v) w → Q (.panic c) a w) (hy : YieldsIf Tryd.prog opsS S qS_66 v a) (hS : S w)
    (h : wpAnyH Tryd.prog .any opsS Q S 5 (LS 67) (a.put (some 126) v) w) : wpAnyH Tryd.prog .any opsS Q S 6 (LS 66) a w :=
  wpAnyH_take (i := 66) hS_66 noselS (by kernel_rfl) (by kernel_rfl) hQ hy hS (lS_66.symm ▸ h)
def qS_67 : Oper := { dst := some 127, op := Op.build 25 #[(0, Operand.const (Value.int IntKind.i64 1)), (1, Operand.const (Value.int IntKind.i64 2))], type := 25, pos := "laws.go:231", after := #[{ on := 66, ground := Ground.guard }], guard := some (66, true) }
theorem hS_67 : opsS[67]? = some qS_67 := by kernel_rfl
theorem lS_67 : (LS 67).setIfInBounds 67 true = LS 68 := by kernel_rfl
theorem tS_67 {Q : Exit → Act → World → Prop} {S : World → Prop} {a : Act} {w : World} (v : Value) (hQ : ∀ c a w, Q (.panic c) (a.put (some 127) v) w → Q (.panic c) a w) (hy : YieldsIf Tryd.prog opsS S qS_67 v a) (hS : S w)
    (h : wpAnyH Tryd.prog .any opsS Q S 4 (LS 68) (a.put (some 127) v) w) : wpAnyH Tryd.prog .any opsS Q S 5 (LS 67) a w :=
  wpAnyH_take (i := 67) hS_67 noselS (by kernel_rfl) (by kernel_rfl) hQ hy hS (lS_67.symm ▸ h)
def qS_68 : Oper := { dst := some 128, op := Op.call { callee := Callee.value (Operand.func 13), args := #[Operand.tmp 127], argTypes := #[25] }, type := 9, pos := "laws.go:231", after := #[{ on := 67, ground := Ground.data }, { on := 66, ground := Ground.chain }, { on := 66, ground := Ground.guard }], guard := some (66, true) }
theorem hS_68 : opsS[68]? = some qS_68 := by kernel_rfl
theorem lS_68 : (LS 68).setIfInBounds 68 true = LS 69 := by kernel_rfl
theorem cS_68 {Q : Exit → Act → World → Prop} {S : World → Prop} {a : Act} {w : World}
    (h : ∀ K' : Act → World → Prop, Shut (∀ a w, S w → (S w → wpAnyH Tryd.prog .any opsS Q S 3 (LS 69) a w) → K' a w) → if Region.wanted qS_68 (yielded opsS a.tmps) = true then Oper.wp Tryd.prog qS_68 a w K' Q else K' (a.put (some 128) undef) w) :
    wpAnyH Tryd.prog .any opsS Q S 4 (LS 68) a w :=
  wpAnyH_ready (rs := [68]) (by kernel_rfl) (by simp) (AllReadyH.cons hS_68 (fun K' hK => h K' (lS_68 ▸ hK)) AllReadyH.nil)
theorem tS_68 {Q : Exit → Act → World → Prop} {S : World → Prop} {a : Act} {w : World} (v : Value) (hQ : ∀ c a w, Q (.panic c) (a.put (some 128) v) w → Q (.panic c) a w) (hy : YieldsIf Tryd.prog opsS S qS_68 v a) (hS : S w)
    (h : wpAnyH Tryd.prog .any opsS Q S 3 (LS 69) (a.put (some 128) v) w) : wpAnyH Tryd.prog .any opsS Q S 4 (LS 68) a w :=
  wpAnyH_take (i := 68) hS_68 noselS (by kernel_rfl) (by kernel_rfl) hQ hy hS (lS_68.symm ▸ h)
def qS_69 : Oper := { dst := some 129, op := Op.binOp BinOp.eql 9 (Operand.tmp 128) (Operand.const (Value.string { data := #[49, 46, 50] })) 9, type := 4, pos := "laws.go:231", after := #[{ on := 68, ground := Ground.data }, { on := 66, ground := Ground.guard }], guard := some (66, true) }
theorem hS_69 : opsS[69]? = some qS_69 := by kernel_rfl
theorem lS_69 : (LS 69).setIfInBounds 69 true = LS 70 := by kernel_rfl
theorem tS_69 {Q : Exit → Act → World → Prop} {S : World → Prop} {a : Act} {w : World} (v : Value) (hQ : ∀ c a w, Q (.panic c) (a.put (some 129) v) w → Q (.panic c) a w) (hy : YieldsIf Tryd.prog opsS S qS_69 v a) (hS : S w)
    (h : wpAnyH Tryd.prog .any opsS Q S 2 (LS 70) (a.put (some 129) v) w) : wpAnyH Tryd.prog .any opsS Q S 3 (LS 69) a w :=
  wpAnyH_take (i := 69) hS_69 noselS (by kernel_rfl) (by kernel_rfl) hQ hy hS (lS_69.symm ▸ h)
def qS_70 : Oper := { dst := some 130, op := Op.pick (Operand.tmp 126) (Operand.tmp 129) (Operand.const (Value.bool false)), type := 4, pos := "laws.go:231", after := #[{ on := 66, ground := Ground.data }, { on := 69, ground := Ground.data }], guard := none }
theorem hS_70 : opsS[70]? = some qS_70 := by kernel_rfl
theorem lS_70 : (LS 70).setIfInBounds 70 true = LS 71 := by kernel_rfl
theorem tS_70 {Q : Exit → Act → World → Prop} {S : World → Prop} {a : Act} {w : World} (v : Value) (hQ : ∀ c a w, Q (.panic c) (a.put (some 130) v) w → Q (.panic c) a w) (hy : YieldsIf Tryd.prog opsS S qS_70 v a) (hS : S w)
    (h : wpAnyH Tryd.prog .any opsS Q S 1 (LS 71) (a.put (some 130) v) w) : wpAnyH Tryd.prog .any opsS Q S 2 (LS 70) a w :=
  wpAnyH_take (i := 70) hS_70 noselS (by kernel_rfl) (by kernel_rfl) hQ hy hS (lS_70.symm ▸ h)
def qS_71 : Oper := { dst := some 2, op := Op.assign (Operand.tmp 130), type := 4, pos := "laws.go:231", after := ([{ on := 70, ground := Ground.data }, { on := 68, ground := Ground.chain }, { on := 0, ground := Ground.phase }, { on := 1, ground := Ground.phase }, { on := 2, ground := Ground.phase }, { on := 3, ground := Ground.phase }, { on := 4, ground := Ground.phase }, { on := 5, ground := Ground.phase }, { on := 6, ground := Ground.phase }, { on := 7, ground := Ground.phase }, { on := 8, ground := Ground.phase }, { on := 9, ground := Ground.phase }, { on := 10, ground := Ground.phase }, { on := 11, ground := Ground.phase }, { on := 12, ground := Ground.phase }, { on := 13, ground := Ground.phase }, { on := 14, ground := Ground.phase }, { on := 15, ground := Ground.phase }, { on := 16, ground := Ground.phase }, { on := 17, ground := Ground.phase }, { on := 18, ground := Ground.phase }, { on := 19, ground := Ground.phase }, { on := 20, ground := Ground.phase }, { on := 21, ground := Ground.phase }, { on := 22, ground := Ground.phase }, { on := 23, ground := Ground.phase }, { on := 24, ground := Ground.phase }, { on := 25, ground := Ground.phase }, { on := 26, ground := Ground.phase }, { on := 27, ground := Ground.phase }, { on := 28, ground := Ground.phase }, { on := 29, ground := Ground.phase }, { on := 30, ground := Ground.phase }, { on := 31, ground := Ground.phase }, { on := 32, ground := Ground.phase }, { on := 33, ground := Ground.phase }].append [{ on := 34, ground := Ground.phase }, { on := 35, ground := Ground.phase }, { on := 36, ground := Ground.phase }, { on := 37, ground := Ground.phase }, { on := 38, ground := Ground.phase }, { on := 39, ground := Ground.phase }, { on := 40, ground := Ground.phase }, { on := 41, ground := Ground.phase }, { on := 42, ground := Ground.phase }, { on := 43, ground := Ground.phase }, { on := 44, ground := Ground.phase }, { on := 45, ground := Ground.phase }, { on := 46, ground := Ground.phase }, { on := 47, ground := Ground.phase }, { on := 48, ground := Ground.phase }, { on := 49, ground := Ground.phase }, { on := 50, ground := Ground.phase }, { on := 51, ground := Ground.phase }, { on := 52, ground := Ground.phase }, { on := 53, ground := Ground.phase }, { on := 54, ground := Ground.phase }, { on := 55, ground := Ground.phase }, { on := 56, ground := Ground.phase }, { on := 57, ground := Ground.phase }, { on := 58, ground := Ground.phase }, { on := 59, ground := Ground.phase }, { on := 60, ground := Ground.phase }, { on := 61, ground := Ground.phase }, { on := 62, ground := Ground.phase }, { on := 63, ground := Ground.phase }, { on := 64, ground := Ground.phase }, { on := 65, ground := Ground.phase }, { on := 66, ground := Ground.phase }, { on := 67, ground := Ground.phase }, { on := 68, ground := Ground.phase }, { on := 69, ground := Ground.phase }, { on := 70, ground := Ground.phase }]).toArray, guard := none }
theorem hS_71 : opsS[71]? = some qS_71 := by kernel_rfl
theorem lS_71 : (LS 71).setIfInBounds 71 true = LS 72 := by kernel_rfl
theorem tS_71 {Q : Exit → Act → World → Prop} {S : World → Prop} {a : Act} {w : World} (v : Value) (hQ : ∀ c a w, Q (.panic c) (a.put (some 2) v) w → Q (.panic c) a w) (hy : YieldsIf Tryd.prog opsS S qS_71 v a) (hS : S w)
    (h : wpAnyH Tryd.prog .any opsS Q S 0 (LS 72) (a.put (some 2) v) w) : wpAnyH Tryd.prog .any opsS Q S 1 (LS 71) a w :=
  wpAnyH_take (i := 71) hS_71 noselS (by kernel_rfl) (by kernel_rfl) hQ hy hS (lS_71.symm ▸ h)
end Go.Proofs.YtpodppmcdikmbaaDoor.fnStamps
