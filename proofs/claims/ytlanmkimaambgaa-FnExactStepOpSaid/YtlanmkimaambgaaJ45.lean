/-
  A statement of impl.process: its operations, and a theorem a step.
-/
import Derived.Test.YtlanmkimaambgaaProg
import Derived.WalkKit
import Derived.Deep.RegionHeld3

namespace Go.Proofs.Ytlanmkimaambgaa.hexes
open Go.RowKit

def findPR6 (n : Nat) : Code → Option Code
  | .region id ops d => if id = n then some (.region id ops d) else none
  | .seq a b => match findPR6 n a with
    | some c => some c
    | none => findPR6 n b
  | .block _ c => findPR6 n c
  | .scope c => findPR6 n c
  | .loop c => findPR6 n c
  | .cond _ a b => match findPR6 n a with
    | some c => some c
    | none => findPR6 n b
  | _ => none
def opsOfPR6 : Option Code → Array Oper
  | some (.region _ ops _) => ops
  | _ => #[]
noncomputable def opsPR6 : Array Oper := opsOfPR6 (Try.f40.body.bind (findPR6 6))
def schPR6 : List Nat := [0, 1, 2, 3, 4, 5, 6, 7, 8, 9, 10]
def LPR6 (k : Nat) : Array Bool := ((List.range 11).map fun i => (schPR6.take k).contains i).toArray
theorem noselPR6 : Region.noSelect opsPR6 = true := by kernel_rfl
def qPR6_0 : Oper := { dst := some 32, op := Op.fieldAddr 111 (Operand.tmp 12) 0, type := 0, pos := "l10_steps.go:50", after := #[], guard := none }
theorem hPR6_0 : opsPR6[0]? = some qPR6_0 := by kernel_rfl
theorem lPR6_0 : (LPR6 0).setIfInBounds 0 true = LPR6 1 := by kernel_rfl
theorem tPR6_0 {Q : Exit → Act → World → Prop} {S : World → Prop} {a : Act} {w : World} (v : Value) (hQ : ∀ c a w, Q (.panic c) (a.put (some 32) v) w → Q (.panic c) a w) (hy : YieldsIf Try.prog opsPR6 S qPR6_0 v a) (hS : S w)
    (h : wpAnyH Try.prog .any opsPR6 Q S 10 (LPR6 1) (a.put (some 32) v) w) : wpAnyH Try.prog .any opsPR6 Q S 11 (LPR6 0) a w :=
  wpAnyH_take (i := 0) hPR6_0 noselPR6 (by kernel_rfl) (by kernel_rfl) hQ hy hS (lPR6_0.symm ▸ h)
def qPR6_1 : Oper := { dst := some 33, op := Op.load 3 (Operand.tmp 32), type := 3, pos := "l10_steps.go:50", after := #[{ on := 0, ground := Ground.data }], guard := none }
theorem hPR6_1 : opsPR6[1]? = some qPR6_1 := by kernel_rfl
theorem lPR6_1 : (LPR6 1).setIfInBounds 1 true = LPR6 2 := by kernel_rfl
theorem tPR6_1 {Q : Exit → Act → World → Prop} {S : World → Prop} {a : Act} {w : World} (v : Value) (hQ : ∀ c a w, Q (.panic c) (a.put (some 33) v) w → Q (.panic c) a w) (hy : YieldsIf Try.prog opsPR6 S qPR6_1 v a) (hS : S w)
    (h : wpAnyH Try.prog .any opsPR6 Q S 9 (LPR6 2) (a.put (some 33) v) w) : wpAnyH Try.prog .any opsPR6 Q S 10 (LPR6 1) a w :=
  wpAnyH_take (i := 1) hPR6_1 noselPR6 (by kernel_rfl) (by kernel_rfl) hQ hy hS (lPR6_1.symm ▸ h)
def qPR6_2 : Oper := { dst := some 34, op := Op.move (Operand.tmp 1), type := 27, pos := "l10_steps.go:50", after := #[], guard := none }
theorem hPR6_2 : opsPR6[2]? = some qPR6_2 := by kernel_rfl
theorem lPR6_2 : (LPR6 2).setIfInBounds 2 true = LPR6 3 := by kernel_rfl
theorem tPR6_2 {Q : Exit → Act → World → Prop} {S : World → Prop} {a : Act} {w : World} (v : Value) (hQ : ∀ c a w, Q (.panic c) (a.put (some 34) v) w → Q (.panic c) a w) (hy : YieldsIf Try.prog opsPR6 S qPR6_2 v a) (hS : S w)
    (h : wpAnyH Try.prog .any opsPR6 Q S 8 (LPR6 3) (a.put (some 34) v) w) : wpAnyH Try.prog .any opsPR6 Q S 9 (LPR6 2) a w :=
  wpAnyH_take (i := 2) hPR6_2 noselPR6 (by kernel_rfl) (by kernel_rfl) hQ hy hS (lPR6_2.symm ▸ h)
def qPR6_3 : Oper := { dst := some 35, op := Op.load 31 (Operand.tmp 5), type := 31, pos := "l10_steps.go:50", after := #[], guard := none }
theorem hPR6_3 : opsPR6[3]? = some qPR6_3 := by kernel_rfl
theorem lPR6_3 : (LPR6 3).setIfInBounds 3 true = LPR6 4 := by kernel_rfl
theorem tPR6_3 {Q : Exit → Act → World → Prop} {S : World → Prop} {a : Act} {w : World} (v : Value) (hQ : ∀ c a w, Q (.panic c) (a.put (some 35) v) w → Q (.panic c) a w) (hy : YieldsIf Try.prog opsPR6 S qPR6_3 v a) (hS : S w)
    (h : wpAnyH Try.prog .any opsPR6 Q S 7 (LPR6 4) (a.put (some 35) v) w) : wpAnyH Try.prog .any opsPR6 Q S 8 (LPR6 3) a w :=
  wpAnyH_take (i := 3) hPR6_3 noselPR6 (by kernel_rfl) (by kernel_rfl) hQ hy hS (lPR6_3.symm ▸ h)
def qPR6_4 : Oper := { dst := some 36, op := Op.call { callee := Callee.value (Operand.func 72), args := #[Operand.tmp 35], argTypes := #[31] }, type := 75, pos := "l10_steps.go:50", after := #[{ on := 3, ground := Ground.data }], guard := none }
theorem hPR6_4 : opsPR6[4]? = some qPR6_4 := by kernel_rfl
theorem lPR6_4 : (LPR6 4).setIfInBounds 4 true = LPR6 5 := by kernel_rfl
set_option maxRecDepth 100000 in
theorem cPR6_4 {Q : Exit → Act → World → Prop} {S : World → Prop} {a : Act} {w : World}
    (h : ∀ K' : Act → World → Prop, Shut (∀ a w, S w → (S w → wpAnyH Try.prog .any opsPR6 Q S 6 (LPR6 5) a w) → K' a w) → if Region.wanted qPR6_4 (yielded opsPR6 a.tmps) = true then Oper.wp Try.prog qPR6_4 a w K' Q else K' (a.put (some 36) undef) w) :
    wpAnyH Try.prog .any opsPR6 Q S 7 (LPR6 4) a w :=
  wpAnyH_ready (rs := [4]) (by kernel_rfl) (by simp) (AllReadyH.cons hPR6_4 (fun K' hK => h K' (lPR6_4 ▸ hK)) AllReadyH.nil)
def qPR6_5 : Oper := { dst := some 37, op := Op.call { callee := Callee.value (Operand.func 71), args := #[Operand.tmp 33, Operand.tmp 34, Operand.tmp 36], argTypes := #[3, 27, 75] }, type := 85, pos := "l10_steps.go:50", after := #[{ on := 1, ground := Ground.data }, { on := 2, ground := Ground.data }, { on := 4, ground := Ground.data }, { on := 4, ground := Ground.chain }], guard := none }
theorem hPR6_5 : opsPR6[5]? = some qPR6_5 := by kernel_rfl
theorem lPR6_5 : (LPR6 5).setIfInBounds 5 true = LPR6 6 := by kernel_rfl
set_option maxRecDepth 100000 in
theorem cPR6_5 {Q : Exit → Act → World → Prop} {S : World → Prop} {a : Act} {w : World}
    (h : ∀ K' : Act → World → Prop, Shut (∀ a w, S w → (S w → wpAnyH Try.prog .any opsPR6 Q S 5 (LPR6 6) a w) → K' a w) → if Region.wanted qPR6_5 (yielded opsPR6 a.tmps) = true then Oper.wp Try.prog qPR6_5 a w K' Q else K' (a.put (some 37) undef) w) :
    wpAnyH Try.prog .any opsPR6 Q S 6 (LPR6 5) a w :=
  wpAnyH_ready (rs := [5]) (by kernel_rfl) (by simp) (AllReadyH.cons hPR6_5 (fun K' hK => h K' (lPR6_5 ▸ hK)) AllReadyH.nil)
def qPR6_6 : Oper := { dst := some 31, op := Op.move (Operand.tmp 37), type := 85, pos := "l10_steps.go:50", after := #[{ on := 5, ground := Ground.data }], guard := none }
theorem hPR6_6 : opsPR6[6]? = some qPR6_6 := by kernel_rfl
theorem lPR6_6 : (LPR6 6).setIfInBounds 6 true = LPR6 7 := by kernel_rfl
theorem tPR6_6 {Q : Exit → Act → World → Prop} {S : World → Prop} {a : Act} {w : World} (v : Value) (hQ : ∀ c a w, Q (.panic c) (a.put (some 31) v) w → Q (.panic c) a w) (hy : YieldsIf Try.prog opsPR6 S qPR6_6 v a) (hS : S w)
    (h : wpAnyH Try.prog .any opsPR6 Q S 4 (LPR6 7) (a.put (some 31) v) w) : wpAnyH Try.prog .any opsPR6 Q S 5 (LPR6 6) a w :=
  wpAnyH_take (i := 6) hPR6_6 noselPR6 (by kernel_rfl) (by kernel_rfl) hQ hy hS (lPR6_6.symm ▸ h)
def qPR6_7 : Oper := { dst := some 38, op := Op.extract (Operand.tmp 31) 0, type := 27, pos := "l10_steps.go:50", after := #[{ on := 6, ground := Ground.data }], guard := none }
theorem hPR6_7 : opsPR6[7]? = some qPR6_7 := by kernel_rfl
theorem lPR6_7 : (LPR6 7).setIfInBounds 7 true = LPR6 8 := by kernel_rfl
theorem tPR6_7 {Q : Exit → Act → World → Prop} {S : World → Prop} {a : Act} {w : World} (v : Value) (hQ : ∀ c a w, Q (.panic c) (a.put (some 38) v) w → Q (.panic c) a w) (hy : YieldsIf Try.prog opsPR6 S qPR6_7 v a) (hS : S w)
    (h : wpAnyH Try.prog .any opsPR6 Q S 3 (LPR6 8) (a.put (some 38) v) w) : wpAnyH Try.prog .any opsPR6 Q S 4 (LPR6 7) a w :=
  wpAnyH_take (i := 7) hPR6_7 noselPR6 (by kernel_rfl) (by kernel_rfl) hQ hy hS (lPR6_7.symm ▸ h)
def qPR6_8 : Oper := { dst := some 39, op := Op.extract (Operand.tmp 31) 1, type := 4, pos := "l10_steps.go:50", after := #[{ on := 6, ground := Ground.data }, { on := 9, ground := Ground.gcOnly Departure.lateStores }], guard := none }
theorem hPR6_8 : opsPR6[8]? = some qPR6_8 := by kernel_rfl
theorem lPR6_8 : (LPR6 8).setIfInBounds 8 true = LPR6 9 := by kernel_rfl
theorem tPR6_8 {Q : Exit → Act → World → Prop} {S : World → Prop} {a : Act} {w : World} (v : Value) (hQ : ∀ c a w, Q (.panic c) (a.put (some 39) v) w → Q (.panic c) a w) (hy : YieldsIf Try.prog opsPR6 S qPR6_8 v a) (hS : S w)
    (h : wpAnyH Try.prog .any opsPR6 Q S 2 (LPR6 9) (a.put (some 39) v) w) : wpAnyH Try.prog .any opsPR6 Q S 3 (LPR6 8) a w :=
  wpAnyH_take (i := 8) hPR6_8 noselPR6 (by kernel_rfl) (by kernel_rfl) hQ hy hS (lPR6_8.symm ▸ h)
def qPR6_9 : Oper := { dst := some 1, op := Op.assign (Operand.tmp 38), type := 27, pos := "l10_steps.go:50", after := #[{ on := 7, ground := Ground.data }, { on := 5, ground := Ground.chain }, { on := 0, ground := Ground.phase }, { on := 1, ground := Ground.phase }, { on := 2, ground := Ground.phase }, { on := 3, ground := Ground.phase }, { on := 4, ground := Ground.phase }, { on := 5, ground := Ground.phase }, { on := 6, ground := Ground.phase }, { on := 7, ground := Ground.phase }, { on := 8, ground := Ground.textOnly Departure.lateStores }], guard := none }
theorem hPR6_9 : opsPR6[9]? = some qPR6_9 := by kernel_rfl
theorem lPR6_9 : (LPR6 9).setIfInBounds 9 true = LPR6 10 := by kernel_rfl
theorem tPR6_9 {Q : Exit → Act → World → Prop} {S : World → Prop} {a : Act} {w : World} (v : Value) (hQ : ∀ c a w, Q (.panic c) (a.put (some 1) v) w → Q (.panic c) a w) (hy : YieldsIf Try.prog opsPR6 S qPR6_9 v a) (hS : S w)
    (h : wpAnyH Try.prog .any opsPR6 Q S 1 (LPR6 10) (a.put (some 1) v) w) : wpAnyH Try.prog .any opsPR6 Q S 2 (LPR6 9) a w :=
  wpAnyH_take (i := 9) hPR6_9 noselPR6 (by kernel_rfl) (by kernel_rfl) hQ hy hS (lPR6_9.symm ▸ h)
def qPR6_10 : Oper := { dst := some 10, op := Op.assign (Operand.tmp 39), type := 4, pos := "l10_steps.go:50", after := #[{ on := 8, ground := Ground.data }, { on := 9, ground := Ground.chain }, { on := 0, ground := Ground.phase }, { on := 1, ground := Ground.phase }, { on := 2, ground := Ground.phase }, { on := 3, ground := Ground.phase }, { on := 4, ground := Ground.phase }, { on := 5, ground := Ground.phase }, { on := 6, ground := Ground.phase }, { on := 7, ground := Ground.phase }, { on := 8, ground := Ground.phase }, { on := 9, ground := Ground.phase }], guard := none }
theorem hPR6_10 : opsPR6[10]? = some qPR6_10 := by kernel_rfl
theorem lPR6_10 : (LPR6 10).setIfInBounds 10 true = LPR6 11 := by kernel_rfl
theorem tPR6_10 {Q : Exit → Act → World → Prop} {S : World → Prop} {a : Act} {w : World} (v : Value) (hQ : ∀ c a w, Q (.panic c) (a.put (some 10) v) w → Q (.panic c) a w) (hy : YieldsIf Try.prog opsPR6 S qPR6_10 v a) (hS : S w)
    (h : wpAnyH Try.prog .any opsPR6 Q S 0 (LPR6 11) (a.put (some 10) v) w) : wpAnyH Try.prog .any opsPR6 Q S 1 (LPR6 10) a w :=
  wpAnyH_take (i := 10) hPR6_10 noselPR6 (by kernel_rfl) (by kernel_rfl) hQ hy hS (lPR6_10.symm ▸ h)
end Go.Proofs.Ytlanmkimaambgaa.hexes

