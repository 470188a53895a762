/-
  A statement of spec.DrawSameLink: its operations, and a theorem a step. A statement of spec.DrawSameLink: its operations, and a theorem a step. A statement of spec.l06Link: its operations, and a theorem a step. A statement of spec.l06Any: its operations, and a theorem a step.
-/
import Derived.Test.YthkkleicekhelaaProg
import Derived.WalkKit
import Derived.Deep.RegionHeld3
namespace Go.Proofs.Ythkkleicekhelaa.hexes
open Go.RowKit

def findQ4 (n : Nat) : Code → Option Code
  | .region id ops d => if id = n then some (.region id ops d) else none
  | .seq a b => match findQ4 n a with
    | some c => some c
    | none => findQ4 n b
  | .block _ c => findQ4 n c
  | .scope c => findQ4 n c
  | .loop c => findQ4 n c
  | .cond _ a b => match findQ4 n a with
    | some c => some c
    | none => findQ4 n b
  | _ => none
def opsOfQ4 : Option Code → Array Oper
  | some (.region _ ops _) => ops
  | _ => #[]
noncomputable def opsQ4 : Array Oper := opsOfQ4 (Try.f23.body.bind (findQ4 4))
def schQ4 : List Nat := [0, 1, 2, 3, 4]
def LQ4 (k : Nat) : Array Bool := ((List.range 5).map fun i => (schQ4.take k).contains i).toArray
theorem noselQ4 : Region.noSelect opsQ4 = true := by kernel_rfl
def qQ4_0 : Oper := { dst := some 12, op := Op.load 26 (Operand.tmp 5), type := 26, pos := "l06_links.go:118", after := #[], guard := none }
theorem hQ4_0 : opsQ4[0]? = some qQ4_0 := by kernel_rfl
def qQ4_1 : Oper := { dst := some 13, op := Op.load 26 (Operand.tmp 5), type := 26, pos := "l06_links.go:118", after := #[], guard := none }
theorem hQ4_1 : opsQ4[1]? = some qQ4_1 := by kernel_rfl
def qQ4_2 : Oper := { dst := some 14, op := Op.call { callee := Callee.value (Operand.func 48), args := #[Operand.tmp 13], argTypes := #[26] }, type := 26, pos := "l06_links.go:118", after := #[{ on := 1, ground := Ground.data }], guard := none }
theorem hQ4_2 : opsQ4[2]? = some qQ4_2 := by kernel_rfl
def qQ4_3 : Oper := { dst := none, op := Op.store 26 (Operand.tmp 2) (Operand.tmp 12), type := 0, pos := "l06_links.go:118", after := #[{ on := 0, ground := Ground.data }, { on := 2, ground := Ground.chain }, { on := 0, ground := Ground.phase }, { on := 1, ground := Ground.textOnly Departure.lateStores }, { on := 2, ground := Ground.textOnly Departure.lateStoresUnsure }], guard := none }
theorem hQ4_3 : opsQ4[3]? = some qQ4_3 := by kernel_rfl
def qQ4_4 : Oper := { dst := none, op := Op.store 26 (Operand.tmp 3) (Operand.tmp 14), type := 0, pos := "l06_links.go:118", after := #[{ on := 2, ground := Ground.data }, { on := 3, ground := Ground.chain }, { on := 0, ground := Ground.phase }, { on := 1, ground := Ground.phase }, { on := 2, ground := Ground.phase }, { on := 3, ground := Ground.phase }], guard := none }
theorem hQ4_4 : opsQ4[4]? = some qQ4_4 := by kernel_rfl
set_option maxRecDepth 100000 in
theorem cQ4_0123_4 {Q : Exit → Act → World → Prop} {S : World → Prop} {a : Act} {w : World}
    (h4 : ∀ K' : Act → World → Prop, Shut (∀ a w, S w → (S w → wpAnyH Try.prog .any opsQ4 Q S 0 (#[true, true, true, true, true] : Array Bool) a w) → K' a w) → if Region.wanted qQ4_4 (yielded opsQ4 a.tmps) = true then Oper.wp Try.prog qQ4_4 a w K' Q else K' (a.put (none) undef) w) :
    wpAnyH Try.prog .any opsQ4 Q S 1 (#[true, true, true, true, false] : Array Bool) a w :=
  wpAnyH_ready (rs := [4]) (by kernel_rfl) (by simp) (AllReadyH.cons hQ4_4 (fun K' hK => h4 K' ((show (#[true, true, true, true, false] : Array Bool).setIfInBounds 4 true = (#[true, true, true, true, true] : Array Bool) by kernel_rfl) ▸ hK)) AllReadyH.nil)
set_option maxRecDepth 100000 in
theorem cQ4_012_3 {Q : Exit → Act → World → Prop} {S : World → Prop} {a : Act} {w : World}
    (h3 : ∀ K' : Act → World → Prop, Shut (∀ a w, S w → (S w → wpAnyH Try.prog .any opsQ4 Q S 1 (#[true, true, true, true, false] : Array Bool) a w) → K' a w) → if Region.wanted qQ4_3 (yielded opsQ4 a.tmps) = true then Oper.wp Try.prog qQ4_3 a w K' Q else K' (a.put (none) undef) w) :
    wpAnyH Try.prog .any opsQ4 Q S 2 (#[true, true, true, false, false] : Array Bool) a w :=
  wpAnyH_ready (rs := [3]) (by kernel_rfl) (by simp) (AllReadyH.cons hQ4_3 (fun K' hK => h3 K' ((show (#[true, true, true, false, false] : Array Bool).setIfInBounds 3 true = (#[true, true, true, true, false] : Array Bool) by kernel_rfl) ▸ hK)) AllReadyH.nil)
set_option maxRecDepth 100000 in
theorem cQ4_01_2 {Q : Exit → Act → World → Prop} {S : World → Prop} {a : Act} {w : World}
    (h2 : ∀ K' : Act → World → Prop, Shut (∀ a w, S w → (S w → wpAnyH Try.prog .any opsQ4 Q S 2 (#[true, true, true, false, false] : Array Bool) a w) → K' a w) → if Region.wanted qQ4_2 (yielded opsQ4 a.tmps) = true then Oper.wp Try.prog qQ4_2 a w K' Q else K' (a.put (some 14) undef) w) :
    wpAnyH Try.prog .any opsQ4 Q S 3 (#[true, true, false, false, false] : Array Bool) a w :=
  wpAnyH_ready (rs := [2]) (by kernel_rfl) (by simp) (AllReadyH.cons hQ4_2 (fun K' hK => h2 K' ((show (#[true, true, false, false, false] : Array Bool).setIfInBounds 2 true = (#[true, true, true, false, false] : Array Bool) by kernel_rfl) ▸ hK)) AllReadyH.nil)
set_option maxRecDepth 100000 in
theorem cQ4_0_1 {Q : Exit → Act → World → Prop} {S : World → Prop} {a : Act} {w : World}
    (h1 : ∀ K' : Act → World → Prop, Shut (∀ a w, S w → (S w → wpAnyH Try.prog .any opsQ4 Q S 3 (#[true, true, false, false, false] : Array Bool) a w) → K' a w) → if Region.wanted qQ4_1 (yielded opsQ4 a.tmps) = true then Oper.wp Try.prog qQ4_1 a w K' Q else K' (a.put (some 13) undef) w) :
    wpAnyH Try.prog .any opsQ4 Q S 4 (#[true, false, false, false, false] : Array Bool) a w :=
  wpAnyH_ready (rs := [1]) (by kernel_rfl) (by simp) (AllReadyH.cons hQ4_1 (fun K' hK => h1 K' ((show (#[true, false, false, false, false] : Array Bool).setIfInBounds 1 true = (#[true, true, false, false, false] : Array Bool) by kernel_rfl) ▸ hK)) AllReadyH.nil)
set_option maxRecDepth 100000 in
theorem cQ4_12_0 {Q : Exit → Act → World → Prop} {S : World → Prop} {a : Act} {w : World}
    (h0 : ∀ K' : Act → World → Prop, Shut (∀ a w, S w → (S w → wpAnyH Try.prog .any opsQ4 Q S 2 (#[true, true, true, false, false] : Array Bool) a w) → K' a w) → if Region.wanted qQ4_0 (yielded opsQ4 a.tmps) = true then Oper.wp Try.prog qQ4_0 a w K' Q else K' (a.put (some 12) undef) w) :
    wpAnyH Try.prog .any opsQ4 Q S 3 (#[false, true, true, false, false] : Array Bool) a w :=
  wpAnyH_ready (rs := [0]) (by kernel_rfl) (by simp) (AllReadyH.cons hQ4_0 (fun K' hK => h0 K' ((show (#[false, true, true, false, false] : Array Bool).setIfInBounds 0 true = (#[true, true, true, false, false] : Array Bool) by kernel_rfl) ▸ hK)) AllReadyH.nil)
set_option maxRecDepth 100000 in
theorem cQ4_1_02 {Q : Exit → Act → World → Prop} {S : World → Prop} {a : Act} {w : World}
    (h0 : ∀ K' : Act → World → Prop, Shut (∀ a w, S w → (S w → wpAnyH Try.prog .any opsQ4 Q S 3 (#[true, true, false, false, false] : Array Bool) a w) → K' a w) → if Region.wanted qQ4_0 (yielded opsQ4 a.tmps) = true then Oper.wp Try.prog qQ4_0 a w K' Q else K' (a.put (some 12) undef) w)
    (h2 : ∀ K' : Act → World → Prop, Shut (∀ a w, S w → (S w → wpAnyH Try.prog .any opsQ4 Q S 3 (#[false, true, true, false, false] : Array Bool) a w) → K' a w) → if Region.wanted qQ4_2 (yielded opsQ4 a.tmps) = true then Oper.wp Try.prog qQ4_2 a w K' Q else K' (a.put (some 14) undef) w) :
    wpAnyH Try.prog .any opsQ4 Q S 4 (#[false, true, false, false, false] : Array Bool) a w :=
  wpAnyH_ready (rs := [0, 2]) (by kernel_rfl) (by simp) (AllReadyH.cons hQ4_0 (fun K' hK => h0 K' ((show (#[false, true, false, false, false] : Array Bool).setIfInBounds 0 true = (#[true, true, false, false, false] : Array Bool) by kernel_rfl) ▸ hK)) (AllReadyH.cons hQ4_2 (fun K' hK => h2 K' ((show (#[false, true, false, false, false] : Array Bool).setIfInBounds 2 true = (#[false, true, true, false, false] : Array Bool) by kernel_rfl) ▸ hK)) AllReadyH.nil))
set_option maxRecDepth 100000 in
theorem cQ4_e_01 {Q : Exit → Act → World → Prop} {S : World → Prop} {a : Act} {w : World}
    (h0 : ∀ K' : Act → World → Prop, Shut (∀ a w, S w → (S w → wpAnyH Try.prog .any opsQ4 Q S 4 (#[true, false, false, false, false] : Array Bool) a w) → K' a w) → if Region.wanted qQ4_0 (yielded opsQ4 a.tmps) = true then Oper.wp Try.prog qQ4_0 a w K' Q else K' (a.put (some 12) undef) w)
    (h1 : ∀ K' : Act → World → Prop, Shut (∀ a w, S w → (S w → wpAnyH Try.prog .any opsQ4 Q S 4 (#[false, true, false, false, false] : Array Bool) a w) → K' a w) → if Region.wanted qQ4_1 (yielded opsQ4 a.tmps) = true then Oper.wp Try.prog qQ4_1 a w K' Q else K' (a.put (some 13) undef) w) :
    wpAnyH Try.prog .any opsQ4 Q S 5 (#[false, false, false, false, false] : Array Bool) a w :=
  wpAnyH_ready (rs := [0, 1]) (by kernel_rfl) (by simp) (AllReadyH.cons hQ4_0 (fun K' hK => h0 K' ((show (#[false, false, false, false, false] : Array Bool).setIfInBounds 0 true = (#[true, false, false, false, false] : Array Bool) by kernel_rfl) ▸ hK)) (AllReadyH.cons hQ4_1 (fun K' hK => h1 K' ((show (#[false, false, false, false, false] : Array Bool).setIfInBounds 1 true = (#[false, true, false, false, false] : Array Bool) by kernel_rfl) ▸ hK)) AllReadyH.nil))
end Go.Proofs.Ythkkleicekhelaa.hexes

namespace Go.Proofs.Ythkkleicekhelaa.hexes
open Go.RowKit

def findQ5 (n : Nat) : Code → Option Code
  | .region id ops d => if id = n then some (.region id ops d) else none
  | .seq a b => match findQ5 n a with
    | some c => some c
    | none => findQ5 n b
  | .block _ c => findQ5 n c
  | .scope c => findQ5 n c
  | .loop c => findQ5 n c
  | .cond _ a b => match findQ5 n a with
    | some c => some c
    | none => findQ5 n b
  | _ => none
def opsOfQ5 : Option Code → Array Oper
  | some (.region _ ops _) => ops
  | _ => #[]
noncomputable def opsQ5 : Array Oper := opsOfQ5 (Try.f23.body.bind (findQ5 5))
def schQ5 : List Nat := [0, 1, 2, 3, 4]
def LQ5 (k : Nat) : Array Bool := ((List.range 5).map fun i => (schQ5.take k).contains i).toArray
theorem noselQ5 : Region.noSelect opsQ5 = true := by kernel_rfl
def qQ5_0 : Oper := { dst := some 15, op := Op.load 26 (Operand.tmp 5), type := 26, pos := "l06_links.go:120", after := #[], guard := none }
theorem hQ5_0 : opsQ5[0]? = some qQ5_0 := by kernel_rfl
def qQ5_1 : Oper := { dst := some 16, op := Op.move (Operand.tmp 4), type := 62, pos := "l06_links.go:120", after := #[], guard := none }
theorem hQ5_1 : opsQ5[1]? = some qQ5_1 := by kernel_rfl
def qQ5_2 : Oper := { dst := some 17, op := Op.call { callee := Callee.value (Operand.func 41), args := #[Operand.tmp 16], argTypes := #[62] }, type := 26, pos := "l06_links.go:120", after := #[{ on := 1, ground := Ground.data }], guard := none }
theorem hQ5_2 : opsQ5[2]? = some qQ5_2 := by kernel_rfl
def qQ5_3 : Oper := { dst := none, op := Op.store 26 (Operand.tmp 2) (Operand.tmp 15), type := 0, pos := "l06_links.go:120", after := #[{ on := 0, ground := Ground.data }, { on := 2, ground := Ground.chain }, { on := 0, ground := Ground.phase }, { on := 1, ground := Ground.textOnly Departure.lateStores }, { on := 2, ground := Ground.textOnly Departure.lateStoresUnsure }], guard := none }
theorem hQ5_3 : opsQ5[3]? = some qQ5_3 := by kernel_rfl
def qQ5_4 : Oper := { dst := none, op := Op.store 26 (Operand.tmp 3) (Operand.tmp 17), type := 0, pos := "l06_links.go:120", after := #[{ on := 2, ground := Ground.data }, { on := 3, ground := Ground.chain }, { on := 0, ground := Ground.phase }, { on := 1, ground := Ground.phase }, { on := 2, ground := Ground.phase }, { on := 3, ground := Ground.phase }], guard := none }
theorem hQ5_4 : opsQ5[4]? = some qQ5_4 := by kernel_rfl
theorem tQ5_e_1 {Q : Exit → Act → World → Prop} {S : World → Prop} {a : Act} {w : World} (v : Value) (hQ : ∀ c a w, Q (.panic c) (a.put (some 16) v) w → Q (.panic c) a w) (hy : YieldsIf Try.prog opsQ5 S qQ5_1 v a) (hS : S w)
    (h : wpAnyH Try.prog .any opsQ5 Q S 4 (#[false, true, false, false, false] : Array Bool) (a.put (some 16) v) w) : wpAnyH Try.prog .any opsQ5 Q S 5 (#[false, false, false, false, false] : Array Bool) a w :=
  wpAnyH_take (i := 1) hQ5_1 noselQ5 (by kernel_rfl) (by kernel_rfl) hQ hy hS ((show (#[false, false, false, false, false] : Array Bool).setIfInBounds 1 true = (#[false, true, false, false, false] : Array Bool) by kernel_rfl).symm ▸ h)
set_option maxRecDepth 100000 in
theorem cQ5_0123_4 {Q : Exit → Act → World → Prop} {S : World → Prop} {a : Act} {w : World}
    (h4 : ∀ K' : Act → World → Prop, Shut (∀ a w, S w → (S w → wpAnyH Try.prog .any opsQ5 Q S 0 (#[true, true, true, true, true] : Array Bool) a w) → K' a w) → if Region.wanted qQ5_4 (yielded opsQ5 a.tmps) = true then Oper.wp Try.prog qQ5_4 a w K' Q else K' (a.put (none) undef) w) :
    wpAnyH Try.prog .any opsQ5 Q S 1 (#[true, true, true, true, false] : Array Bool) a w :=
  wpAnyH_ready (rs := [4]) (by kernel_rfl) (by simp) (AllReadyH.cons hQ5_4 (fun K' hK => h4 K' ((show (#[true, true, true, true, false] : Array Bool).setIfInBounds 4 true = (#[true, true, true, true, true] : Array Bool) by kernel_rfl) ▸ hK)) AllReadyH.nil)
set_option maxRecDepth 100000 in
theorem cQ5_012_3 {Q : Exit → Act → World → Prop} {S : World → Prop} {a : Act} {w : World}
    (h3 : ∀ K' : Act → World → Prop, Shut (∀ a w, S w → (S w → wpAnyH Try.prog .any opsQ5 Q S 1 (#[true, true, true, true, false] : Array Bool) a w) → K' a w) → if Region.wanted qQ5_3 (yielded opsQ5 a.tmps) = true then Oper.wp Try.prog qQ5_3 a w K' Q else K' (a.put (none) undef) w) :
    wpAnyH Try.prog .any opsQ5 Q S 2 (#[true, true, true, false, false] : Array Bool) a w :=
  wpAnyH_ready (rs := [3]) (by kernel_rfl) (by simp) (AllReadyH.cons hQ5_3 (fun K' hK => h3 K' ((show (#[true, true, true, false, false] : Array Bool).setIfInBounds 3 true = (#[true, true, true, true, false] : Array Bool) by kernel_rfl) ▸ hK)) AllReadyH.nil)
set_option maxRecDepth 100000 in
theorem cQ5_01_2 {Q : Exit → Act → World → Prop} {S : World → Prop} {a : Act} {w : World}
    (h2 : ∀ K' : Act → World → Prop, Shut (∀ a w, S w → (S w → wpAnyH Try.prog .any opsQ5 Q S 2 (#[true, true, true, false, false] : Array Bool) a w) → K' a w) → if Region.wanted qQ5_2 (yielded opsQ5 a.tmps) = true then Oper.wp Try.prog qQ5_2 a w K' Q else K' (a.put (some 17) undef) w) :
    wpAnyH Try.prog .any opsQ5 Q S 3 (#[true, true, false, false, false] : Array Bool) a w :=
  wpAnyH_ready (rs := [2]) (by kernel_rfl) (by simp) (AllReadyH.cons hQ5_2 (fun K' hK => h2 K' ((show (#[true, true, false, false, false] : Array Bool).setIfInBounds 2 true = (#[true, true, true, false, false] : Array Bool) by kernel_rfl) ▸ hK)) AllReadyH.nil)
set_option maxRecDepth 100000 in
theorem cQ5_12_0 {Q : Exit → Act → World → Prop} {S : World → Prop} {a : Act} {w : World}
    (h0 : ∀ K' : Act → World → Prop, Shut (∀ a w, S w → (S w → wpAnyH Try.prog .any opsQ5 Q S 2 (#[true, true, true, false, false] : Array Bool) a w) → K' a w) → if Region.wanted qQ5_0 (yielded opsQ5 a.tmps) = true then Oper.wp Try.prog qQ5_0 a w K' Q else K' (a.put (some 15) undef) w) :
    wpAnyH Try.prog .any opsQ5 Q S 3 (#[false, true, true, false, false] : Array Bool) a w :=
  wpAnyH_ready (rs := [0]) (by kernel_rfl) (by simp) (AllReadyH.cons hQ5_0 (fun K' hK => h0 K' ((show (#[false, true, true, false, false] : Array Bool).setIfInBounds 0 true = (#[true, true, true, false, false] : Array Bool) by kernel_rfl) ▸ hK)) AllReadyH.nil)
set_option maxRecDepth 100000 in
theorem cQ5_1_02 {Q : Exit → Act → World → Prop} {S : World → Prop} {a : Act} {w : World}
    (h0 : ∀ K' : Act → World → Prop, Shut (∀ a w, S w → (S w → wpAnyH Try.prog .any opsQ5 Q S 3 (#[true, true, false, false, false] : Array Bool) a w) → K' a w) → if Region.wanted qQ5_0 (yielded opsQ5 a.tmps) = true then Oper.wp Try.prog qQ5_0 a w K' Q else K' (a.put (some 15) undef) w)
    (h2 : ∀ K' : Act → World → Prop, Shut (∀ a w, S w → (S w → wpAnyH Try.prog .any opsQ5 Q S 3 (#[false, true, true, false, false] : Array Bool) a w) → K' a w) → if Region.wanted qQ5_2 (yielded opsQ5 a.tmps) = true then Oper.wp Try.prog qQ5_2 a w K' Q else K' (a.put (some 17) undef) w) :
    wpAnyH Try.prog .any opsQ5 Q S 4 (#[false, true, false, false, false] : Array Bool) a w :=
  wpAnyH_ready (rs := [0, 2]) (by kernel_rfl) (by simp) (AllReadyH.cons hQ5_0 (fun K' hK => h0 K' ((show (#[false, true, false, false, false] : Array Bool).setIfInBounds 0 true = (#[true, true, false, false, false] : Array Bool) by kernel_rfl) ▸ hK)) (AllReadyH.cons hQ5_2 (fun K' hK => h2 K' ((show (#[false, true, false, false, false] : Array Bool).setIfInBounds 2 true = (#[false, true, true, false, false] : Array Bool) by kernel_rfl) ▸ hK)) AllReadyH.nil))
end Go.Proofs.Ythkkleicekhelaa.hexes

namespace Go.Proofs.Ythkkleicekhelaa.hexes
open Go.RowKit

def findQ6 (n : Nat) : Code → Option Code
  | .region id ops d => if id = n then some (.region id ops d) else none
  | .seq a b => match findQ6 n a with
    | some c => some c
    | none => findQ6 n b
  | .block _ c => findQ6 n c
  | .scope c => findQ6 n c
  | .loop c => findQ6 n c
  | .cond _ a b => match findQ6 n a with
    | some c => some c
    | none => findQ6 n b
  | _ => none
def opsOfQ6 : Option Code → Array Oper
  | some (.region _ ops _) => ops
  | _ => #[]
noncomputable def opsQ6 : Array Oper := opsOfQ6 (Try.f70.body.bind (findQ6 6))
def schQ6 : List Nat := [0, 1, 2, 3, 4, 5, 6, 7]
def LQ6 (k : Nat) : Array Bool := ((List.range 8).map fun i => (schQ6.take k).contains i).toArray
theorem noselQ6 : Region.noSelect opsQ6 = true := by kernel_rfl
def qQ6_0 : Oper := { dst := some 18, op := Op.load 26 (Operand.tmp 3), type := 26, pos := "l06_links.go:72", after := #[], guard := none }
theorem hQ6_0 : opsQ6[0]? = some qQ6_0 := by kernel_rfl
def qQ6_1 : Oper := { dst := some 19, op := Op.move (Operand.tmp 0), type := 62, pos := "l06_links.go:72", after := #[], guard := none }
theorem hQ6_1 : opsQ6[1]? = some qQ6_1 := by kernel_rfl
def qQ6_2 : Oper := { dst := some 20, op := Op.call { callee := Callee.value (Operand.func 72), args := #[Operand.tmp 19], argTypes := #[62] }, type := 30, pos := "l06_links.go:72", after := #[{ on := 1, ground := Ground.data }], guard := none }
theorem hQ6_2 : opsQ6[2]? = some qQ6_2 := by kernel_rfl
def qQ6_3 : Oper := { dst := some 21, op := Op.call { callee := Callee.value (Operand.func 12), args := #[Operand.tmp 18, Operand.tmp 20], argTypes := #[26, 30] }, type := 33, pos := "l06_links.go:72", after := #[{ on := 0, ground := Ground.data }, { on := 2, ground := Ground.data }, { on := 2, ground := Ground.chain }], guard := none }
theorem hQ6_3 : opsQ6[3]? = some qQ6_3 := by kernel_rfl
def qQ6_4 : Oper := { dst := some 17, op := Op.move (Operand.tmp 21), type := 33, pos := "l06_links.go:72", after := #[{ on := 3, ground := Ground.data }], guard := none }
theorem hQ6_4 : opsQ6[4]? = some qQ6_4 := by kernel_rfl
def qQ6_5 : Oper := { dst := some 22, op := Op.extract (Operand.tmp 17) 0, type := 26, pos := "l06_links.go:72", after := #[{ on := 4, ground := Ground.data }], guard := none }
theorem hQ6_5 : opsQ6[5]? = some qQ6_5 := by kernel_rfl
def qQ6_6 : Oper := { dst := some 23, op := Op.extract (Operand.tmp 17) 1, type := 4, pos := "l06_links.go:72", after := #[{ on := 4, ground := Ground.data }, { on := 7, ground := Ground.gcOnly Departure.lateStores }], guard := none }
theorem hQ6_6 : opsQ6[6]? = some qQ6_6 := by kernel_rfl
def qQ6_7 : Oper := { dst := none, op := Op.store 26 (Operand.tmp 3) (Operand.tmp 22), type := 0, pos := "l06_links.go:72", after := #[{ on := 5, ground := Ground.data }, { on := 3, ground := Ground.chain }, { on := 0, ground := Ground.phase }, { on := 1, ground := Ground.phase }, { on := 2, ground := Ground.phase }, { on := 3, ground := Ground.phase }, { on := 4, ground := Ground.phase }, { on := 5, ground := Ground.phase }, { on := 6, ground := Ground.textOnly Departure.lateStores }], guard := none }
theorem hQ6_7 : opsQ6[7]? = some qQ6_7 := by kernel_rfl
theorem tQ6_e_1 {Q : Exit → Act → World → Prop} {S : World → Prop} {a : Act} {w : World} (v : Value) (hQ : ∀ c a w, Q (.panic c) (a.put (some 19) v) w → Q (.panic c) a w) (hy : YieldsIf Try.prog opsQ6 S qQ6_1 v a) (hS : S w)
    (h : wpAnyH Try.prog .any opsQ6 Q S 7 (#[false, true, false, false, false, false, false, false] : Array Bool) (a.put (some 19) v) w) : wpAnyH Try.prog .any opsQ6 Q S 8 (#[false, false, false, false, false, false, false, false] : Array Bool) a w :=
  wpAnyH_take (i := 1) hQ6_1 noselQ6 (by kernel_rfl) (by kernel_rfl) hQ hy hS ((show (#[false, false, false, false, false, false, false, false] : Array Bool).setIfInBounds 1 true = (#[false, true, false, false, false, false, false, false] : Array Bool) by kernel_rfl).symm ▸ h)
theorem tQ6_0123_4 {Q : Exit → Act → World → Prop} {S : World → Prop} {a : Act} {w : World} (v : Value) (hQ : ∀ c a w, Q (.panic c) (a.put (some 17) v) w → Q (.panic c) a w) (hy : YieldsIf Try.prog opsQ6 S qQ6_4 v a) (hS : S w)
    (h : wpAnyH Try.prog .any opsQ6 Q S 3 (#[true, true, true, true, true, false, false, false] : Array Bool) (a.put (some 17) v) w) : wpAnyH Try.prog .any opsQ6 Q S 4 (#[true, true, true, true, false, false, false, false] : Array Bool) a w :=
  wpAnyH_take (i := 4) hQ6_4 noselQ6 (by kernel_rfl) (by kernel_rfl) hQ hy hS ((show (#[true, true, true, true, false, false, false, false] : Array Bool).setIfInBounds 4 true = (#[true, true, true, true, true, false, false, false] : Array Bool) by kernel_rfl).symm ▸ h)
theorem tQ6_01234_5 {Q : Exit → Act → World → Prop} {S : World → Prop} {a : Act} {w : World} (v : Value) (hQ : ∀ c a w, Q (.panic c) (a.put (some 22) v) w → Q (.panic c) a w) (hy : YieldsIf Try.prog opsQ6 S qQ6_5 v a) (hS : S w)
    (h : wpAnyH Try.prog .any opsQ6 Q S 2 (#[true, true, true, true, true, true, false, false] : Array Bool) (a.put (some 22) v) w) : wpAnyH Try.prog .any opsQ6 Q S 3 (#[true, true, true, true, true, false, false, false] : Array Bool) a w :=
  wpAnyH_take (i := 5) hQ6_5 noselQ6 (by kernel_rfl) (by kernel_rfl) hQ hy hS ((show (#[true, true, true, true, true, false, false, false] : Array Bool).setIfInBounds 5 true = (#[true, true, true, true, true, true, false, false] : Array Bool) by kernel_rfl).symm ▸ h)
theorem tQ6_012345_6 {Q : Exit → Act → World → Prop} {S : World → Prop} {a : Act} {w : World} (v : Value) (hQ : ∀ c a w, Q (.panic c) (a.put (some 23) v) w → Q (.panic c) a w) (hy : YieldsIf Try.prog opsQ6 S qQ6_6 v a) (hS : S w)
    (h : wpAnyH Try.prog .any opsQ6 Q S 1 (#[true, true, true, true, true, true, true, false] : Array Bool) (a.put (some 23) v) w) : wpAnyH Try.prog .any opsQ6 Q S 2 (#[true, true, true, true, true, true, false, false] : Array Bool) a w :=
  wpAnyH_take (i := 6) hQ6_6 noselQ6 (by kernel_rfl) (by kernel_rfl) hQ hy hS ((show (#[true, true, true, true, true, true, false, false] : Array Bool).setIfInBounds 6 true = (#[true, true, true, true, true, true, true, false] : Array Bool) by kernel_rfl).symm ▸ h)
set_option maxRecDepth 100000 in
theorem cQ6_0123456_7 {Q : Exit → Act → World → Prop} {S : World → Prop} {a : Act} {w : World}
    (h7 : ∀ K' : Act → World → Prop, Shut (∀ a w, S w → (S w → wpAnyH Try.prog .any opsQ6 Q S 0 (#[true, true, true, true, true, true, true, true] : Array Bool) a w) → K' a w) → if Region.wanted qQ6_7 (yielded opsQ6 a.tmps) = true then Oper.wp Try.prog qQ6_7 a w K' Q else K' (a.put (none) undef) w) :
    wpAnyH Try.prog .any opsQ6 Q S 1 (#[true, true, true, true, true, true, true, false] : Array Bool) a w :=
  wpAnyH_ready (rs := [7]) (by kernel_rfl) (by simp) (AllReadyH.cons hQ6_7 (fun K' hK => h7 K' ((show (#[true, true, true, true, true, true, true, false] : Array Bool).setIfInBounds 7 true = (#[true, true, true, true, true, true, true, true] : Array Bool) by kernel_rfl) ▸ hK)) AllReadyH.nil)
set_option maxRecDepth 100000 in
theorem cQ6_012_3 {Q : Exit → Act → World → Prop} {S : World → Prop} {a : Act} {w : World}
    (h3 : ∀ K' : Act → World → Prop, Shut (∀ a w, S w → (S w → wpAnyH Try.prog .any opsQ6 Q S 4 (#[true, true, true, true, false, false, false, false] : Array Bool) a w) → K' a w) → if Region.wanted qQ6_3 (yielded opsQ6 a.tmps) = true then Oper.wp Try.prog qQ6_3 a w K' Q else K' (a.put (some 21) undef) w) :
    wpAnyH Try.prog .any opsQ6 Q S 5 (#[true, true, true, false, false, false, false, false] : Array Bool) a w :=
  wpAnyH_ready (rs := [3]) (by kernel_rfl) (by simp) (AllReadyH.cons hQ6_3 (fun K' hK => h3 K' ((show (#[true, true, true, false, false, false, false, false] : Array Bool).setIfInBounds 3 true = (#[true, true, true, true, false, false, false, false] : Array Bool) by kernel_rfl) ▸ hK)) AllReadyH.nil)
set_option maxRecDepth 100000 in
theorem cQ6_01_2 {Q : Exit → Act → World → Prop} {S : World → Prop} {a : Act} {w : World}
    (h2 : ∀ K' : Act → World → Prop, Shut (∀ a w, S w → (S w → wpAnyH Try.prog .any opsQ6 Q S 5 (#[true, true, true, false, false, false, false, false] : Array Bool) a w) → K' a w) → if Region.wanted qQ6_2 (yielded opsQ6 a.tmps) = true then Oper.wp Try.prog qQ6_2 a w K' Q else K' (a.put (some 20) undef) w) :
    wpAnyH Try.prog .any opsQ6 Q S 6 (#[true, true, false, false, false, false, false, false] : Array Bool) a w :=
  wpAnyH_ready (rs := [2]) (by kernel_rfl) (by simp) (AllReadyH.cons hQ6_2 (fun K' hK => h2 K' ((show (#[true, true, false, false, false, false, false, false] : Array Bool).setIfInBounds 2 true = (#[true, true, true, false, false, false, false, false] : Array Bool) by kernel_rfl) ▸ hK)) AllReadyH.nil)
set_option maxRecDepth 100000 in
theorem cQ6_12_0 {Q : Exit → Act → World → Prop} {S : World → Prop} {a : Act} {w : World}
    (h0 : ∀ K' : Act → World → Prop, Shut (∀ a w, S w → (S w → wpAnyH Try.prog .any opsQ6 Q S 5 (#[true, true, true, false, false, false, false, false] : Array Bool) a w) → K' a w) → if Region.wanted qQ6_0 (yielded opsQ6 a.tmps) = true then Oper.wp Try.prog qQ6_0 a w K' Q else K' (a.put (some 18) undef) w) :
    wpAnyH Try.prog .any opsQ6 Q S 6 (#[false, true, true, false, false, false, false, false] : Array Bool) a w :=
  wpAnyH_ready (rs := [0]) (by kernel_rfl) (by simp) (AllReadyH.cons hQ6_0 (fun K' hK => h0 K' ((show (#[false, true, true, false, false, false, false, false] : Array Bool).setIfInBounds 0 true = (#[true, true, true, false, false, false, false, false] : Array Bool) by kernel_rfl) ▸ hK)) AllReadyH.nil)
set_option maxRecDepth 100000 in
theorem cQ6_1_02 {Q : Exit → Act → World → Prop} {S : World → Prop} {a : Act} {w : World}
    (h0 : ∀ K' : Act → World → Prop, Shut (∀ a w, S w → (S w → wpAnyH Try.prog .any opsQ6 Q S 6 (#[true, true, false, false, false, false, false, false] : Array Bool) a w) → K' a w) → if Region.wanted qQ6_0 (yielded opsQ6 a.tmps) = true then Oper.wp Try.prog qQ6_0 a w K' Q else K' (a.put (some 18) undef) w)
    (h2 : ∀ K' : Act → World → Prop, Shut (∀ a w, S w → (S w → wpAnyH Try.prog .any opsQ6 Q S 6 (#[false, true, true, false, false, false, false, false] : Array Bool) a w) → K' a w) → if Region.wanted qQ6_2 (yielded opsQ6 a.tmps) = true then Oper.wp Try.prog qQ6_2 a w K' Q else K' (a.put (some 20) undef) w) :
    wpAnyH Try.prog .any opsQ6 Q S 7 (#[false, true, false, false, false, false, false, false] : Array Bool) a w :=
  wpAnyH_ready (rs := [0, 2]) (by kernel_rfl) (by simp) (AllReadyH.cons hQ6_0 (fun K' hK => h0 K' ((show (#[false, true, false, false, false, false, false, false] : Array Bool).setIfInBounds 0 true = (#[true, true, false, false, false, false, false, false] : Array Bool) by kernel_rfl) ▸ hK)) (AllReadyH.cons hQ6_2 (fun K' hK => h2 K' ((show (#[false, true, false, false, false, false, false, false] : Array Bool).setIfInBounds 2 true = (#[false, true, true, false, false, false, false, false] : Array Bool) by kernel_rfl) ▸ hK)) AllReadyH.nil))
end Go.Proofs.Ythkkleicekhelaa.hexes

namespace Go.Proofs.Ythkkleicekhelaa.hexes
open Go.RowKit

def findQ10 (n : Nat) : Code → Option Code
  | .region id ops d => if id = n then some (.region id ops d) else none
  | .seq a b => match findQ10 n a with
    | some c => some c
    | none => findQ10 n b
  | .block _ c => findQ10 n c
  | .scope c => findQ10 n c
  | .loop c => findQ10 n c
  | .cond _ a b => match findQ10 n a with
    | some c => some c
    | none => findQ10 n b
  | _ => none
def opsOfQ10 : Option Code → Array Oper
  | some (.region _ ops _) => ops
  | _ => #[]
noncomputable def opsQ10 : Array Oper := opsOfQ10 (Try.f41.body.bind (findQ10 10))
def schQ10 : List Nat := [0, 1, 2, 3, 4, 5, 6, 7]
def LQ10 (k : Nat) : Array Bool := ((List.range 8).map fun i => (schQ10.take k).contains i).toArray
theorem noselQ10 : Region.noSelect opsQ10 = true := by kernel_rfl
def qQ10_0 : Oper := { dst := some 28, op := Op.fieldAddr 26 (Operand.tmp 3) 1, type := 0, pos := "l06_links.go:88", after := #[], guard := none }
theorem hQ10_0 : opsQ10[0]? = some qQ10_0 := by kernel_rfl
def qQ10_1 : Oper := { dst := some 29, op := Op.load 24 (Operand.tmp 28), type := 24, pos := "l06_links.go:88", after := #[{ on := 0, ground := Ground.data }], guard := none }
theorem hQ10_1 : opsQ10[1]? = some qQ10_1 := by kernel_rfl
def qQ10_2 : Oper := { dst := some 30, op := Op.move (Operand.tmp 0), type := 62, pos := "l06_links.go:88", after := #[], guard := none }
theorem hQ10_2 : opsQ10[2]? = some qQ10_2 := by kernel_rfl
def qQ10_3 : Oper := { dst := some 31, op := Op.call { callee := Callee.value (Operand.func 42), args := #[Operand.tmp 30], argTypes := #[62] }, type := 30, pos := "l06_links.go:88", after := #[{ on := 2, ground := Ground.data }], guard := none }
theorem hQ10_3 : opsQ10[3]? = some qQ10_3 := by kernel_rfl
def qQ10_4 : Oper := { dst := some 32, op := Op.buildSlice 24 1 #[(0, Operand.tmp 31)], type := 24, pos := "l06_links.go:88", after := #[{ on := 3, ground := Ground.data }], guard := none }
theorem hQ10_4 : opsQ10[4]? = some qQ10_4 := by kernel_rfl
def qQ10_5 : Oper := { dst := some 33, op := Op.call { callee := Callee.builtin Builtin.append, args := #[Operand.tmp 29, Operand.tmp 32], argTypes := #[24, 24] }, type := 24, pos := "l06_links.go:88", after := #[{ on := 1, ground := Ground.data }, { on := 4, ground := Ground.data }, { on := 3, ground := Ground.chain }], guard := none }
theorem hQ10_5 : opsQ10[5]? = some qQ10_5 := by kernel_rfl
def qQ10_6 : Oper := { dst := some 34, op := Op.fieldAddr 26 (Operand.tmp 3) 1, type := 0, pos := "l06_links.go:88", after := #[{ on := 0, ground := Ground.phase }, { on := 1, ground := Ground.phase }, { on := 2, ground := Ground.phase }, { on := 3, ground := Ground.phase }, { on := 4, ground := Ground.phase }, { on := 5, ground := Ground.phase }], guard := none }
theorem hQ10_6 : opsQ10[6]? = some qQ10_6 := by kernel_rfl
def qQ10_7 : Oper := { dst := none, op := Op.store 24 (Operand.tmp 34) (Operand.tmp 33), type := 0, pos := "l06_links.go:88", after := #[{ on := 6, ground := Ground.data }, { on := 5, ground := Ground.data }, { on := 5, ground := Ground.chain }, { on := 0, ground := Ground.phase }, { on := 1, ground := Ground.phase }, { on := 2, ground := Ground.phase }, { on := 3, ground := Ground.phase }, { on := 4, ground := Ground.phase }, { on := 5, ground := Ground.phase }], guard := none }
theorem hQ10_7 : opsQ10[7]? = some qQ10_7 := by kernel_rfl
theorem tQ10_e_0 {Q : Exit → Act → World → Prop} {S : World → Prop} {a : Act} {w : World} (v : Value) (hQ : ∀ c a w, Q (.panic c) (a.put (some 28) v) w → Q (.panic c) a w) (hy : YieldsIf Try.prog opsQ10 S qQ10_0 v a) (hS : S w)
    (h : wpAnyH Try.prog .any opsQ10 Q S 7 (#[true, false, false, false, false, false, false, false] : Array Bool) (a.put (some 28) v) w) : wpAnyH Try.prog .any opsQ10 Q S 8 (#[false, false, false, false, false, false, false, false] : Array Bool) a w :=
  wpAnyH_take (i := 0) hQ10_0 noselQ10 (by kernel_rfl) (by kernel_rfl) hQ hy hS ((show (#[false, false, false, false, false, false, false, false] : Array Bool).setIfInBounds 0 true = (#[true, false, false, false, false, false, false, false] : Array Bool) by kernel_rfl).symm ▸ h)
theorem tQ10_0_2 {Q : Exit → Act → World → Prop} {S : World → Prop} {a : Act} {w : World} (v : Value) (hQ : ∀ c a w, Q (.panic c) (a.put (some 30) v) w → Q (.panic c) a w) (hy : YieldsIf Try.prog opsQ10 S qQ10_2 v a) (hS : S w)
    (h : wpAnyH Try.prog .any opsQ10 Q S 6 (#[true, false, true, false, false, false, false, false] : Array Bool) (a.put (some 30) v) w) : wpAnyH Try.prog .any opsQ10 Q S 7 (#[true, false, false, false, false, false, false, false] : Array Bool) a w :=
  wpAnyH_take (i := 2) hQ10_2 noselQ10 (by kernel_rfl) (by kernel_rfl) hQ hy hS ((show (#[true, false, false, false, false, false, false, false] : Array Bool).setIfInBounds 2 true = (#[true, false, true, false, false, false, false, false] : Array Bool) by kernel_rfl).symm ▸ h)
theorem tQ10_012345_6 {Q : Exit → Act → World → Prop} {S : World → Prop} {a : Act} {w : World} (v : Value) (hQ : ∀ c a w, Q (.panic c) (a.put (some 34) v) w → Q (.panic c) a w) (hy : YieldsIf Try.prog opsQ10 S qQ10_6 v a) (hS : S w)
    (h : wpAnyH Try.prog .any opsQ10 Q S 1 (#[true, true, true, true, true, true, true, false] : Array Bool) (a.put (some 34) v) w) : wpAnyH Try.prog .any opsQ10 Q S 2 (#[true, true, true, true, true, true, false, false] : Array Bool) a w :=
  wpAnyH_take (i := 6) hQ10_6 noselQ10 (by kernel_rfl) (by kernel_rfl) hQ hy hS ((show (#[true, true, true, true, true, true, false, false] : Array Bool).setIfInBounds 6 true = (#[true, true, true, true, true, true, true, false] : Array Bool) by kernel_rfl).symm ▸ h)
set_option maxRecDepth 100000 in
theorem cQ10_0123456_7 {Q : Exit → Act → World → Prop} {S : World → Prop} {a : Act} {w : World}
    (h7 : ∀ K' : Act → World → Prop, Shut (∀ a w, S w → (S w → wpAnyH Try.prog .any opsQ10 Q S 0 (#[true, true, true, true, true, true, true, true] : Array Bool) a w) → K' a w) → if Region.wanted qQ10_7 (yielded opsQ10 a.tmps) = true then Oper.wp Try.prog qQ10_7 a w K' Q else K' (a.put (none) undef) w) :
    wpAnyH Try.prog .any opsQ10 Q S 1 (#[true, true, true, true, true, true, true, false] : Array Bool) a w :=
  wpAnyH_ready (rs := [7]) (by kernel_rfl) (by simp) (AllReadyH.cons hQ10_7 (fun K' hK => h7 K' ((show (#[true, true, true, true, true, true, true, false] : Array Bool).setIfInBounds 7 true = (#[true, true, true, true, true, true, true, true] : Array Bool) by kernel_rfl) ▸ hK)) AllReadyH.nil)
set_option maxRecDepth 100000 in
theorem cQ10_01234_5 {Q : Exit → Act → World → Prop} {S : World → Prop} {a : Act} {w : World}
    (h5 : ∀ K' : Act → World → Prop, Shut (∀ a w, S w → (S w → wpAnyH Try.prog .any opsQ10 Q S 2 (#[true, true, true, true, true, true, false, false] : Array Bool) a w) → K' a w) → if Region.wanted qQ10_5 (yielded opsQ10 a.tmps) = true then Oper.wp Try.prog qQ10_5 a w K' Q else K' (a.put (some 33) undef) w) :
    wpAnyH Try.prog .any opsQ10 Q S 3 (#[true, true, true, true, true, false, false, false] : Array Bool) a w :=
  wpAnyH_ready (rs := [5]) (by kernel_rfl) (by simp) (AllReadyH.cons hQ10_5 (fun K' hK => h5 K' ((show (#[true, true, true, true, true, false, false, false] : Array Bool).setIfInBounds 5 true = (#[true, true, true, true, true, true, false, false] : Array Bool) by kernel_rfl) ▸ hK)) AllReadyH.nil)
set_option maxRecDepth 100000 in
theorem cQ10_0123_4 {Q : Exit → Act → World → Prop} {S : World → Prop} {a : Act} {w : World}
    (h4 : ∀ K' : Act → World → Prop, Shut (∀ a w, S w → (S w → wpAnyH Try.prog .any opsQ10 Q S 3 (#[true, true, true, true, true, false, false, false] : Array Bool) a w) → K' a w) → if Region.wanted qQ10_4 (yielded opsQ10 a.tmps) = true then Oper.wp Try.prog qQ10_4 a w K' Q else K' (a.put (some 32) undef) w) :
    wpAnyH Try.prog .any opsQ10 Q S 4 (#[true, true, true, true, false, false, false, false] : Array Bool) a w :=
  wpAnyH_ready (rs := [4]) (by kernel_rfl) (by simp) (AllReadyH.cons hQ10_4 (fun K' hK => h4 K' ((show (#[true, true, true, true, false, false, false, false] : Array Bool).setIfInBounds 4 true = (#[true, true, true, true, true, false, false, false] : Array Bool) by kernel_rfl) ▸ hK)) AllReadyH.nil)
set_option maxRecDepth 100000 in
theorem cQ10_012_3 {Q : Exit → Act → World → Prop} {S : World → Prop} {a : Act} {w : World}
    (h3 : ∀ K' : Act → World → Prop, Shut (∀ a w, S w → (S w → wpAnyH Try.prog .any opsQ10 Q S 4 (#[true, true, true, true, false, false, false, false] : Array Bool) a w) → K' a w) → if Region.wanted qQ10_3 (yielded opsQ10 a.tmps) = true then Oper.wp Try.prog qQ10_3 a w K' Q else K' (a.put (some 31) undef) w) :
    wpAnyH Try.prog .any opsQ10 Q S 5 (#[true, true, true, false, false, false, false, false] : Array Bool) a w :=
  wpAnyH_ready (rs := [3]) (by kernel_rfl) (by simp) (AllReadyH.cons hQ10_3 (fun K' hK => h3 K' ((show (#[true, true, true, false, false, false, false, false] : Array Bool).setIfInBounds 3 true = (#[true, true, true, true, false, false, false, false] : Array Bool) by kernel_rfl) ▸ hK)) AllReadyH.nil)
set_option maxRecDepth 100000 in
theorem cQ10_0234_1 {Q : Exit → Act → World → Prop} {S : World → Prop} {a : Act} {w : World}
    (h1 : ∀ K' : Act → World → Prop, Shut (∀ a w, S w → (S w → wpAnyH Try.prog .any opsQ10 Q S 3 (#[true, true, true, true, true, false, false, false] : Array Bool) a w) → K' a w) → if Region.wanted qQ10_1 (yielded opsQ10 a.tmps) = true then Oper.wp Try.prog qQ10_1 a w K' Q else K' (a.put (some 29) undef) w) :
    wpAnyH Try.prog .any opsQ10 Q S 4 (#[true, false, true, true, true, false, false, false] : Array Bool) a w :=
  wpAnyH_ready (rs := [1]) (by kernel_rfl) (by simp) (AllReadyH.cons hQ10_1 (fun K' hK => h1 K' ((show (#[true, false, true, true, true, false, false, false] : Array Bool).setIfInBounds 1 true = (#[true, true, true, true, true, false, false, false] : Array Bool) by kernel_rfl) ▸ hK)) AllReadyH.nil)
set_option maxRecDepth 100000 in
theorem cQ10_023_14 {Q : Exit → Act → World → Prop} {S : World → Prop} {a : Act} {w : World}
    (h1 : ∀ K' : Act → World → Prop, Shut (∀ a w, S w → (S w → wpAnyH Try.prog .any opsQ10 Q S 4 (#[true, true, true, true, false, false, false, false] : Array Bool) a w) → K' a w) → if Region.wanted qQ10_1 (yielded opsQ10 a.tmps) = true then Oper.wp Try.prog qQ10_1 a w K' Q else K' (a.put (some 29) undef) w)
    (h4 : ∀ K' : Act → World → Prop, Shut (∀ a w, S w → (S w → wpAnyH Try.prog .any opsQ10 Q S 4 (#[true, false, true, true, true, false, false, false] : Array Bool) a w) → K' a w) → if Region.wanted qQ10_4 (yielded opsQ10 a.tmps) = true then Oper.wp Try.prog qQ10_4 a w K' Q else K' (a.put (some 32) undef) w) :
    wpAnyH Try.prog .any opsQ10 Q S 5 (#[true, false, true, true, false, false, false, false] : Array Bool) a w :=
  wpAnyH_ready (rs := [1, 4]) (by kernel_rfl) (by simp) (AllReadyH.cons hQ10_1 (fun K' hK => h1 K' ((show (#[true, false, true, true, false, false, false, false] : Array Bool).setIfInBounds 1 true = (#[true, true, true, true, false, false, false, false] : Array Bool) by kernel_rfl) ▸ hK)) (AllReadyH.cons hQ10_4 (fun K' hK => h4 K' ((show (#[true, false, true, true, false, false, false, false] : Array Bool).setIfInBounds 4 true = (#[true, false, true, true, true, false, false, false] : Array Bool) by kernel_rfl) ▸ hK)) AllReadyH.nil))
set_option maxRecDepth 100000 in
theorem cQ10_02_13 {Q : Exit → Act → World → Prop} {S : World → Prop} {a : Act} {w : World}
    (h1 : ∀ K' : Act → World → Prop, Shut (∀ a w, S w → (S w → wpAnyH Try.prog .any opsQ10 Q S 5 (#[true, true, true, false, false, false, false, false] : Array Bool) a w) → K' a w) → if Region.wanted qQ10_1 (yielded opsQ10 a.tmps) = true then Oper.wp Try.prog qQ10_1 a w K' Q else K' (a.put (some 29) undef) w)
    (h3 : ∀ K' : Act → World → Prop, Shut (∀ a w, S w → (S w → wpAnyH Try.prog .any opsQ10 Q S 5 (#[true, false, true, true, false, false, false, false] : Array Bool) a w) → K' a w) → if Region.wanted qQ10_3 (yielded opsQ10 a.tmps) = true then Oper.wp Try.prog qQ10_3 a w K' Q else K' (a.put (some 31) undef) w) :
    wpAnyH Try.prog .any opsQ10 Q S 6 (#[true, false, true, false, false, false, false, false] : Array Bool) a w :=
  wpAnyH_ready (rs := [1, 3]) (by kernel_rfl) (by simp) (AllReadyH.cons hQ10_1 (fun K' hK => h1 K' ((show (#[true, false, true, false, false, false, false, false] : Array Bool).setIfInBounds 1 true = (#[true, true, true, false, false, false, false, false] : Array Bool) by kernel_rfl) ▸ hK)) (AllReadyH.cons hQ10_3 (fun K' hK => h3 K' ((show (#[true, false, true, false, false, false, false, false] : Array Bool).setIfInBounds 3 true = (#[true, false, true, true, false, false, false, false] : Array Bool) by kernel_rfl) ▸ hK)) AllReadyH.nil))
end Go.Proofs.Ythkkleicekhelaa.hexes
