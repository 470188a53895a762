/-
  A drawn right graph read as any drawn graph.
  A statement of spec.l07Node: its operations, and a theorem a step.
-/
import Derived.Test.YtlanmkimaambgaaS40
import Derived.Test.YtlanmkimaambgaaS39
import Derived.Test.YtlanmkimaambgaaS11

namespace Go.Proofs.Ytlanmkimaambgaa.hexes
open Go.RowKit

theorem graphGa_draw (w : World) (c : Nat) (A : Option Addr) (len cap : Nat) (hlen : len ≤ 2097152) (hcur : Cursor w c A len cap) :
    Calls Try.prog 32 #[.pointer (some ⟨c, 0, none⟩)] w (GaEnd w c A len cap) :=
  (graph_draw w c A len cap hlen hcur).mono fun _ _ h => by
    obtain ⟨A1, n, c1, wk, cp, vs, h6, h7, hvl, rfl, ho, hi1, _, _, hc1, g1⟩ := h
    obtain ⟨gs, hgl, hg4, hF⟩ := ndsF_of ho hvl hi1
    exact ⟨A1, n, c1, wk, cp, gs, by omega, hgl, hg4, rfl, hF, hc1, g1⟩
end Go.Proofs.Ytlanmkimaambgaa.hexes

namespace Go.Proofs.Ytlanmkimaambgaa.hexes
open Go.RowKit

def findN14 (n : Nat) : Code → Option Code
  | .region id ops d => if id = n then some (.region id ops d) else none
  | .seq a b => match findN14 n a with
    | some c => some c
    | none => findN14 n b
  | .block _ c => findN14 n c
  | .scope c => findN14 n c
  | .loop c => findN14 n c
  | .cond _ a b => match findN14 n a with
    | some c => some c
    | none => findN14 n b
  | _ => none
def opsOfN14 : Option Code → Array Oper
  | some (.region _ ops _) => ops
  | _ => #[]
noncomputable def opsN14 : Array Oper := opsOfN14 (Try.f87.body.bind (findN14 14))
theorem noselN14 : Region.noSelect opsN14 = true := by kernel_rfl
def qN14_0 : Oper := { dst := some 43, op := Op.fieldAddr 42 (Operand.tmp 3) 3, type := 0, pos := "l07_operators.go:75", after := #[], guard := none }
theorem hN14_0 : opsN14[0]? = some qN14_0 := by kernel_rfl
def qN14_1 : Oper := { dst := some 44, op := Op.load 40 (Operand.tmp 43), type := 40, pos := "l07_operators.go:75", after := #[{ on := 0, ground := Ground.data }], guard := none }
theorem hN14_1 : opsN14[1]? = some qN14_1 := by kernel_rfl
def qN14_2 : Oper := { dst := some 45, op := Op.move (Operand.tmp 4), type := 3, pos := "l07_operators.go:75", after := #[], guard := none }
theorem hN14_2 : opsN14[2]? = some qN14_2 := by kernel_rfl
def qN14_3 : Oper := { dst := some 46, op := Op.binOp BinOp.mul 3 (Operand.tmp 45) (Operand.const (Value.int IntKind.i64 2)) 3, type := 3, pos := "l07_operators.go:75", after := #[{ on := 2, ground := Ground.data }], guard := none }
theorem hN14_3 : opsN14[3]? = some qN14_3 := by kernel_rfl
def qN14_4 : Oper := { dst := some 47, op := Op.binOp BinOp.add 3 (Operand.const (Value.int IntKind.i64 1)) (Operand.tmp 46) 3, type := 3, pos := "l07_operators.go:75", after := #[{ on := 3, ground := Ground.data }], guard := none }
theorem hN14_4 : opsN14[4]? = some qN14_4 := by kernel_rfl
def qN14_5 : Oper := { dst := some 48, op := Op.move (Operand.tmp 0), type := 66, pos := "l07_operators.go:75", after := #[], guard := none }
theorem hN14_5 : opsN14[5]? = some qN14_5 := by kernel_rfl
def qN14_6 : Oper := { dst := some 49, op := Op.call { callee := Callee.value (Operand.func 51), args := #[Operand.tmp 48, Operand.const (Value.int IntKind.i64 2)], argTypes := #[66, 3] }, type := 3, pos := "l07_operators.go:75", after := #[{ on := 5, ground := Ground.data }], guard := none }
theorem hN14_6 : opsN14[6]? = some qN14_6 := by kernel_rfl
def qN14_7 : Oper := { dst := some 50, op := Op.binOp BinOp.add 3 (Operand.tmp 47) (Operand.tmp 49) 3, type := 3, pos := "l07_operators.go:75", after := #[{ on := 4, ground := Ground.data }, { on := 6, ground := Ground.data }], guard := none }
theorem hN14_7 : opsN14[7]? = some qN14_7 := by kernel_rfl
def qN14_8 : Oper := { dst := some 51, op := Op.buildSlice 40 1 #[(0, Operand.tmp 50)], type := 40, pos := "l07_operators.go:75", after := #[{ on := 7, ground := Ground.data }], guard := none }
theorem hN14_8 : opsN14[8]? = some qN14_8 := by kernel_rfl
def qN14_9 : Oper := { dst := some 52, op := Op.call { callee := Callee.builtin Builtin.append, args := #[Operand.tmp 44, Operand.tmp 51], argTypes := #[40, 40] }, type := 40, pos := "l07_operators.go:75", after := #[{ on := 1, ground := Ground.data }, { on := 8, ground := Ground.data }, { on := 6, ground := Ground.chain }], guard := none }
theorem hN14_9 : opsN14[9]? = some qN14_9 := by kernel_rfl
def qN14_10 : Oper := { dst := some 53, op := Op.fieldAddr 42 (Operand.tmp 3) 3, type := 0, pos := "l07_operators.go:75", after := #[{ on := 0, ground := Ground.phase }, { on := 1, ground := Ground.phase }, { on := 2, ground := Ground.phase }, { on := 3, ground := Ground.phase }, { on := 4, ground := Ground.phase }, { on := 5, ground := Ground.phase }, { on := 6, ground := Ground.phase }, { on := 7, ground := Ground.phase }, { on := 8, ground := Ground.phase }, { on := 9, ground := Ground.phase }], guard := none }
theorem hN14_10 : opsN14[10]? = some qN14_10 := by kernel_rfl
def qN14_11 : Oper := { dst := none, op := Op.store 40 (Operand.tmp 53) (Operand.tmp 52), type := 0, pos := "l07_operators.go:75", after := #[{ on := 10, ground := Ground.data }, { on := 9, ground := Ground.data }, { on := 9, ground := Ground.chain }, { on := 0, ground := Ground.phase }, { on := 1, ground := Ground.phase }, { on := 2, ground := Ground.phase }, { on := 3, ground := Ground.phase }, { on := 4, ground := Ground.phase }, { on := 5, ground := Ground.phase }, { on := 6, ground := Ground.phase }, { on := 7, ground := Ground.phase }, { on := 8, ground := Ground.phase }, { on := 9, ground := Ground.phase }], guard := none }
theorem hN14_11 : opsN14[11]? = some qN14_11 := by kernel_rfl
theorem tN14_e_0 : RegT Try.prog opsN14 qN14_0 (some 43) 11 (#[false, false, false, false, false, false, false, false, false, false, false, false] : Array Bool) (#[true, false, false, false, false, false, false, false, false, false, false, false] : Array Bool) := regT hN14_0 rfl noselN14 (by kernel_rfl) (by kernel_rfl) (by kernel_rfl)
theorem tN14_0_2 : RegT Try.prog opsN14 qN14_2 (some 45) 10 (#[true, false, false, false, false, false, false, false, false, false, false, false] : Array Bool) (#[true, false, true, false, false, false, false, false, false, false, false, false] : Array Bool) := regT hN14_2 rfl noselN14 (by kernel_rfl) (by kernel_rfl) (by kernel_rfl)
theorem tN14_02_3 : RegT Try.prog opsN14 qN14_3 (some 46) 9 (#[true, false, true, false, false, false, false, false, false, false, false, false] : Array Bool) (#[true, false, true, true, false, false, false, false, false, false, false, false] : Array Bool) := regT hN14_3 rfl noselN14 (by kernel_rfl) (by kernel_rfl) (by kernel_rfl)
theorem tN14_023_4 : RegT Try.prog opsN14 qN14_4 (some 47) 8 (#[true, false, true, true, false, false, false, false, false, false, false, false] : Array Bool) (#[true, false, true, true, true, false, false, false, false, false, false, false] : Array Bool) := regT hN14_4 rfl noselN14 (by kernel_rfl) (by kernel_rfl) (by kernel_rfl)
theorem tN14_0234_5 : RegT Try.prog opsN14 qN14_5 (some 48) 7 (#[true, false, true, true, true, false, false, false, false, false, false, false] : Array Bool) (#[true, false, true, true, true, true, false, false, false, false, false, false] : Array Bool) := regT hN14_5 rfl noselN14 (by kernel_rfl) (by kernel_rfl) (by kernel_rfl)
theorem tN14_0123456_7 : RegT Try.prog opsN14 qN14_7 (some 50) 4 (#[true, true, true, true, true, true, true, false, false, false, false, false] : Array Bool) (#[true, true, true, true, true, true, true, true, false, false, false, false] : Array Bool) := regT hN14_7 rfl noselN14 (by kernel_rfl) (by kernel_rfl) (by kernel_rfl)
theorem tN14_0123456789_10 : RegT Try.prog opsN14 qN14_10 (some 53) 1 (#[true, true, true, true, true, true, true, true, true, true, false, false] : Array Bool) (#[true, true, true, true, true, true, true, true, true, true, true, false] : Array Bool) := regT hN14_10 rfl noselN14 (by kernel_rfl) (by kernel_rfl) (by kernel_rfl)
theorem cN14_0123456789_10__11 : RegC Try.prog opsN14 qN14_11 (none) 0 (#[true, true, true, true, true, true, true, true, true, true, true, false] : Array Bool) (#[true, true, true, true, true, true, true, true, true, true, true, true] : Array Bool) := regC hN14_11 rfl (by kernel_rfl) (by kernel_rfl)
theorem cN14_012345678_9 : RegC Try.prog opsN14 qN14_9 (some 52) 2 (#[true, true, true, true, true, true, true, true, true, false, false, false] : Array Bool) (#[true, true, true, true, true, true, true, true, true, true, false, false] : Array Bool) := regC hN14_9 rfl (by kernel_rfl) (by kernel_rfl)
theorem cN14_01234567_8 : RegC Try.prog opsN14 qN14_8 (some 51) 3 (#[true, true, true, true, true, true, true, true, false, false, false, false] : Array Bool) (#[true, true, true, true, true, true, true, true, true, false, false, false] : Array Bool) := regC hN14_8 rfl (by kernel_rfl) (by kernel_rfl)
theorem cN14_012345_6 : RegC Try.prog opsN14 qN14_6 (some 49) 5 (#[true, true, true, true, true, true, false, false, false, false, false, false] : Array Bool) (#[true, true, true, true, true, true, true, false, false, false, false, false] : Array Bool) := regC hN14_6 rfl (by kernel_rfl) (by kernel_rfl)
theorem tN14_023456_7 : RegT Try.prog opsN14 qN14_7 (some 50) 5 (#[true, false, true, true, true, true, true, false, false, false, false, false] : Array Bool) (#[true, false, true, true, true, true, true, true, false, false, false, false] : Array Bool) := regT hN14_7 rfl noselN14 (by kernel_rfl) (by kernel_rfl) (by kernel_rfl)
theorem cN14_02345678_1 : RegC Try.prog opsN14 qN14_1 (some 44) 3 (#[true, false, true, true, true, true, true, true, true, false, false, false] : Array Bool) (#[true, true, true, true, true, true, true, true, true, false, false, false] : Array Bool) := regC hN14_1 rfl (by kernel_rfl) (by kernel_rfl)
set_option maxRecDepth 100000 in
theorem cN14_0234567_18 {Q : Exit → Act → World → Prop} {S : World → Prop} {a : Act} {w : World}
    (h1 : ∀ K' : Act → World → Prop, Shut (∀ a w, S w → (S w → wpAnyH Try.prog .any opsN14 Q S 4 (#[true, true, true, true, true, true, true, true, false, false, false, false] : Array Bool) a w) → K' a w) → if Region.wanted qN14_1 (yielded opsN14 a.tmps) = true then Oper.wp Try.prog qN14_1 a w K' Q else K' (a.put (some 44) undef) w)
    (h8 : ∀ K' : Act → World → Prop, Shut (∀ a w, S w → (S w → wpAnyH Try.prog .any opsN14 Q S 4 (#[true, false, true, true, true, true, true, true, true, false, false, false] : Array Bool) a w) → K' a w) → if Region.wanted qN14_8 (yielded opsN14 a.tmps) = true then Oper.wp Try.prog qN14_8 a w K' Q else K' (a.put (some 51) undef) w) :
    wpAnyH Try.prog .any opsN14 Q S 5 (#[true, false, true, true, true, true, true, true, false, false, false, false] : Array Bool) a w :=
  wpAnyH_ready (rs := [1, 8]) (by kernel_rfl) (by simp) (AllReadyH.cons hN14_1 (fun K' hK => h1 K' ((show (#[true, false, true, true, true, true, true, true, false, false, false, false] : Array Bool).setIfInBounds 1 true = (#[true, true, true, true, true, true, true, true, false, false, false, false] : Array Bool) by kernel_rfl) ▸ hK)) (AllReadyH.cons hN14_8 (fun K' hK => h8 K' ((show (#[true, false, true, true, true, true, true, true, false, false, false, false] : Array Bool).setIfInBounds 8 true = (#[true, false, true, true, true, true, true, true, true, false, false, false] : Array Bool) by kernel_rfl) ▸ hK)) AllReadyH.nil))
set_option maxRecDepth 100000 in
theorem cN14_02345_16 {Q : Exit → Act → World → Prop} {S : World → Prop} {a : Act} {w : World}
    (h1 : ∀ K' : Act → World → Prop, Shut (∀ a w, S w → (S w → wpAnyH Try.prog .any opsN14 Q S 6 (#[true, true, true, true, true, true, false, false, false, false, false, false] : Array Bool) a w) → K' a w) → if Region.wanted qN14_1 (yielded opsN14 a.tmps) = true then Oper.wp Try.prog qN14_1 a w K' Q else K' (a.put (some 44) undef) w)
    (h6 : ∀ K' : Act → World → Prop, Shut (∀ a w, S w → (S w → wpAnyH Try.prog .any opsN14 Q S 6 (#[true, false, true, true, true, true, true, false, false, false, false, false] : Array Bool) a w) → K' a w) → if Region.wanted qN14_6 (yielded opsN14 a.tmps) = true then Oper.wp Try.prog qN14_6 a w K' Q else K' (a.put (some 49) undef) w) :
    wpAnyH Try.prog .any opsN14 Q S 7 (#[true, false, true, true, true, true, false, false, false, false, false, false] : Array Bool) a w :=
  wpAnyH_ready (rs := [1, 6]) (by kernel_rfl) (by simp) (AllReadyH.cons hN14_1 (fun K' hK => h1 K' ((show (#[true, false, true, true, true, true, false, false, false, false, false, false] : Array Bool).setIfInBounds 1 true = (#[true, true, true, true, true, true, false, false, false, false, false, false] : Array Bool) by kernel_rfl) ▸ hK)) (AllReadyH.cons hN14_6 (fun K' hK => h6 K' ((show (#[true, false, true, true, true, true, false, false, false, false, false, false] : Array Bool).setIfInBounds 6 true = (#[true, false, true, true, true, true, true, false, false, false, false, false] : Array Bool) by kernel_rfl) ▸ hK)) AllReadyH.nil))
end Go.Proofs.Ytlanmkimaambgaa.hexes

