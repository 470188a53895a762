/-
  A statement of spec.DrawStepOp: its operations, and a theorem a step.
  A statement of spec.DrawStepOp: its operations, and a theorem a step.
  What a law is told of the code that it draws from; the law's own bound on it.
-/
import Derived.Test.YtlanmkimaambgaaS11
import Derived.Test.YtlanmkimaambgaaS1
import Derived.OpenShut

namespace Go.Proofs.Ytlanmkimaambgaa.hexes
open Go.RowKit

def findD7 (n : Nat) : Code → Option Code
  | .region id ops d => if id = n then some (.region id ops d) else none
  | .seq a b => match findD7 n a with
    | some c => some c
    | none => findD7 n b
  | .block _ c => findD7 n c
  | .scope c => findD7 n c
  | .loop c => findD7 n c
  | .cond _ a b => match findD7 n a with
    | some c => some c
    | none => findD7 n b
  | _ => none
def opsOfD7 : Option Code → Array Oper
  | some (.region _ ops _) => ops
  | _ => #[]
noncomputable def opsD7 : Array Oper := opsOfD7 (Try.f7.body.bind (findD7 7))
theorem noselD7 : Region.noSelect opsD7 = true := by kernel_rfl
def qD7_0 : Oper := { dst := some 21, op := Op.load 26 (Operand.tmp 6), type := 26, pos := "l10_steps.go:86", after := #[], guard := none }
theorem hD7_0 : opsD7[0]? = some qD7_0 := by kernel_rfl
def qD7_1 : Oper := { dst := some 22, op := Op.move (Operand.tmp 7), type := 27, pos := "l10_steps.go:86", after := #[{ on := 4, ground := Ground.gcOnly Departure.lateStores }], guard := none }
theorem hD7_1 : opsD7[1]? = some qD7_1 := by kernel_rfl
def qD7_2 : Oper := { dst := some 23, op := Op.move (Operand.tmp 5), type := 66, pos := "l10_steps.go:86", after := #[], guard := none }
theorem hD7_2 : opsD7[2]? = some qD7_2 := by kernel_rfl
def qD7_3 : Oper := { dst := some 24, op := Op.call { callee := Callee.value (Operand.func 36), args := #[Operand.tmp 23], argTypes := #[66] }, type := 31, pos := "l10_steps.go:86", after := #[{ on := 2, ground := Ground.data }], guard := none }
theorem hD7_3 : opsD7[3]? = some qD7_3 := by kernel_rfl
def qD7_4 : Oper := { dst := none, op := Op.store 26 (Operand.tmp 2) (Operand.tmp 21), type := 0, pos := "l10_steps.go:86", after := #[{ on := 0, ground := Ground.data }, { on := 3, ground := Ground.chain }, { on := 0, ground := Ground.phase }, { on := 1, ground := Ground.textOnly Departure.lateStores }, { on := 2, ground := Ground.textOnly Departure.lateStores }, { on := 3, ground := Ground.textOnly Departure.lateStoresUnsure }], guard := none }
theorem hD7_4 : opsD7[4]? = some qD7_4 := by kernel_rfl
def qD7_5 : Oper := { dst := some 3, op := Op.assign (Operand.tmp 22), type := 27, pos := "l10_steps.go:86", after := #[{ on := 1, ground := Ground.data }, { on := 4, ground := Ground.chain }, { on := 0, ground := Ground.phase }, { on := 1, ground := Ground.phase }, { on := 2, ground := Ground.textOnly Departure.lateStores }, { on := 3, ground := Ground.textOnly Departure.lateStoresUnsure }, { on := 4, ground := Ground.phase }], guard := none }
theorem hD7_5 : opsD7[5]? = some qD7_5 := by kernel_rfl
def qD7_6 : Oper := { dst := none, op := Op.store 31 (Operand.tmp 4) (Operand.tmp 24), type := 0, pos := "l10_steps.go:86", after := #[{ on := 3, ground := Ground.data }, { on := 5, ground := Ground.chain }, { on := 0, ground := Ground.phase }, { on := 1, ground := Ground.phase }, { on := 2, ground := Ground.phase }, { on := 3, ground := Ground.phase }, { on := 4, ground := Ground.phase }, { on := 5, ground := Ground.phase }], guard := none }
theorem hD7_6 : opsD7[6]? = some qD7_6 := by kernel_rfl
theorem tD7_e_0 : RegT Try.prog opsD7 qD7_0 (some 21) 6 (#[false, false, false, false, false, false, false] : Array Bool) (#[true, false, false, false, false, false, false] : Array Bool) := regT hD7_0 rfl noselD7 (by kernel_rfl) (by kernel_rfl) (by kernel_rfl)
theorem tD7_0_1 : RegT Try.prog opsD7 qD7_1 (some 22) 5 (#[true, false, false, false, false, false, false] : Array Bool) (#[true, true, false, false, false, false, false] : Array Bool) := regT hD7_1 rfl noselD7 (by kernel_rfl) (by kernel_rfl) (by kernel_rfl)
theorem tD7_01_2 : RegT Try.prog opsD7 qD7_2 (some 23) 4 (#[true, true, false, false, false, false, false] : Array Bool) (#[true, true, true, false, false, false, false] : Array Bool) := regT hD7_2 rfl noselD7 (by kernel_rfl) (by kernel_rfl) (by kernel_rfl)
theorem tD7_01234_5 : RegT Try.prog opsD7 qD7_5 (some 3) 1 (#[true, true, true, true, true, false, false] : Array Bool) (#[true, true, true, true, true, true, false] : Array Bool) := regT hD7_5 rfl noselD7 (by kernel_rfl) (by kernel_rfl) (by kernel_rfl)
theorem cD7_012345_6 : RegC Try.prog opsD7 qD7_6 (none) 0 (#[true, true, true, true, true, true, false] : Array Bool) (#[true, true, true, true, true, true, true] : Array Bool) := regC hD7_6 rfl (by kernel_rfl) (by kernel_rfl)
theorem cD7_0123_4 : RegC Try.prog opsD7 qD7_4 (none) 2 (#[true, true, true, true, false, false, false] : Array Bool) (#[true, true, true, true, true, false, false] : Array Bool) := regC hD7_4 rfl (by kernel_rfl) (by kernel_rfl)
theorem cD7_012_3 : RegC Try.prog opsD7 qD7_3 (some 24) 3 (#[true, true, true, false, false, false, false] : Array Bool) (#[true, true, true, true, false, false, false] : Array Bool) := regC hD7_3 rfl (by kernel_rfl) (by kernel_rfl)
end Go.Proofs.Ytlanmkimaambgaa.hexes

namespace Go.Proofs.Ytlanmkimaambgaa.hexes
open Go.RowKit

def findD8 (n : Nat) : Code → Option Code
  | .region id ops d => if id = n then some (.region id ops d) else none
  | .seq a b => match findD8 n a with
    | some c => some c
    | none => findD8 n b
  | .block _ c => findD8 n c
  | .scope c => findD8 n c
  | .loop c => findD8 n c
  | .cond _ a b => match findD8 n a with
    | some c => some c
    | none => findD8 n b
  | _ => none
def opsOfD8 : Option Code → Array Oper
  | some (.region _ ops _) => ops
  | _ => #[]
noncomputable def opsD8 : Array Oper := opsOfD8 (Try.f7.body.bind (findD8 8))
theorem noselD8 : Region.noSelect opsD8 = true := by kernel_rfl
def qD8_0 : Oper := { dst := some 25, op := Op.load 26 (Operand.tmp 6), type := 26, pos := "l10_steps.go:88", after := #[], guard := none }
theorem hD8_0 : opsD8[0]? = some qD8_0 := by kernel_rfl
def qD8_1 : Oper := { dst := some 26, op := Op.move (Operand.tmp 7), type := 27, pos := "l10_steps.go:88", after := #[{ on := 5, ground := Ground.gcOnly Departure.lateStores }], guard := none }
theorem hD8_1 : opsD8[1]? = some qD8_1 := by kernel_rfl
def qD8_2 : Oper := { dst := some 27, op := Op.move (Operand.tmp 5), type := 66, pos := "l10_steps.go:88", after := #[], guard := none }
theorem hD8_2 : opsD8[2]? = some qD8_2 := by kernel_rfl
def qD8_3 : Oper := { dst := some 28, op := Op.load 26 (Operand.tmp 6), type := 26, pos := "l10_steps.go:88", after := #[], guard := none }
theorem hD8_3 : opsD8[3]? = some qD8_3 := by kernel_rfl
def qD8_4 : Oper := { dst := some 29, op := Op.call { callee := Callee.value (Operand.func 37), args := #[Operand.tmp 27, Operand.tmp 28], argTypes := #[66, 26] }, type := 31, pos := "l10_steps.go:88", after := #[{ on := 2, ground := Ground.data }, { on := 3, ground := Ground.data }], guard := none }
theorem hD8_4 : opsD8[4]? = some qD8_4 := by kernel_rfl
def qD8_5 : Oper := { dst := none, op := Op.store 26 (Operand.tmp 2) (Operand.tmp 25), type := 0, pos := "l10_steps.go:88", after := #[{ on := 0, ground := Ground.data }, { on := 4, ground := Ground.chain }, { on := 0, ground := Ground.phase }, { on := 1, ground := Ground.textOnly Departure.lateStores }, { on := 2, ground := Ground.textOnly Departure.lateStores }, { on := 3, ground := Ground.textOnly Departure.lateStores }, { on := 4, ground := Ground.textOnly Departure.lateStoresUnsure }], guard := none }
theorem hD8_5 : opsD8[5]? = some qD8_5 := by kernel_rfl
def qD8_6 : Oper := { dst := some 3, op := Op.assign (Operand.tmp 26), type := 27, pos := "l10_steps.go:88", after := #[{ on := 1, ground := Ground.data }, { on := 5, ground := Ground.chain }, { on := 0, ground := Ground.phase }, { on := 1, ground := Ground.phase }, { on := 2, ground := Ground.textOnly Departure.lateStores }, { on := 3, ground := Ground.textOnly Departure.lateStores }, { on := 4, ground := Ground.textOnly Departure.lateStoresUnsure }, { on := 5, ground := Ground.phase }], guard := none }
theorem hD8_6 : opsD8[6]? = some qD8_6 := by kernel_rfl
def qD8_7 : Oper := { dst := none, op := Op.store 31 (Operand.tmp 4) (Operand.tmp 29), type := 0, pos := "l10_steps.go:88", after := #[{ on := 4, ground := Ground.data }, { on := 6, ground := Ground.chain }, { on := 0, ground := Ground.phase }, { on := 1, ground := Ground.phase }, { on := 2, ground := Ground.phase }, { on := 3, ground := Ground.phase }, { on := 4, ground := Ground.phase }, { on := 5, ground := Ground.phase }, { on := 6, ground := Ground.phase }], guard := none }
theorem hD8_7 : opsD8[7]? = some qD8_7 := by kernel_rfl
theorem tD8_e_0 : RegT Try.prog opsD8 qD8_0 (some 25) 7 (#[false, false, false, false, false, false, false, false] : Array Bool) (#[true, false, false, false, false, false, false, false] : Array Bool) := regT hD8_0 rfl noselD8 (by kernel_rfl) (by kernel_rfl) (by kernel_rfl)
theorem tD8_0_1 : RegT Try.prog opsD8 qD8_1 (some 26) 6 (#[true, false, false, false, false, false, false, false] : Array Bool) (#[true, true, false, false, false, false, false, false] : Array Bool) := regT hD8_1 rfl noselD8 (by kernel_rfl) (by kernel_rfl) (by kernel_rfl)
theorem tD8_01_2 : RegT Try.prog opsD8 qD8_2 (some 27) 5 (#[true, true, false, false, false, false, false, false] : Array Bool) (#[true, true, true, false, false, false, false, false] : Array Bool) := regT hD8_2 rfl noselD8 (by kernel_rfl) (by kernel_rfl) (by kernel_rfl)
theorem tD8_012_3 : RegT Try.prog opsD8 qD8_3 (some 28) 4 (#[true, true, true, false, false, false, false, false] : Array Bool) (#[true, true, true, true, false, false, false, false] : Array Bool) := regT hD8_3 rfl noselD8 (by kernel_rfl) (by kernel_rfl) (by kernel_rfl)
theorem tD8_012345_6 : RegT Try.prog opsD8 qD8_6 (some 3) 1 (#[true, true, true, true, true, true, false, false] : Array Bool) (#[true, true, true, true, true, true, true, false] : Array Bool) := regT hD8_6 rfl noselD8 (by kernel_rfl) (by kernel_rfl) (by kernel_rfl)
theorem cD8_0123456_7 : RegC Try.prog opsD8 qD8_7 (none) 0 (#[true, true, true, true, true, true, true, false] : Array Bool) (#[true, true, true, true, true, true, true, true] : Array Bool) := regC hD8_7 rfl (by kernel_rfl) (by kernel_rfl)
theorem cD8_01234_5 : RegC Try.prog opsD8 qD8_5 (none) 2 (#[true, true, true, true, true, false, false, false] : Array Bool) (#[true, true, true, true, true, true, false, false] : Array Bool) := regC hD8_5 rfl (by kernel_rfl) (by kernel_rfl)
theorem cD8_0123_4 : RegC Try.prog opsD8 qD8_4 (some 29) 3 (#[true, true, true, true, false, false, false, false] : Array Bool) (#[true, true, true, true, true, false, false, false] : Array Bool) := regC hD8_4 rfl (by kernel_rfl) (by kernel_rfl)
end Go.Proofs.Ytlanmkimaambgaa.hexes

namespace Go.Proofs.Ytlanmkimaambgaa.hexes
open Go.RowKit

/-- WHAT THE WALK IS TOLD OF A SLICE OF INTEGERS THAT CAME IN. -/
def IsRow (k : IntKind) (w : World) (a : Option Addr) (len cap : Nat) (zs : List Int) : Prop :=
  (a = none ∧ len = 0 ∧ cap = 0 ∧ zs = []) ∨
  ∃ x, a = some x ∧ len ≤ cap ∧ cap ≤ maxLen ∧ zs.length = cap ∧ (∀ i, i < zs.length → w.cell? (x.add i) = some (.int k (zs.getD i 0))) ∧ ∀ n ∈ zs, (Lit.int k n).wf = true

theorem came_of_row {w : World} {a : Option Addr} {len cap : Nat} {zs : List Int} (h : IsRow .u8 w a len cap zs) : Came w a len := fun hl => by
  rcases h with ⟨_, rfl, _⟩ | ⟨x, rfl, hlc, _, hz, hcell, hwf⟩
  · omega
  · obtain ⟨b, off, spot⟩ := x
    have hc0 := hcell 0 (by omega)
    have hspot : spot = none := by simpa [Addr.add] using World.cell?_spot hc0
    subst hspot
    have hadd : ∀ j, (Addr.add ⟨b, off, none⟩ j) = ⟨b, off + j, none⟩ := fun j => by unfold Addr.add; split <;> simp_all
    refine ⟨b, off, rfl, ?_, fun j hj => ?_⟩
    · rw [hadd 0] at hc0
      exact World.block_lt_of_cell? w _ hc0
    · have hcj := hcell j (by omega)
      rw [hadd j] at hcj
      have hj' : j < zs.length := by omega
      have hm : zs.getD j 0 ∈ zs := by rw [List.getD_eq_getElem?_getD, List.getElem?_eq_getElem hj']; exact List.getElem_mem hj'
      have hb := bounds_u8 (hwf _ hm)
      refine ⟨(zs.getD j 0).toNat, by omega, ?_⟩
      rw [hcj]
      congr 2
      omega

theorem big_any (A : Option Addr) (len cap : Nat) (w : World) :
    Calls Try.prog 6 #[.slice A len cap] w fun e w' => e = .returned (.bool (decide (1048576 < (len : Int)))) ∧ w = w' := by
  go_enter Try.func6, Try.ntmps6
  go_wp2
  go_ret
  exact ⟨rfl, rfl⟩

end Go.Proofs.Ytlanmkimaambgaa.hexes

