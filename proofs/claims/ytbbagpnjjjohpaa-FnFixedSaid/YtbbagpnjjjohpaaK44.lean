/-
  A statement of spec.l11Case: its operations, and a theorem a step.
  What a law is told of the code that it draws from; the law's own bound on it.
-/
import Derived.Test.YtbbagpnjjjohpaaK10
import Derived.Test.YtbbagpnjjjohpaaK1
import Derived.OpenShut

namespace Go.Proofs.Ytbbagpnjjjohpaa.hexes
open Go.RowKit

def findD11 (n : Nat) : Code → Option Code
  | .region id ops d => if id = n then some (.region id ops d) else none
  | .seq a b => match findD11 n a with
    | some c => some c
    | none => findD11 n b
  | .block _ c => findD11 n c
  | .scope c => findD11 n c
  | .loop c => findD11 n c
  | .cond _ a b => match findD11 n a with
    | some c => some c
    | none => findD11 n b
  | _ => none
def opsOfD11 : Option Code → Array Oper
  | some (.region _ ops _) => ops
  | _ => #[]
noncomputable def opsD11 : Array Oper := opsOfD11 (Try.f46.body.bind (findD11 8))
theorem noselD11 : Region.noSelect opsD11 = true := by kernel_rfl
def qD11_0 : Oper := { dst := some 25, op := Op.load 26 (Operand.tmp 6), type := 26, pos := "l11_fixed.go:120", after := #[], guard := none }
theorem hD11_0 : opsD11[0]? = some qD11_0 := by kernel_rfl
def qD11_1 : Oper := { dst := some 26, op := Op.move (Operand.tmp 5), type := 80, pos := "l11_fixed.go:120", after := #[], guard := none }
theorem hD11_1 : opsD11[1]? = some qD11_1 := by kernel_rfl
def qD11_2 : Oper := { dst := some 27, op := Op.call { callee := Callee.value (Operand.func 54), args := #[Operand.tmp 26, Operand.const (Value.int IntKind.i64 5)], argTypes := #[80, 3] }, type := 3, pos := "l11_fixed.go:120", after := #[{ on := 1, ground := Ground.data }], guard := none }
theorem hD11_2 : opsD11[2]? = some qD11_2 := by kernel_rfl
def qD11_3 : Oper := { dst := some 28, op := Op.binOp BinOp.sub 3 (Operand.tmp 27) (Operand.const (Value.int IntKind.i64 1)) 3, type := 3, pos := "l11_fixed.go:120", after := #[{ on := 2, ground := Ground.data }, { on := 5, ground := Ground.gcOnly Departure.lateStores }], guard := none }
theorem hD11_3 : opsD11[3]? = some qD11_3 := by kernel_rfl
def qD11_4 : Oper := { dst := some 29, op := Op.move (Operand.tmp 7), type := 27, pos := "l11_fixed.go:120", after := #[{ on := 6, ground := Ground.gcOnly Departure.lateStores }], guard := none }
theorem hD11_4 : opsD11[4]? = some qD11_4 := by kernel_rfl
def qD11_5 : Oper := { dst := none, op := Op.store 26 (Operand.tmp 2) (Operand.tmp 25), type := 0, pos := "l11_fixed.go:120", after := #[{ on := 0, ground := Ground.data }, { on := 2, ground := Ground.chain }, { on := 0, ground := Ground.phase }, { on := 1, ground := Ground.textOnly Departure.lateStores }, { on := 2, ground := Ground.textOnly Departure.lateStoresUnsure }, { on := 3, ground := Ground.textOnly Departure.lateStores }, { on := 4, ground := Ground.textOnly Departure.lateStores }], guard := none }
theorem hD11_5 : opsD11[5]? = some qD11_5 := by kernel_rfl
def qD11_6 : Oper := { dst := some 3, op := Op.assign (Operand.tmp 28), type := 3, pos := "l11_fixed.go:120", after := #[{ on := 3, ground := Ground.data }, { on := 5, ground := Ground.chain }, { on := 0, ground := Ground.phase }, { on := 1, ground := Ground.phase }, { on := 2, ground := Ground.phase }, { on := 3, ground := Ground.phase }, { on := 4, ground := Ground.textOnly Departure.lateStores }, { on := 5, ground := Ground.phase }], guard := none }
theorem hD11_6 : opsD11[6]? = some qD11_6 := by kernel_rfl
def qD11_7 : Oper := { dst := some 4, op := Op.assign (Operand.tmp 29), type := 27, pos := "l11_fixed.go:120", after := #[{ on := 4, ground := Ground.data }, { on := 6, ground := Ground.chain }, { on := 0, ground := Ground.phase }, { on := 1, ground := Ground.phase }, { on := 2, ground := Ground.phase }, { on := 3, ground := Ground.phase }, { on := 4, ground := Ground.phase }, { on := 5, ground := Ground.phase }, { on := 6, ground := Ground.phase }], guard := none }
theorem hD11_7 : opsD11[7]? = some qD11_7 := by kernel_rfl
theorem tD11_e_0 : RegT Try.prog opsD11 qD11_0 (some 25) 7 (#[false, false, false, false, false, false, false, false] : Array Bool) (#[true, false, false, false, false, false, false, false] : Array Bool) := regT hD11_0 rfl noselD11 (by kernel_rfl) (by kernel_rfl) (by kernel_rfl)
theorem tD11_0_1 : RegT Try.prog opsD11 qD11_1 (some 26) 6 (#[true, false, false, false, false, false, false, false] : Array Bool) (#[true, true, false, false, false, false, false, false] : Array Bool) := regT hD11_1 rfl noselD11 (by kernel_rfl) (by kernel_rfl) (by kernel_rfl)
theorem tD11_01_4 : RegT Try.prog opsD11 qD11_4 (some 29) 5 (#[true, true, false, false, false, false, false, false] : Array Bool) (#[true, true, false, false, true, false, false, false] : Array Bool) := regT hD11_4 rfl noselD11 (by kernel_rfl) (by kernel_rfl) (by kernel_rfl)
theorem tD11_0124_3 : RegT Try.prog opsD11 qD11_3 (some 28) 3 (#[true, true, true, false, true, false, false, false] : Array Bool) (#[true, true, true, true, true, false, false, false] : Array Bool) := regT hD11_3 rfl noselD11 (by kernel_rfl) (by kernel_rfl) (by kernel_rfl)
theorem tD11_012345_6 : RegT Try.prog opsD11 qD11_6 (some 3) 1 (#[true, true, true, true, true, true, false, false] : Array Bool) (#[true, true, true, true, true, true, true, false] : Array Bool) := regT hD11_6 rfl noselD11 (by kernel_rfl) (by kernel_rfl) (by kernel_rfl)
theorem tD11_0123456_7 : RegT Try.prog opsD11 qD11_7 (some 4) 0 (#[true, true, true, true, true, true, true, false] : Array Bool) (#[true, true, true, true, true, true, true, true] : Array Bool) := regT hD11_7 rfl noselD11 (by kernel_rfl) (by kernel_rfl) (by kernel_rfl)
theorem cD11_01234_5 : RegC Try.prog opsD11 qD11_5 (none) 2 (#[true, true, true, true, true, false, false, false] : Array Bool) (#[true, true, true, true, true, true, false, false] : Array Bool) := regC hD11_5 rfl (by kernel_rfl) (by kernel_rfl)
theorem cD11_014_2 : RegC Try.prog opsD11 qD11_2 (some 27) 4 (#[true, true, false, false, true, false, false, false] : Array Bool) (#[true, true, true, false, true, false, false, false] : Array Bool) := regC hD11_2 rfl (by kernel_rfl) (by kernel_rfl)
end Go.Proofs.Ytbbagpnjjjohpaa.hexes

namespace Go.Proofs.Ytbbagpnjjjohpaa.hexes
open Go.RowKit

/-- WHAT THE WALK IS TOLD OF A SLICE OF INTEGERS THAT CAME IN. -/
def IsRow (k : IntKind) (w : World) (a : Option Addr) (len cap : Nat) (zs : List Int) : Prop :=
  (a = none ∧ len = 0 ∧ cap = 0 ∧ zs = []) ∨
  ∃ x, a = some x ∧ len ≤ cap ∧ cap ≤ maxLen ∧ zs.length = cap ∧ (∀ i, i < zs.length → w.cell? (x.add i) = some (.int k (zs.getD i 0))) ∧ ∀ n ∈ zs, (Lit.int k n).wf = true

theorem came_of_row {w : World} {a : Option Addr} {len cap : Nat} {zs : List Int} (h : IsRow .u8 w a len cap zs) : Came w a len := fun hl => by
  rcases h with ⟨_, rfl, _⟩ | ⟨x, rfl, hlc, _, hz, hcell, hwf⟩
  · omega
  · obtain ⟨b, off, spot⟩ := x
    have hc0 := hcell 0 (by omega)
    have hspot : spot = none := by simpa [Addr.add] using World.cell?_spot hc0
    subst hspot
    have hadd : ∀ j, (Addr.add ⟨b, off, none⟩ j) = ⟨b, off + j, none⟩ := fun j => by unfold Addr.add; split <;> simp_all
    refine ⟨b, off, rfl, ?_, fun j hj => ?_⟩
    · rw [hadd 0] at hc0
      exact World.block_lt_of_cell? w _ hc0
    · have hcj := hcell j (by omega)
      rw [hadd j] at hcj
      have hj' : j < zs.length := by omega
      have hm : zs.getD j 0 ∈ zs := by rw [List.getD_eq_getElem?_getD, List.getElem?_eq_getElem hj']; exact List.getElem_mem hj'
      have hb := bounds_u8 (hwf _ hm)
      refine ⟨(zs.getD j 0).toNat, by omega, ?_⟩
      rw [hcj]
      congr 2
      omega

theorem big_any (A : Option Addr) (len cap : Nat) (w : World) :
    Calls Try.prog 11 #[.slice A len cap] w fun e w' => e = .returned (.bool (decide (1048576 < (len : Int)))) ∧ w = w' := by
  go_enter Try.func11, Try.ntmps11
  go_wp2
  go_ret
  exact ⟨rfl, rfl⟩

end Go.Proofs.Ytbbagpnjjjohpaa.hexes

