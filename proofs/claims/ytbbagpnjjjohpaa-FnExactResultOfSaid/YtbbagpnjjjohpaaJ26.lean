/-
  Chapter 5's plain functions as the reference has them: the contracts of spec.OwnerOf, spec.RecordOk, spec.OfEpoch, spec.CountsOfRecords and spec.l05Same.
  A statement of spec.Fixpoint: its operations, and a theorem a step.
-/
import Derived.Test.YtbbagpnjjjohpaaJ14
import Derived.OpenShut
import Derived.Test.YtbbagpnjjjohpaaJ17

namespace Go.Proofs.Ytbbagpnjjjohpaa.hexes
open Go.RowKit

theorem specOkR_is {x y : Int} {b : Bool} (h : okSt x y = b) (W : World) : Calls Try.prog 64 #[.agg #[.int .i64 x, .int .i64 y]] W fun e w' => e = .returned (.bool b) ∧ Below W.heap.size W w' := by
  subst h; exact specOk_any _ _ W

theorem specInI_is {n a b : Int} {r : Bool} (h : decide (a ≤ n ∧ n ≤ b) = r) (W : World) : Calls Try.prog 57 #[.int .i64 n, .int .i64 a, .int .i64 b] W fun e w' => e = .returned (.bool r) ∧ W = w' := by
  subst h
  refine (specIn_any n a b W).mono ?_
  rintro e w' ⟨rfl, rfl⟩
  exact ⟨rfl, rfl⟩

set_option maxRecDepth 100000 in
theorem specRcOk_any (p0 p1 p2 p3 p4 : Int) (w : World) :
    Calls Try.prog 30 #[.agg #[.int .i64 p0, .int .i64 p1, .int .i64 p2, .int .i64 p3, .int .i64 p4]] w fun e w' => e = .returned (.bool (okRc (p0, (p1, p2), p3, p4))) ∧ Below w.heap.size w w' := by
  have hb := (Below.refl w.heap.size w).alloc (Nat.le_refl _) (.cells #[.int .i64 p0, .int .i64 p1, .int .i64 p2, .int .i64 p3, .int .i64 p4] 51)
  have HB := Lib.hid hb
  clear hb
  cases h0 : decide (0 ≤ p0 ∧ p0 ≤ 7) with
  | false =>
    have HF := Lib.hid (show okRc (p0, (p1, p2), p3, p4) = false by unfold okRc; rw [h0]; rfl)
    have E0 := Lib.hid (fun W => specInI_is h0 W)
    clear h0
    go_enter Try.func30, Try.ntmps30
    go_wp2_with fail
    refine (E0.out _).mono ?_
    rintro e w1 ⟨rfl, rfl⟩
    go_wp2
    go_ret
    exact ⟨congrArg (fun b => Ending.returned (Value.bool b)) HF.out.symm, HB.out⟩
  | true =>
    have E0 := Lib.hid (fun W => specInI_is h0 W)
    have H0 := Lib.hid h0
    clear h0
    go_enter Try.func30, Try.ntmps30
    go_wp2_with fail
    refine (E0.out _).mono ?_
    rintro e w1 ⟨rfl, rfl⟩
    obtain ⟨W, hW⟩ : ∃ W, w.alloc (.cells #[.int .i64 p0, .int .i64 p1, .int .i64 p2, .int .i64 p3, .int .i64 p4] 51) = W := ⟨_, rfl⟩
    have b1 : W.cell? ⟨w.heap.size, 1, none⟩ = some (.int .i64 p1) := by rw [← hW]; simp
    have b2 : W.cell? ⟨w.heap.size, 2, none⟩ = some (.int .i64 p2) := by rw [← hW]; simp
    have b3 : W.cell? ⟨w.heap.size, 3, none⟩ = some (.int .i64 p3) := by rw [← hW]; simp
    have b4 : W.cell? ⟨w.heap.size, 4, none⟩ = some (.int .i64 p4) := by rw [← hW]; simp
    rw [hW] at HB ⊢
    clear hW E0
    cases h1 : okSt p1 p2 with
    | false =>
      have HF := Lib.hid (show okRc (p0, (p1, p2), p3, p4) = false by unfold okRc; rw [H0.out, h1]; rfl)
      have E1 := Lib.hid (fun W => specOkR_is h1 W)
      clear h1
      go_wp2_with fail
      refine (E1.out _).mono ?_
      rintro e w2 ⟨rfl, hbd⟩
      have B2 := Lib.hid (below_chain HB.out hbd)
      clear hbd
      go_wp2
      go_ret
      exact ⟨congrArg (fun b => Ending.returned (Value.bool b)) HF.out.symm, B2.out⟩
    | true =>
      have E1 := Lib.hid (fun W => specOkR_is h1 W)
      have H1 := Lib.hid h1
      clear h1
      go_wp2_with fail
      refine (E1.out _).mono ?_
      rintro e w2 ⟨rfl, hbd⟩
      have B2 := Lib.hid (below_chain HB.out hbd)
      have d3 := below_keep hbd b3
      have d4 := below_keep hbd b4
      clear hbd b1 b2 b3 b4 E1
      cases h2 : decide (0 ≤ p3 ∧ p3 ≤ 99) with
      | false =>
        have HF := Lib.hid (show okRc (p0, (p1, p2), p3, p4) = false by unfold okRc; rw [H0.out, H1.out, h2]; rfl)
        have E2 := Lib.hid (fun W => specInI_is h2 W)
        clear h2
        go_wp2_with fail
        refine (E2.out _).mono ?_
        rintro e w3 ⟨rfl, rfl⟩
        go_wp2
        go_ret
        exact ⟨congrArg (fun b => Ending.returned (Value.bool b)) HF.out.symm, B2.out⟩
      | true =>
        have E2 := Lib.hid (fun W => specInI_is h2 W)
        obtain ⟨r, hr⟩ : ∃ r, decide (0 ≤ p4 ∧ p4 ≤ 999) = r := ⟨_, rfl⟩
        have HF := Lib.hid (show okRc (p0, (p1, p2), p3, p4) = r by unfold okRc; rw [H0.out, H1.out, h2, hr]; simp)
        have E3 := Lib.hid (fun W => specInI_is hr W)
        clear hr
        clear h2
        go_wp2_with fail
        refine (E2.out _).mono ?_
        rintro e w3 ⟨rfl, rfl⟩
        go_wp2_with fail
        refine (E3.out _).mono ?_
        rintro e w4 ⟨rfl, rfl⟩
        go_wp2
        go_ret
        exact ⟨congrArg (fun b => Ending.returned (Value.bool b)) HF.out.symm, B2.out⟩

end Go.Proofs.Ytbbagpnjjjohpaa.hexes

namespace Go.Proofs.Ytbbagpnjjjohpaa.hexes
open Go.RowKit

def findX10 (n : Nat) : Code → Option Code
  | .region id ops d => if id = n then some (.region id ops d) else none
  | .seq a b => match findX10 n a with
    | some c => some c
    | none => findX10 n b
  | .block _ c => findX10 n c
  | .scope c => findX10 n c
  | .loop c => findX10 n c
  | .cond _ a b => match findX10 n a with
    | some c => some c
    | none => findX10 n b
  | _ => none
def opsOfX10 : Option Code → Array Oper
  | some (.region _ ops _) => ops
  | _ => #[]
noncomputable def opsX10 : Array Oper := opsOfX10 (Try.f15.body.bind (findX10 10))
def schX10 : List Nat := [0, 1, 2, 3, 4, 5, 6, 7, 8, 9, 10]
def LX10 (k : Nat) : Array Bool := ((List.range 11).map fun i => (schX10.take k).contains i).toArray
theorem noselX10 : Region.noSelect opsX10 = true := by kernel_rfl
def qX10_0 : Oper := { dst := some 47, op := Op.load 26 (Operand.tmp 3), type := 26, pos := "l11_fixed.go:33", after := #[], guard := none }
theorem hX10_0 : opsX10[0]? = some qX10_0 := by kernel_rfl
theorem lX10_0 : (LX10 0).setIfInBounds 0 true = LX10 1 := by kernel_rfl
theorem tX10_0 : RegT Try.prog opsX10 qX10_0 (some 47) 10 (LX10 0) (LX10 1) := regT hX10_0 rfl noselX10 (by kernel_rfl) (by kernel_rfl) lX10_0
def qX10_1 : Oper := { dst := some 48, op := Op.move (Operand.tmp 7), type := 30, pos := "l11_fixed.go:33", after := #[], guard := none }
theorem hX10_1 : opsX10[1]? = some qX10_1 := by kernel_rfl
theorem lX10_1 : (LX10 1).setIfInBounds 1 true = LX10 2 := by kernel_rfl
theorem tX10_1 : RegT Try.prog opsX10 qX10_1 (some 48) 9 (LX10 1) (LX10 2) := regT hX10_1 rfl noselX10 (by kernel_rfl) (by kernel_rfl) lX10_1
def qX10_2 : Oper := { dst := some 49, op := Op.move (Operand.tmp 8), type := 30, pos := "l11_fixed.go:33", after := #[], guard := none }
theorem hX10_2 : opsX10[2]? = some qX10_2 := by kernel_rfl
theorem lX10_2 : (LX10 2).setIfInBounds 2 true = LX10 3 := by kernel_rfl
theorem tX10_2 : RegT Try.prog opsX10 qX10_2 (some 49) 8 (LX10 2) (LX10 3) := regT hX10_2 rfl noselX10 (by kernel_rfl) (by kernel_rfl) lX10_2
def qX10_3 : Oper := { dst := some 50, op := Op.indexAddr 30 (Operand.tmp 49) (Operand.const (Value.int IntKind.i64 0)), type := 0, pos := "l11_fixed.go:33", after := #[{ on := 2, ground := Ground.data }], guard := none }
theorem hX10_3 : opsX10[3]? = some qX10_3 := by kernel_rfl
theorem lX10_3 : (LX10 3).setIfInBounds 3 true = LX10 4 := by kernel_rfl
theorem tX10_3 : RegT Try.prog opsX10 qX10_3 (some 50) 7 (LX10 3) (LX10 4) := regT hX10_3 rfl noselX10 (by kernel_rfl) (by kernel_rfl) lX10_3
def qX10_4 : Oper := { dst := some 51, op := Op.load 38 (Operand.tmp 50), type := 38, pos := "l11_fixed.go:33", after := #[{ on := 3, ground := Ground.data }], guard := none }
theorem hX10_4 : opsX10[4]? = some qX10_4 := by kernel_rfl
theorem lX10_4 : (LX10 4).setIfInBounds 4 true = LX10 5 := by kernel_rfl
theorem tX10_4 : RegT Try.prog opsX10 qX10_4 (some 51) 6 (LX10 4) (LX10 5) := regT hX10_4 rfl noselX10 (by kernel_rfl) (by kernel_rfl) lX10_4
def qX10_5 : Oper := { dst := some 52, op := Op.call { callee := Callee.value (Operand.func 22), args := #[Operand.tmp 47, Operand.tmp 48, Operand.tmp 51], argTypes := #[26, 30, 38] }, type := 35, pos := "l11_fixed.go:33", after := #[{ on := 0, ground := Ground.data }, { on := 1, ground := Ground.data }, { on := 4, ground := Ground.data }], guard := none }
theorem hX10_5 : opsX10[5]? = some qX10_5 := by kernel_rfl
theorem lX10_5 : (LX10 5).setIfInBounds 5 true = LX10 6 := by kernel_rfl
theorem cX10_5 : RegC Try.prog opsX10 qX10_5 (some 52) 5 (LX10 5) (LX10 6) := regC hX10_5 rfl (by kernel_rfl) lX10_5
def qX10_6 : Oper := { dst := some 46, op := Op.move (Operand.tmp 52), type := 35, pos := "l11_fixed.go:33", after := #[{ on := 5, ground := Ground.data }], guard := none }
theorem hX10_6 : opsX10[6]? = some qX10_6 := by kernel_rfl
theorem lX10_6 : (LX10 6).setIfInBounds 6 true = LX10 7 := by kernel_rfl
theorem tX10_6 : RegT Try.prog opsX10 qX10_6 (some 46) 4 (LX10 6) (LX10 7) := regT hX10_6 rfl noselX10 (by kernel_rfl) (by kernel_rfl) lX10_6
def qX10_7 : Oper := { dst := some 53, op := Op.extract (Operand.tmp 46) 0, type := 30, pos := "l11_fixed.go:33", after := #[{ on := 6, ground := Ground.data }], guard := none }
theorem hX10_7 : opsX10[7]? = some qX10_7 := by kernel_rfl
theorem lX10_7 : (LX10 7).setIfInBounds 7 true = LX10 8 := by kernel_rfl
theorem tX10_7 : RegT Try.prog opsX10 qX10_7 (some 53) 3 (LX10 7) (LX10 8) := regT hX10_7 rfl noselX10 (by kernel_rfl) (by kernel_rfl) lX10_7
def qX10_8 : Oper := { dst := some 54, op := Op.extract (Operand.tmp 46) 1, type := 30, pos := "l11_fixed.go:33", after := #[{ on := 6, ground := Ground.data }, { on := 9, ground := Ground.gcOnly Departure.lateStores }], guard := none }
theorem hX10_8 : opsX10[8]? = some qX10_8 := by kernel_rfl
theorem lX10_8 : (LX10 8).setIfInBounds 8 true = LX10 9 := by kernel_rfl
theorem tX10_8 : RegT Try.prog opsX10 qX10_8 (some 54) 2 (LX10 8) (LX10 9) := regT hX10_8 rfl noselX10 (by kernel_rfl) (by kernel_rfl) lX10_8
def qX10_9 : Oper := { dst := some 11, op := Op.assign (Operand.tmp 53), type := 30, pos := "l11_fixed.go:33", after := #[{ on := 7, ground := Ground.data }, { on := 5, ground := Ground.chain }, { on := 0, ground := Ground.phase }, { on := 1, ground := Ground.phase }, { on := 2, ground := Ground.phase }, { on := 3, ground := Ground.phase }, { on := 4, ground := Ground.phase }, { on := 5, ground := Ground.phase }, { on := 6, ground := Ground.phase }, { on := 7, ground := Ground.phase }, { on := 8, ground := Ground.textOnly Departure.lateStores }], guard := none }
theorem hX10_9 : opsX10[9]? = some qX10_9 := by kernel_rfl
theorem lX10_9 : (LX10 9).setIfInBounds 9 true = LX10 10 := by kernel_rfl
theorem tX10_9 : RegT Try.prog opsX10 qX10_9 (some 11) 1 (LX10 9) (LX10 10) := regT hX10_9 rfl noselX10 (by kernel_rfl) (by kernel_rfl) lX10_9
def qX10_10 : Oper := { dst := some 12, op := Op.assign (Operand.tmp 54), type := 30, pos := "l11_fixed.go:33", after := #[{ on := 8, ground := Ground.data }, { on := 9, ground := Ground.chain }, { on := 0, ground := Ground.phase }, { on := 1, ground := Ground.phase }, { on := 2, ground := Ground.phase }, { on := 3, ground := Ground.phase }, { on := 4, ground := Ground.phase }, { on := 5, ground := Ground.phase }, { on := 6, ground := Ground.phase }, { on := 7, ground := Ground.phase }, { on := 8, ground := Ground.phase }, { on := 9, ground := Ground.phase }], guard := none }
theorem hX10_10 : opsX10[10]? = some qX10_10 := by kernel_rfl
theorem lX10_10 : (LX10 10).setIfInBounds 10 true = LX10 11 := by kernel_rfl
theorem tX10_10 : RegT Try.prog opsX10 qX10_10 (some 12) 0 (LX10 10) (LX10 11) := regT hX10_10 rfl noselX10 (by kernel_rfl) (by kernel_rfl) lX10_10
end Go.Proofs.Ytbbagpnjjjohpaa.hexes

