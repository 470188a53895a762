/-
  A statement of impl.CellOrder: its operations, and a theorem a step.
  The program's CellOrder: the contracts of cmp.Compare, cmp.Or and impl.CellOrder.
-/
import Derived.Test.YtbbagpnjjjohpaaJ12
import Derived.Test.YtbbagpnjjjohpaaJ13
import Derived.Lib.SliceRun

namespace Go.Proofs.Ytbbagpnjjjohpaa.hexes
open Go.RowKit

def findE2 (n : Nat) : Code → Option Code
  | .region id ops d => if id = n then some (.region id ops d) else none
  | .seq a b => match findE2 n a with
    | some c => some c
    | none => findE2 n b
  | .block _ c => findE2 n c
  | .scope c => findE2 n c
  | .loop c => findE2 n c
  | .cond _ a b => match findE2 n a with
    | some c => some c
    | none => findE2 n b
  | _ => none
def opsOfE2 : Option Code → Array Oper
  | some (.region _ ops _) => ops
  | _ => #[]
noncomputable def opsE2 : Array Oper := opsOfE2 (Try.f122.body.bind (findE2 1))
def schE2 : List Nat := [0, 1, 2, 3, 5, 6, 7, 8, 10, 11, 12, 13, 15, 16, 17, 18, 4, 9, 14, 19, 20, 21, 22]
def LE2 (k : Nat) : Array Bool := ((List.range 23).map fun i => (schE2.take k).contains i).toArray
theorem noselE2 : Region.noSelect opsE2 = true := by kernel_rfl
def qE2_0 : Oper := { dst := some 5, op := Op.fieldAddr 38 (Operand.tmp 2) 1, type := 0, pos := "l09_memory.go:56", after := #[], guard := none }
theorem hE2_0 : opsE2[0]? = some qE2_0 := by kernel_rfl
theorem lE2_0 : (LE2 0).setIfInBounds 0 true = LE2 1 := by kernel_rfl
theorem tE2_0 : RegT Try.prog opsE2 qE2_0 (some 5) 22 (LE2 0) (LE2 1) := regT hE2_0 rfl noselE2 (by kernel_rfl) (by kernel_rfl) lE2_0
def qE2_1 : Oper := { dst := some 6, op := Op.load 3 (Operand.tmp 5), type := 3, pos := "l09_memory.go:56", after := #[{ on := 0, ground := Ground.data }], guard := none }
theorem hE2_1 : opsE2[1]? = some qE2_1 := by kernel_rfl
theorem lE2_1 : (LE2 1).setIfInBounds 1 true = LE2 2 := by kernel_rfl
theorem tE2_1 : RegT Try.prog opsE2 qE2_1 (some 6) 21 (LE2 1) (LE2 2) := regT hE2_1 rfl noselE2 (by kernel_rfl) (by kernel_rfl) lE2_1
def qE2_2 : Oper := { dst := some 7, op := Op.fieldAddr 38 (Operand.tmp 3) 1, type := 0, pos := "l09_memory.go:56", after := #[], guard := none }
theorem hE2_2 : opsE2[2]? = some qE2_2 := by kernel_rfl
theorem lE2_2 : (LE2 2).setIfInBounds 2 true = LE2 3 := by kernel_rfl
theorem tE2_2 : RegT Try.prog opsE2 qE2_2 (some 7) 20 (LE2 2) (LE2 3) := regT hE2_2 rfl noselE2 (by kernel_rfl) (by kernel_rfl) lE2_2
def qE2_3 : Oper := { dst := some 8, op := Op.load 3 (Operand.tmp 7), type := 3, pos := "l09_memory.go:56", after := #[{ on := 2, ground := Ground.data }], guard := none }
theorem hE2_3 : opsE2[3]? = some qE2_3 := by kernel_rfl
theorem lE2_3 : (LE2 3).setIfInBounds 3 true = LE2 4 := by kernel_rfl
theorem tE2_3 : RegT Try.prog opsE2 qE2_3 (some 8) 19 (LE2 3) (LE2 4) := regT hE2_3 rfl noselE2 (by kernel_rfl) (by kernel_rfl) lE2_3
def qE2_5 : Oper := { dst := some 10, op := Op.fieldAddr 38 (Operand.tmp 2) 0, type := 0, pos := "l09_memory.go:56", after := #[], guard := none }
theorem hE2_5 : opsE2[5]? = some qE2_5 := by kernel_rfl
theorem lE2_4 : (LE2 4).setIfInBounds 5 true = LE2 5 := by kernel_rfl
theorem tE2_4 : RegT Try.prog opsE2 qE2_5 (some 10) 18 (LE2 4) (LE2 5) := regT hE2_5 rfl noselE2 (by kernel_rfl) (by kernel_rfl) lE2_4
def qE2_6 : Oper := { dst := some 11, op := Op.load 3 (Operand.tmp 10), type := 3, pos := "l09_memory.go:56", after := #[{ on := 5, ground := Ground.data }], guard := none }
theorem hE2_6 : opsE2[6]? = some qE2_6 := by kernel_rfl
theorem lE2_5 : (LE2 5).setIfInBounds 6 true = LE2 6 := by kernel_rfl
theorem tE2_5 : RegT Try.prog opsE2 qE2_6 (some 11) 17 (LE2 5) (LE2 6) := regT hE2_6 rfl noselE2 (by kernel_rfl) (by kernel_rfl) lE2_5
def qE2_7 : Oper := { dst := some 12, op := Op.fieldAddr 38 (Operand.tmp 3) 0, type := 0, pos := "l09_memory.go:56", after := #[], guard := none }
theorem hE2_7 : opsE2[7]? = some qE2_7 := by kernel_rfl
theorem lE2_6 : (LE2 6).setIfInBounds 7 true = LE2 7 := by kernel_rfl
theorem tE2_6 : RegT Try.prog opsE2 qE2_7 (some 12) 16 (LE2 6) (LE2 7) := regT hE2_7 rfl noselE2 (by kernel_rfl) (by kernel_rfl) lE2_6
def qE2_8 : Oper := { dst := some 13, op := Op.load 3 (Operand.tmp 12), type := 3, pos := "l09_memory.go:56", after := #[{ on := 7, ground := Ground.data }], guard := none }
theorem hE2_8 : opsE2[8]? = some qE2_8 := by kernel_rfl
theorem lE2_7 : (LE2 7).setIfInBounds 8 true = LE2 8 := by kernel_rfl
theorem tE2_7 : RegT Try.prog opsE2 qE2_8 (some 13) 15 (LE2 7) (LE2 8) := regT hE2_8 rfl noselE2 (by kernel_rfl) (by kernel_rfl) lE2_7
def qE2_10 : Oper := { dst := some 15, op := Op.fieldAddr 38 (Operand.tmp 2) 2, type := 0, pos := "l09_memory.go:56", after := #[], guard := none }
theorem hE2_10 : opsE2[10]? = some qE2_10 := by kernel_rfl
theorem lE2_8 : (LE2 8).setIfInBounds 10 true = LE2 9 := by kernel_rfl
theorem tE2_8 : RegT Try.prog opsE2 qE2_10 (some 15) 14 (LE2 8) (LE2 9) := regT hE2_10 rfl noselE2 (by kernel_rfl) (by kernel_rfl) lE2_8
def qE2_11 : Oper := { dst := some 16, op := Op.load 3 (Operand.tmp 15), type := 3, pos := "l09_memory.go:56", after := #[{ on := 10, ground := Ground.data }], guard := none }
theorem hE2_11 : opsE2[11]? = some qE2_11 := by kernel_rfl
theorem lE2_9 : (LE2 9).setIfInBounds 11 true = LE2 10 := by kernel_rfl
theorem tE2_9 : RegT Try.prog opsE2 qE2_11 (some 16) 13 (LE2 9) (LE2 10) := regT hE2_11 rfl noselE2 (by kernel_rfl) (by kernel_rfl) lE2_9
def qE2_12 : Oper := { dst := some 17, op := Op.fieldAddr 38 (Operand.tmp 3) 2, type := 0, pos := "l09_memory.go:56", after := #[], guard := none }
theorem hE2_12 : opsE2[12]? = some qE2_12 := by kernel_rfl
theorem lE2_10 : (LE2 10).setIfInBounds 12 true = LE2 11 := by kernel_rfl
theorem tE2_10 : RegT Try.prog opsE2 qE2_12 (some 17) 12 (LE2 10) (LE2 11) := regT hE2_12 rfl noselE2 (by kernel_rfl) (by kernel_rfl) lE2_10
def qE2_13 : Oper := { dst := some 18, op := Op.load 3 (Operand.tmp 17), type := 3, pos := "l09_memory.go:56", after := #[{ on := 12, ground := Ground.data }], guard := none }
theorem hE2_13 : opsE2[13]? = some qE2_13 := by kernel_rfl
theorem lE2_11 : (LE2 11).setIfInBounds 13 true = LE2 12 := by kernel_rfl
theorem tE2_11 : RegT Try.prog opsE2 qE2_13 (some 18) 11 (LE2 11) (LE2 12) := regT hE2_13 rfl noselE2 (by kernel_rfl) (by kernel_rfl) lE2_11
def qE2_15 : Oper := { dst := some 20, op := Op.fieldAddr 38 (Operand.tmp 2) 3, type := 0, pos := "l09_memory.go:56", after := #[], guard := none }
theorem hE2_15 : opsE2[15]? = some qE2_15 := by kernel_rfl
theorem lE2_12 : (LE2 12).setIfInBounds 15 true = LE2 13 := by kernel_rfl
theorem tE2_12 : RegT Try.prog opsE2 qE2_15 (some 20) 10 (LE2 12) (LE2 13) := regT hE2_15 rfl noselE2 (by kernel_rfl) (by kernel_rfl) lE2_12
def qE2_16 : Oper := { dst := some 21, op := Op.load 3 (Operand.tmp 20), type := 3, pos := "l09_memory.go:56", after := #[{ on := 15, ground := Ground.data }], guard := none }
theorem hE2_16 : opsE2[16]? = some qE2_16 := by kernel_rfl
theorem lE2_13 : (LE2 13).setIfInBounds 16 true = LE2 14 := by kernel_rfl
theorem tE2_13 : RegT Try.prog opsE2 qE2_16 (some 21) 9 (LE2 13) (LE2 14) := regT hE2_16 rfl noselE2 (by kernel_rfl) (by kernel_rfl) lE2_13
def qE2_17 : Oper := { dst := some 22, op := Op.fieldAddr 38 (Operand.tmp 3) 3, type := 0, pos := "l09_memory.go:56", after := #[], guard := none }
theorem hE2_17 : opsE2[17]? = some qE2_17 := by kernel_rfl
theorem lE2_14 : (LE2 14).setIfInBounds 17 true = LE2 15 := by kernel_rfl
theorem tE2_14 : RegT Try.prog opsE2 qE2_17 (some 22) 8 (LE2 14) (LE2 15) := regT hE2_17 rfl noselE2 (by kernel_rfl) (by kernel_rfl) lE2_14
def qE2_18 : Oper := { dst := some 23, op := Op.load 3 (Operand.tmp 22), type := 3, pos := "l09_memory.go:56", after := #[{ on := 17, ground := Ground.data }], guard := none }
theorem hE2_18 : opsE2[18]? = some qE2_18 := by kernel_rfl
theorem lE2_15 : (LE2 15).setIfInBounds 18 true = LE2 16 := by kernel_rfl
theorem tE2_15 : RegT Try.prog opsE2 qE2_18 (some 23) 7 (LE2 15) (LE2 16) := regT hE2_18 rfl noselE2 (by kernel_rfl) (by kernel_rfl) lE2_15
def qE2_4 : Oper := { dst := some 9, op := Op.call { callee := Callee.value (Operand.func 128), args := #[Operand.tmp 6, Operand.tmp 8], argTypes := #[3, 3] }, type := 3, pos := "l09_memory.go:57", after := #[{ on := 1, ground := Ground.data }, { on := 3, ground := Ground.data }], guard := none }
theorem hE2_4 : opsE2[4]? = some qE2_4 := by kernel_rfl
theorem lE2_16 : (LE2 16).setIfInBounds 4 true = LE2 17 := by kernel_rfl
theorem cE2_16 : RegC Try.prog opsE2 qE2_4 (some 9) 6 (LE2 16) (LE2 17) := regC hE2_4 rfl (by kernel_rfl) lE2_16
def qE2_9 : Oper := { dst := some 14, op := Op.call { callee := Callee.value (Operand.func 128), args := #[Operand.tmp 11, Operand.tmp 13], argTypes := #[3, 3] }, type := 3, pos := "l09_memory.go:58", after := #[{ on := 6, ground := Ground.data }, { on := 8, ground := Ground.data }, { on := 4, ground := Ground.chain }], guard := none }
theorem hE2_9 : opsE2[9]? = some qE2_9 := by kernel_rfl
theorem lE2_17 : (LE2 17).setIfInBounds 9 true = LE2 18 := by kernel_rfl
theorem cE2_17 : RegC Try.prog opsE2 qE2_9 (some 14) 5 (LE2 17) (LE2 18) := regC hE2_9 rfl (by kernel_rfl) lE2_17
def qE2_14 : Oper := { dst := some 19, op := Op.call { callee := Callee.value (Operand.func 128), args := #[Operand.tmp 16, Operand.tmp 18], argTypes := #[3, 3] }, type := 3, pos := "l09_memory.go:59", after := #[{ on := 11, ground := Ground.data }, { on := 13, ground := Ground.data }, { on := 9, ground := Ground.chain }], guard := none }
theorem hE2_14 : opsE2[14]? = some qE2_14 := by kernel_rfl
theorem lE2_18 : (LE2 18).setIfInBounds 14 true = LE2 19 := by kernel_rfl
theorem cE2_18 : RegC Try.prog opsE2 qE2_14 (some 19) 4 (LE2 18) (LE2 19) := regC hE2_14 rfl (by kernel_rfl) lE2_18
def qE2_19 : Oper := { dst := some 24, op := Op.call { callee := Callee.value (Operand.func 128), args := #[Operand.tmp 21, Operand.tmp 23], argTypes := #[3, 3] }, type := 3, pos := "l09_memory.go:60", after := #[{ on := 16, ground := Ground.data }, { on := 18, ground := Ground.data }, { on := 14, ground := Ground.chain }], guard := none }
theorem hE2_19 : opsE2[19]? = some qE2_19 := by kernel_rfl
theorem lE2_19 : (LE2 19).setIfInBounds 19 true = LE2 20 := by kernel_rfl
theorem cE2_19 : RegC Try.prog opsE2 qE2_19 (some 24) 3 (LE2 19) (LE2 20) := regC hE2_19 rfl (by kernel_rfl) lE2_19
def qE2_20 : Oper := { dst := some 25, op := Op.buildSlice 44 4 #[(0, Operand.tmp 9), (1, Operand.tmp 14), (2, Operand.tmp 19), (3, Operand.tmp 24)], type := 44, pos := "l09_memory.go:56", after := #[{ on := 4, ground := Ground.data }, { on := 9, ground := Ground.data }, { on := 14, ground := Ground.data }, { on := 19, ground := Ground.data }], guard := none }
theorem hE2_20 : opsE2[20]? = some qE2_20 := by kernel_rfl
theorem lE2_20 : (LE2 20).setIfInBounds 20 true = LE2 21 := by kernel_rfl
theorem cE2_20 : RegC Try.prog opsE2 qE2_20 (some 25) 2 (LE2 20) (LE2 21) := regC hE2_20 rfl (by kernel_rfl) lE2_20
def qE2_21 : Oper := { dst := some 26, op := Op.call { callee := Callee.value (Operand.func 127), args := #[Operand.tmp 25], argTypes := #[44] }, type := 3, pos := "l09_memory.go:56", after := #[{ on := 20, ground := Ground.data }, { on := 19, ground := Ground.chain }], guard := none }
theorem hE2_21 : opsE2[21]? = some qE2_21 := by kernel_rfl
theorem lE2_21 : (LE2 21).setIfInBounds 21 true = LE2 22 := by kernel_rfl
theorem cE2_21 : RegC Try.prog opsE2 qE2_21 (some 26) 1 (LE2 21) (LE2 22) := regC hE2_21 rfl (by kernel_rfl) lE2_21
def qE2_22 : Oper := { dst := some 4, op := Op.assign (Operand.tmp 26), type := 3, pos := "l09_memory.go:56", after := #[{ on := 21, ground := Ground.data }, { on := 21, ground := Ground.chain }, { on := 0, ground := Ground.phase }, { on := 1, ground := Ground.phase }, { on := 2, ground := Ground.phase }, { on := 3, ground := Ground.phase }, { on := 4, ground := Ground.phase }, { on := 5, ground := Ground.phase }, { on := 6, ground := Ground.phase }, { on := 7, ground := Ground.phase }, { on := 8, ground := Ground.phase }, { on := 9, ground := Ground.phase }, { on := 10, ground := Ground.phase }, { on := 11, ground := Ground.phase }, { on := 12, ground := Ground.phase }, { on := 13, ground := Ground.phase }, { on := 14, ground := Ground.phase }, { on := 15, ground := Ground.phase }, { on := 16, ground := Ground.phase }, { on := 17, ground := Ground.phase }, { on := 18, ground := Ground.phase }, { on := 19, ground := Ground.phase }, { on := 20, ground := Ground.phase }, { on := 21, ground := Ground.phase }], guard := none }
theorem hE2_22 : opsE2[22]? = some qE2_22 := by kernel_rfl
theorem lE2_22 : (LE2 22).setIfInBounds 22 true = LE2 23 := by kernel_rfl
theorem tE2_22 : RegT Try.prog opsE2 qE2_22 (some 4) 0 (LE2 22) (LE2 23) := regT hE2_22 rfl noselE2 (by kernel_rfl) (by kernel_rfl) lE2_22
end Go.Proofs.Ytbbagpnjjjohpaa.hexes

namespace Go.Proofs.Ytbbagpnjjjohpaa.hexes
open Go.RowKit

theorem isNaNInt_at (x : Int) (W : World) : Calls Try.prog 133 #[.int .i64 x] W fun e w' => e = .returned (.bool false) ∧ W = w' := by
  have hx : (x != x) = false := by simp
  go_enter Try.func133, Try.ntmps133
  go_wp2
  go_ret
  exact ⟨rfl, rfl⟩

theorem cmpInt_at (x y : Int) (W : World) : Calls Try.prog 128 #[.int .i64 x, .int .i64 y] W fun e w' => e = .returned (.int .i64 (ordI x y)) ∧ W = w' := by
  have HN := Lib.hid (fun z W => isNaNInt_at z W)
  rcases ordE_cases x y with ⟨h, e⟩ | ⟨h, e⟩ | ⟨h, e⟩
  all_goals
    rw [e]
    clear e
    go_enter Try.func128, Try.ntmps128
    go_wp2_with (go_at_call 133; refine (HN.out _ _).mono ?_; rintro e w1 ⟨rfl, rfl⟩)
    all_goals (go_ret; first | exact ⟨rfl, rfl⟩ | (exfalso; simp_all; omega))

set_option maxRecDepth 100000 in
theorem cmpOr4_at (s a b c r : Int) (hr : r = if s ≠ 0 then s else if a ≠ 0 then a else if b ≠ 0 then b else c) (g : Nat) (w : World) (e0 : w.cell? ⟨g, 0, none⟩ = some (.int .i64 s)) (e1 : w.cell? ⟨g, 1, none⟩ = some (.int .i64 a)) (e2 : w.cell? ⟨g, 2, none⟩ = some (.int .i64 b)) (e3 : w.cell? ⟨g, 3, none⟩ = some (.int .i64 c)) :
    Calls Try.prog 127 #[.slice (some ⟨g, 0, none⟩) 4 4] w fun e w' => e = .returned (.int .i64 r) ∧ w = w' := by
  have HR := Lib.hid hr
  clear hr
  go_enter Try.func127, Try.ntmps127
  go_wp2
  refine wp_loop_rounds 5 ?_
  rw [rounds_succ]
  by_cases h0 : s = 0
  rotate_left
  · go_wp2
    go_ret
    exact ⟨by rw [HR.out]; simp [h0], rfl⟩
  subst h0
  go_wp2
  rw [rounds_succ]
  by_cases h1 : a = 0
  rotate_left
  · go_wp2
    go_ret
    exact ⟨by rw [HR.out]; simp [h1], rfl⟩
  subst h1
  go_wp2
  rw [rounds_succ]
  by_cases h2 : b = 0
  rotate_left
  · go_wp2
    go_ret
    exact ⟨by rw [HR.out]; simp [h2], rfl⟩
  subst h2
  go_wp2
  rw [rounds_succ]
  by_cases h3 : c = 0
  rotate_left
  · go_wp2
    go_ret
    exact ⟨by rw [HR.out]; simp, rfl⟩
  subst h3
  go_wp2
  rw [rounds_succ]
  go_wp2
  go_ret
  exact ⟨by rw [HR.out]; simp, rfl⟩

theorem cmpInt_is {a b v : Int} (h : ordI a b = v) (W : World) : Calls Try.prog 128 #[.int .i64 a, .int .i64 b] W fun e w' => e = .returned (.int .i64 v) ∧ W = w' := by
  subst h; exact cmpInt_at a b W

set_option maxRecDepth 1000000 in
set_option maxHeartbeats 4000000 in
theorem implCeOrd_any (p0 p1 p2 p3 q0 q1 q2 q3 : Int) (w : World) :
    Calls Try.prog 122 #[.agg #[.int .i64 p0, .int .i64 p1, .int .i64 p2, .int .i64 p3], .agg #[.int .i64 q0, .int .i64 q1, .int .i64 q2, .int .i64 q3]] w fun e w' => e = .returned (.int .i64 (ordCe (p0, p1, p2, p3) (q0, q1, q2, q3))) ∧ Below w.heap.size w w' := by
  obtain ⟨r, hr⟩ : ∃ r, ordCe (p0, p1, p2, p3) (q0, q1, q2, q3) = r := ⟨_, rfl⟩
  obtain ⟨v0, h0⟩ : ∃ v, ordI p1 q1 = v := ⟨_, rfl⟩
  obtain ⟨v1, h1⟩ : ∃ v, ordI p0 q0 = v := ⟨_, rfl⟩
  obtain ⟨v2, h2⟩ : ∃ v, ordI p2 q2 = v := ⟨_, rfl⟩
  obtain ⟨v3, h3⟩ : ∃ v, ordI p3 q3 = v := ⟨_, rfl⟩
  have HR := Lib.hid (show r = if v0 ≠ 0 then v0 else if v1 ≠ 0 then v1 else if v2 ≠ 0 then v2 else v3 by rw [← hr, ← h0, ← h1, ← h2, ← h3]; rfl)
  have E0 := Lib.hid (fun W => cmpInt_is h0 W)
  have E1 := Lib.hid (fun W => cmpInt_is h1 W)
  have E2 := Lib.hid (fun W => cmpInt_is h2 W)
  have E3 := Lib.hid (fun W => cmpInt_is h3 W)
  rw [hr]
  clear hr h0 h1 h2 h3
  obtain ⟨W0, hW0⟩ : ∃ W0, (w.alloc (.cells #[.int .i64 p0, .int .i64 p1, .int .i64 p2, .int .i64 p3] 38)).alloc (.cells #[.int .i64 q0, .int .i64 q1, .int .i64 q2, .int .i64 q3] 38) = W0 := ⟨_, rfl⟩
  have B0 := Lib.hid (show Below w.heap.size w W0.drew by refine Below.drew ?_; rw [← hW0]; exact ((Below.refl _ _).alloc (by simp) _).alloc (by simp) _)
  obtain ⟨V, hV⟩ : ∃ z, W0.drew = z := ⟨_, rfl⟩
  have T0 := Lib.hid (show CeTwo V w.heap.size p0 p1 p2 p3 q0 q1 q2 q3 V by rw [← hV]; exact ⟨by rw [← hW0]; exact alloc_keep (by simp), by rw [← hW0]; exact alloc_keep (by simp), by rw [← hW0]; exact alloc_keep (by simp), by rw [← hW0]; exact alloc_keep (by simp), by rw [← hW0]; simp, by rw [← hW0]; simp, by rw [← hW0]; simp, by rw [← hW0]; simp, Below.refl _ _⟩)
  go_enter Try.func122, Try.ntmps122
  go_wp2_with fail
  clear hW0
  rw [hV] at B0
  refine wp_region_held_drew (S := CeTwo V w.heap.size p0 p1 p2 p3 q0 q1 q2 q3) (by kernel_rfl) ?_ (fun hHeld => ?_)
  · skip
    rw [hV]; exact T0.out
  change wpAnyH _ _ opsE2 _ _ 23 (LE2 0) _ _
  rw [hV] at hHeld ⊢
  clear hV
  refine regY tE2_0 (.pointer (some ⟨w.heap.size, 1, none⟩)) (fun W hSw => by unfold qE2_0; go_simp) hHeld ?_
  try simp only [pt, List.set]
  refine regY tE2_1 (.int .i64 p1) (fun W hSw => by unfold qE2_1; obtain ⟨c0, c1, c2, c3, d0, d1, d2, d3, bl⟩ := hSw; go_simp) hHeld ?_
  try simp only [pt, List.set]
  refine regY tE2_2 (.pointer (some ⟨w.heap.size + 1, 1, none⟩)) (fun W hSw => by unfold qE2_2; go_simp) hHeld ?_
  try simp only [pt, List.set]
  refine regY tE2_3 (.int .i64 q1) (fun W hSw => by unfold qE2_3; obtain ⟨c0, c1, c2, c3, d0, d1, d2, d3, bl⟩ := hSw; go_simp) hHeld ?_
  try simp only [pt, List.set]
  refine regY tE2_4 (.pointer (some ⟨w.heap.size, 0, none⟩)) (fun W hSw => by unfold qE2_5; go_simp) hHeld ?_
  try simp only [pt, List.set]
  refine regY tE2_5 (.int .i64 p0) (fun W hSw => by unfold qE2_6; obtain ⟨c0, c1, c2, c3, d0, d1, d2, d3, bl⟩ := hSw; go_simp) hHeld ?_
  try simp only [pt, List.set]
  refine regY tE2_6 (.pointer (some ⟨w.heap.size + 1, 0, none⟩)) (fun W hSw => by unfold qE2_7; go_simp) hHeld ?_
  try simp only [pt, List.set]
  refine regY tE2_7 (.int .i64 q0) (fun W hSw => by unfold qE2_8; obtain ⟨c0, c1, c2, c3, d0, d1, d2, d3, bl⟩ := hSw; go_simp) hHeld ?_
  try simp only [pt, List.set]
  refine regY tE2_8 (.pointer (some ⟨w.heap.size, 2, none⟩)) (fun W hSw => by unfold qE2_10; go_simp) hHeld ?_
  try simp only [pt, List.set]
  refine regY tE2_9 (.int .i64 p2) (fun W hSw => by unfold qE2_11; obtain ⟨c0, c1, c2, c3, d0, d1, d2, d3, bl⟩ := hSw; go_simp) hHeld ?_
  try simp only [pt, List.set]
  refine regY tE2_10 (.pointer (some ⟨w.heap.size + 1, 2, none⟩)) (fun W hSw => by unfold qE2_12; go_simp) hHeld ?_
  try simp only [pt, List.set]
  refine regY tE2_11 (.int .i64 q2) (fun W hSw => by unfold qE2_13; obtain ⟨c0, c1, c2, c3, d0, d1, d2, d3, bl⟩ := hSw; go_simp) hHeld ?_
  try simp only [pt, List.set]
  refine regY tE2_12 (.pointer (some ⟨w.heap.size, 3, none⟩)) (fun W hSw => by unfold qE2_15; go_simp) hHeld ?_
  try simp only [pt, List.set]
  refine regY tE2_13 (.int .i64 p3) (fun W hSw => by unfold qE2_16; obtain ⟨c0, c1, c2, c3, d0, d1, d2, d3, bl⟩ := hSw; go_simp) hHeld ?_
  try simp only [pt, List.set]
  refine regY tE2_14 (.pointer (some ⟨w.heap.size + 1, 3, none⟩)) (fun W hSw => by unfold qE2_17; go_simp) hHeld ?_
  try simp only [pt, List.set]
  refine regY tE2_15 (.int .i64 q3) (fun W hSw => by unfold qE2_18; obtain ⟨c0, c1, c2, c3, d0, d1, d2, d3, bl⟩ := hSw; go_simp) hHeld ?_
  try simp only [pt, List.set]
  refine cE2_16 (fun K hK => ?_)
  rw [if_pos (by rfl)]
  unfold qE2_4
  go_simp
  refine (E0.out _).mono ?_
  rintro e w5 ⟨rfl, rfl⟩
  refine Shut.out hK _ _ ?_ (fun hHeld => ?_)
  · exact hHeld
  clear hK K
  try simp only [pt, List.set]
  refine cE2_17 (fun K hK => ?_)
  rw [if_pos (by rfl)]
  unfold qE2_9
  go_simp
  refine (E1.out _).mono ?_
  rintro e w6 ⟨rfl, rfl⟩
  refine Shut.out hK _ _ ?_ (fun hHeld => ?_)
  · exact hHeld
  clear hK K
  try simp only [pt, List.set]
  refine cE2_18 (fun K hK => ?_)
  rw [if_pos (by rfl)]
  unfold qE2_14
  go_simp
  refine (E2.out _).mono ?_
  rintro e w7 ⟨rfl, rfl⟩
  refine Shut.out hK _ _ ?_ (fun hHeld => ?_)
  · exact hHeld
  clear hK K
  try simp only [pt, List.set]
  refine cE2_19 (fun K hK => ?_)
  rw [if_pos (by rfl)]
  unfold qE2_19
  go_simp
  refine (E3.out _).mono ?_
  rintro e w8 ⟨rfl, rfl⟩
  refine Shut.out hK _ _ ?_ (fun hHeld => ?_)
  · exact hHeld
  clear hK K
  try simp only [pt, List.set]
  refine cE2_20 (fun K hK => ?_)
  rw [if_pos (by rfl)]
  unfold qE2_20
  go_simp
  obtain ⟨bl, hbl⟩ : ∃ bl, V.heap.size = bl := ⟨_, rfl⟩
  rw [hbl]
  obtain ⟨w9, hw9⟩ : ∃ w9, V.alloc (.cells #[.int .i64 v0, .int .i64 v1, .int .i64 v2, .int .i64 v3] 3) = w9 := ⟨_, rfl⟩
  have L0 : w9.cell? ⟨bl, 0, none⟩ = some (.int .i64 v0) := by rw [← hw9, ← hbl]; simp
  have L1 : w9.cell? ⟨bl, 1, none⟩ = some (.int .i64 v1) := by rw [← hw9, ← hbl]; simp
  have L2 : w9.cell? ⟨bl, 2, none⟩ = some (.int .i64 v2) := by rw [← hw9, ← hbl]; simp
  have L3 : w9.cell? ⟨bl, 3, none⟩ = some (.int .i64 v3) := by rw [← hw9, ← hbl]; simp
  have hH9 := hHeld.below (((Below.refl _ V).alloc (Nat.le_refl _) (.cells #[.int .i64 v0, .int .i64 v1, .int .i64 v2, .int .i64 v3] 3)))
  rw [hw9] at hH9 ⊢
  clear hw9 hbl
  refine Shut.out hK _ _ ?_ (fun hHeld => ?_)
  · exact hH9
  clear hK K
  try simp only [pt, List.set]
  refine cE2_21 (fun K hK => ?_)
  rw [if_pos (by rfl)]
  unfold qE2_21
  go_simp
  refine (cmpOr4_at v0 v1 v2 v3 r HR.out bl w9 L0 L1 L2 L3).mono ?_
  rintro e w10 ⟨rfl, rfl⟩
  refine Shut.out hK _ _ ?_ (fun hHeld => ?_)
  · exact hHeld
  clear hK K
  try simp only [pt, List.set]
  refine regY tE2_22 (.int .i64 r) (fun W hSw => by unfold qE2_22; go_simp) hHeld ?_
  try simp only [pt, List.set]
  refine wpAnyH_done (by kernel_rfl) ?_ _
  have HB := Lib.hid (below_chain B0.out hHeld.bel)
  clear hHeld T0 B0 E0 E1 E2 E3
  go_wp2
  go_ret
  exact ⟨rfl, HB.out⟩
theorem implCeOrd_is {p0 p1 p2 p3 q0 q1 q2 q3 v : Int} (h : ordCe (p0, p1, p2, p3) (q0, q1, q2, q3) = v) (W : World) : Calls Try.prog 122 #[.agg #[.int .i64 p0, .int .i64 p1, .int .i64 p2, .int .i64 p3], .agg #[.int .i64 q0, .int .i64 q1, .int .i64 q2, .int .i64 q3]] W fun e w' => e = .returned (.int .i64 v) ∧ Below W.heap.size W w' := by
  subst h; exact implCeOrd_any _ _ _ _ _ _ _ _ W
end Go.Proofs.Ytbbagpnjjjohpaa.hexes

