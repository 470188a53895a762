/-
  What NoWorse is drawn: the contract of spec.DrawNoWorse.
  A statement of spec.DrawImprove: its operations, and a theorem a step.
  A statement of spec.DrawImprove: its operations, and a theorem a step.
-/
import Derived.Test.YtbbagpnjjjohpaaK46
import Derived.Test.YtbbagpnjjjohpaaK16
import Derived.Test.YtbbagpnjjjohpaaK10

namespace Go.Proofs.Ytbbagpnjjjohpaa.hexes
open Go.RowKit

/-- How the draw of two lists of cells ends. -/
def NwDraw (w : World) (e : Ending) (w' : World) : Prop := ∃ (A1 : Option Addr) (m1 c1 : Nat) (zs : List Ce) (A2 : Option Addr) (m2 c2 : Nat) (ys : List Ce), m1 ≤ 10 ∧ zs.length = m1 ∧ m2 ≤ 10 ∧ ys.length = m2 ∧ e = .returned (.tuple #[.slice A1 m1 c1, .slice A2 m2 c2]) ∧ Ces w' A1 zs ∧ Ces w' A2 ys ∧ Below w.heap.size w w'
theorem wce_own {w : World} {lo n c : Nat} {A : Option Addr} {zs : List Ce} (h : w.ownsRow lo 38 4 (.slice A n c) n (ceCells zs)) : Wce w lo w.heap.size A n c zs := Wce.of_row ⟨h, fun g hg => by
  rcases h.2 with ⟨h', _⟩ | ⟨g', cap, cur, h', _, hgg, _⟩
  · rw [h'] at hg; simp [Value.ownBlock] at hg
  · rw [h'] at hg
    simp only [Value.ownBlock, Option.some.injEq] at hg
    subst hg
    exact (Array.getElem?_eq_some_iff.1 hgg).1⟩

set_option maxRecDepth 100000 in
set_option maxHeartbeats 4000000 in
theorem drawNw_any (w : World) (A : Option Addr) (len cap : Nat) (hlen : len ≤ 2097152) (hcame : Came w A len) :
    Calls Try.prog 19 #[.slice A len cap] w (NwDraw w) := by
  have HC := Lib.hid hcame
  clear hcame
  go_enter Try.func19, Try.ntmps19
  go_wp2_with fail
  refine (new_any w A len cap hlen HC.out).mono ?_
  rintro e w1 ⟨c, rfl, hcw, hcur, hb1⟩
  have C1 := Lib.hid hcur
  have B1 := Lib.hid hb1
  clear hcur hb1
  go_wp2_with fail
  refine (ces_draw w1 c A len cap hlen C1.out).mono ?_
  rintro e w2 ⟨A1, m, c1, zs, hm, rfl, hS⟩
  have S2 := Lib.hid hS
  have B2 := Lib.hid (B1.out.grown hS.gr B1.out.size (fun k hk => by simp at hk; omega))
  clear hS
  go_wp2_with fail
  refine (once_any 3 (by omega) (by omega) w2 c A len cap hlen S2.out.cur).mono ?_
  rintro e w3 ⟨b, rfl, hcn, gn⟩
  have S3 := Lib.hid (S2.out.draw hcn gn)
  have B3 := Lib.hid (B2.out.grown gn B2.out.size (fun k hk => by simp at hk; omega))
  clear hcn gn S2 B2 B1
  have L3 := Lib.hid (wce_own S3.out.row)
  cases b with
  | false =>
    go_wp2_with fail
    refine (ces_draw w3 c A len cap hlen S3.out.cur).mono ?_
    rintro e w4 ⟨A2, m2, c2, ys, hm2, rfl, hS⟩
    have S4 := Lib.hid hS
    have T4 := Lib.hid (S3.out.draw hS.cur hS.gr)
    have B4 := Lib.hid (B3.out.grown hS.gr B3.out.size (fun k hk => by simp at hk; omega))
    clear hS
    go_wp2
    exact bodyPost_ret (v := .tuple #[.slice A1 m c1, .slice A2 m2 c2]) (by simp [results, Try.results19, go_sem]) rfl ⟨A1, m, c1, zs, A2, m2, c2, ys, hm, L3.out.1, hm2, (wce_own S4.out.row).1, rfl, (wce_own T4.out.row).ce, (wce_own S4.out.row).ce, B4.out⟩
  | true =>
    obtain ⟨V, hV⟩ : ∃ z, w3.alloc (.cells #[] 38) = z := ⟨_, rfl⟩
    have bV : Below w3.heap.size w3 V := by rw [← hV]; exact (Below.refl _ _).alloc (Nat.le_refl _) _
    have zV : w3.heap.size ≤ V.heap.size := bV.size
    have LV := Lib.hid (L3.out.below bV)
    have BV := Lib.hid (below_chain B3.out bV)
    have LIT := Lib.hid (show Wce V w3.heap.size V.heap.size (some ⟨w3.heap.size, 0, none⟩) 0 0 [] from Wce.empty _ _ _ _)
    have w03 := B3.out.size
    clear bV
    go_wp2_with (at_builtin; refine wpList_append_wce rfl (.tmp 13) (.tmp 14) (by rfl) (by rfl) LIT.out A1 m c1 zs (by rfl) LV.out.nil L3.out.1 LV.out.ce (by omega) (by omega) ?_; intro A7 c7 w7 own gr ha; generalize hG : wpList _ _ _ _ _ _ = GG)
    rw [Nat.zero_add] at own hG
    rw [List.nil_append] at own
    have N7 := Lib.hid (LV.out.keptN gr (fun g o hA => by simp only [Option.some.injEq, Addr.mk.injEq, and_true] at hA; omega))
    have Z7 := Lib.hid (gr.bel BV.out (by omega))
    have O7 := Lib.hid own
    clear own gr ha hV
    subst hG
    go_wp2
    exact bodyPost_ret (v := .tuple #[.slice A1 m c1, .slice A7 m c7]) (by simp [results, Try.results19, go_sem]) rfl ⟨A1, m, c1, zs, A7, m, c7, zs, hm, L3.out.1, hm, L3.out.1, rfl, N7.out.ce, O7.out.ce, Z7.out⟩
end Go.Proofs.Ytbbagpnjjjohpaa.hexes

namespace Go.Proofs.Ytbbagpnjjjohpaa.hexes
open Go.RowKit

def findQ9 (n : Nat) : Code → Option Code
  | .region id ops d => if id = n then some (.region id ops d) else none
  | .seq a b => match findQ9 n a with
    | some c => some c
    | none => findQ9 n b
  | .block _ c => findQ9 n c
  | .scope c => findQ9 n c
  | .loop c => findQ9 n c
  | .cond _ a b => match findQ9 n a with
    | some c => some c
    | none => findQ9 n b
  | _ => none
def opsOfQ9 : Option Code → Array Oper
  | some (.region _ ops _) => ops
  | _ => #[]
noncomputable def opsQ9 : Array Oper := opsOfQ9 (Try.f20.body.bind (findQ9 9))
theorem noselQ9 : Region.noSelect opsQ9 = true := by kernel_rfl
def qQ9_0 : Oper := { dst := some 25, op := Op.load 26 (Operand.tmp 6), type := 26, pos := "l11_fixed.go:105", after := #[], guard := none }
theorem hQ9_0 : opsQ9[0]? = some qQ9_0 := by kernel_rfl
def qQ9_1 : Oper := { dst := some 26, op := Op.move (Operand.tmp 7), type := 30, pos := "l11_fixed.go:105", after := #[], guard := none }
theorem hQ9_1 : opsQ9[1]? = some qQ9_1 := by kernel_rfl
def qQ9_2 : Oper := { dst := some 27, op := Op.move (Operand.tmp 5), type := 80, pos := "l11_fixed.go:105", after := #[], guard := none }
theorem hQ9_2 : opsQ9[2]? = some qQ9_2 := by kernel_rfl
def qQ9_3 : Oper := { dst := some 28, op := Op.load 26 (Operand.tmp 6), type := 26, pos := "l11_fixed.go:105", after := #[], guard := none }
theorem hQ9_3 : opsQ9[3]? = some qQ9_3 := by kernel_rfl
def qQ9_4 : Oper := { dst := some 29, op := Op.call { callee := Callee.value (Operand.func 55), args := #[Operand.tmp 27, Operand.tmp 28], argTypes := #[80, 26] }, type := 38, pos := "l11_fixed.go:105", after := #[{ on := 2, ground := Ground.data }, { on := 3, ground := Ground.data }], guard := none }
theorem hQ9_4 : opsQ9[4]? = some qQ9_4 := by kernel_rfl
def qQ9_5 : Oper := { dst := some 30, op := Op.call { callee := Callee.value (Operand.func 22), args := #[Operand.tmp 25, Operand.tmp 26, Operand.tmp 29], argTypes := #[26, 30, 38] }, type := 35, pos := "l11_fixed.go:105", after := #[{ on := 0, ground := Ground.data }, { on := 1, ground := Ground.data }, { on := 4, ground := Ground.data }, { on := 4, ground := Ground.chain }], guard := none }
theorem hQ9_5 : opsQ9[5]? = some qQ9_5 := by kernel_rfl
def qQ9_6 : Oper := { dst := some 24, op := Op.move (Operand.tmp 30), type := 35, pos := "l11_fixed.go:105", after := #[{ on := 5, ground := Ground.data }], guard := none }
theorem hQ9_6 : opsQ9[6]? = some qQ9_6 := by kernel_rfl
def qQ9_7 : Oper := { dst := some 31, op := Op.extract (Operand.tmp 24) 0, type := 30, pos := "l11_fixed.go:105", after := #[{ on := 6, ground := Ground.data }], guard := none }
theorem hQ9_7 : opsQ9[7]? = some qQ9_7 := by kernel_rfl
def qQ9_8 : Oper := { dst := some 32, op := Op.extract (Operand.tmp 24) 1, type := 30, pos := "l11_fixed.go:105", after := #[{ on := 6, ground := Ground.data }, { on := 9, ground := Ground.gcOnly Departure.lateStores }], guard := none }
theorem hQ9_8 : opsQ9[8]? = some qQ9_8 := by kernel_rfl
def qQ9_9 : Oper := { dst := some 7, op := Op.assign (Operand.tmp 31), type := 30, pos := "l11_fixed.go:105", after := #[{ on := 7, ground := Ground.data }, { on := 5, ground := Ground.chain }, { on := 0, ground := Ground.phase }, { on := 1, ground := Ground.phase }, { on := 2, ground := Ground.phase }, { on := 3, ground := Ground.phase }, { on := 4, ground := Ground.phase }, { on := 5, ground := Ground.phase }, { on := 6, ground := Ground.phase }, { on := 7, ground := Ground.phase }, { on := 8, ground := Ground.textOnly Departure.lateStores }], guard := none }
theorem hQ9_9 : opsQ9[9]? = some qQ9_9 := by kernel_rfl
theorem tQ9_e_0 : RegT Try.prog opsQ9 qQ9_0 (some 25) 9 (#[false, false, false, false, false, false, false, false, false, false] : Array Bool) (#[true, false, false, false, false, false, false, false, false, false] : Array Bool) := regT hQ9_0 rfl noselQ9 (by kernel_rfl) (by kernel_rfl) (by kernel_rfl)
theorem tQ9_0_1 : RegT Try.prog opsQ9 qQ9_1 (some 26) 8 (#[true, false, false, false, false, false, false, false, false, false] : Array Bool) (#[true, true, false, false, false, false, false, false, false, false] : Array Bool) := regT hQ9_1 rfl noselQ9 (by kernel_rfl) (by kernel_rfl) (by kernel_rfl)
theorem tQ9_01_2 : RegT Try.prog opsQ9 qQ9_2 (some 27) 7 (#[true, true, false, false, false, false, false, false, false, false] : Array Bool) (#[true, true, true, false, false, false, false, false, false, false] : Array Bool) := regT hQ9_2 rfl noselQ9 (by kernel_rfl) (by kernel_rfl) (by kernel_rfl)
theorem tQ9_012_3 : RegT Try.prog opsQ9 qQ9_3 (some 28) 6 (#[true, true, true, false, false, false, false, false, false, false] : Array Bool) (#[true, true, true, true, false, false, false, false, false, false] : Array Bool) := regT hQ9_3 rfl noselQ9 (by kernel_rfl) (by kernel_rfl) (by kernel_rfl)
theorem tQ9_012345_6 : RegT Try.prog opsQ9 qQ9_6 (some 24) 3 (#[true, true, true, true, true, true, false, false, false, false] : Array Bool) (#[true, true, true, true, true, true, true, false, false, false] : Array Bool) := regT hQ9_6 rfl noselQ9 (by kernel_rfl) (by kernel_rfl) (by kernel_rfl)
theorem tQ9_0123456_7 : RegT Try.prog opsQ9 qQ9_7 (some 31) 2 (#[true, true, true, true, true, true, true, false, false, false] : Array Bool) (#[true, true, true, true, true, true, true, true, false, false] : Array Bool) := regT hQ9_7 rfl noselQ9 (by kernel_rfl) (by kernel_rfl) (by kernel_rfl)
theorem tQ9_01234567_8 : RegT Try.prog opsQ9 qQ9_8 (some 32) 1 (#[true, true, true, true, true, true, true, true, false, false] : Array Bool) (#[true, true, true, true, true, true, true, true, true, false] : Array Bool) := regT hQ9_8 rfl noselQ9 (by kernel_rfl) (by kernel_rfl) (by kernel_rfl)
theorem tQ9_012345678_9 : RegT Try.prog opsQ9 qQ9_9 (some 7) 0 (#[true, true, true, true, true, true, true, true, true, false] : Array Bool) (#[true, true, true, true, true, true, true, true, true, true] : Array Bool) := regT hQ9_9 rfl noselQ9 (by kernel_rfl) (by kernel_rfl) (by kernel_rfl)
theorem cQ9_01234_5 : RegC Try.prog opsQ9 qQ9_5 (some 30) 4 (#[true, true, true, true, true, false, false, false, false, false] : Array Bool) (#[true, true, true, true, true, true, false, false, false, false] : Array Bool) := regC hQ9_5 rfl (by kernel_rfl) (by kernel_rfl)
theorem cQ9_0123_4 : RegC Try.prog opsQ9 qQ9_4 (some 29) 5 (#[true, true, true, true, false, false, false, false, false, false] : Array Bool) (#[true, true, true, true, true, false, false, false, false, false] : Array Bool) := regC hQ9_4 rfl (by kernel_rfl) (by kernel_rfl)
end Go.Proofs.Ytbbagpnjjjohpaa.hexes

namespace Go.Proofs.Ytbbagpnjjjohpaa.hexes
open Go.RowKit

def findQ10 (n : Nat) : Code → Option Code
  | .region id ops d => if id = n then some (.region id ops d) else none
  | .seq a b => match findQ10 n a with
    | some c => some c
    | none => findQ10 n b
  | .block _ c => findQ10 n c
  | .scope c => findQ10 n c
  | .loop c => findQ10 n c
  | .cond _ a b => match findQ10 n a with
    | some c => some c
    | none => findQ10 n b
  | _ => none
def opsOfQ10 : Option Code → Array Oper
  | some (.region _ ops _) => ops
  | _ => #[]
noncomputable def opsQ10 : Array Oper := opsOfQ10 (Try.f20.body.bind (findQ10 10))
theorem noselQ10 : Region.noSelect opsQ10 = true := by kernel_rfl
def qQ10_0 : Oper := { dst := some 33, op := Op.load 26 (Operand.tmp 6), type := 26, pos := "l11_fixed.go:107", after := #[], guard := none }
theorem hQ10_0 : opsQ10[0]? = some qQ10_0 := by kernel_rfl
def qQ10_1 : Oper := { dst := some 34, op := Op.move (Operand.tmp 7), type := 30, pos := "l11_fixed.go:107", after := #[{ on := 5, ground := Ground.gcOnly Departure.lateStores }], guard := none }
theorem hQ10_1 : opsQ10[1]? = some qQ10_1 := by kernel_rfl
def qQ10_2 : Oper := { dst := some 35, op := Op.move (Operand.tmp 5), type := 80, pos := "l11_fixed.go:107", after := #[], guard := none }
theorem hQ10_2 : opsQ10[2]? = some qQ10_2 := by kernel_rfl
def qQ10_3 : Oper := { dst := some 36, op := Op.load 26 (Operand.tmp 6), type := 26, pos := "l11_fixed.go:107", after := #[], guard := none }
theorem hQ10_3 : opsQ10[3]? = some qQ10_3 := by kernel_rfl
def qQ10_4 : Oper := { dst := some 37, op := Op.call { callee := Callee.value (Operand.func 55), args := #[Operand.tmp 35, Operand.tmp 36], argTypes := #[80, 26] }, type := 38, pos := "l11_fixed.go:107", after := #[{ on := 2, ground := Ground.data }, { on := 3, ground := Ground.data }], guard := none }
theorem hQ10_4 : opsQ10[4]? = some qQ10_4 := by kernel_rfl
def qQ10_5 : Oper := { dst := none, op := Op.store 26 (Operand.tmp 2) (Operand.tmp 33), type := 0, pos := "l11_fixed.go:107", after := #[{ on := 0, ground := Ground.data }, { on := 4, ground := Ground.chain }, { on := 0, ground := Ground.phase }, { on := 1, ground := Ground.textOnly Departure.lateStores }, { on := 2, ground := Ground.textOnly Departure.lateStores }, { on := 3, ground := Ground.textOnly Departure.lateStores }, { on := 4, ground := Ground.textOnly Departure.lateStoresUnsure }], guard := none }
theorem hQ10_5 : opsQ10[5]? = some qQ10_5 := by kernel_rfl
def qQ10_6 : Oper := { dst := some 3, op := Op.assign (Operand.tmp 34), type := 30, pos := "l11_fixed.go:107", after := #[{ on := 1, ground := Ground.data }, { on := 5, ground := Ground.chain }, { on := 0, ground := Ground.phase }, { on := 1, ground := Ground.phase }, { on := 2, ground := Ground.textOnly Departure.lateStores }, { on := 3, ground := Ground.textOnly Departure.lateStores }, { on := 4, ground := Ground.textOnly Departure.lateStoresUnsure }, { on := 5, ground := Ground.phase }], guard := none }
theorem hQ10_6 : opsQ10[6]? = some qQ10_6 := by kernel_rfl
def qQ10_7 : Oper := { dst := none, op := Op.store 38 (Operand.tmp 4) (Operand.tmp 37), type := 0, pos := "l11_fixed.go:107", after := #[{ on := 4, ground := Ground.data }, { on := 6, ground := Ground.chain }, { on := 0, ground := Ground.phase }, { on := 1, ground := Ground.phase }, { on := 2, ground := Ground.phase }, { on := 3, ground := Ground.phase }, { on := 4, ground := Ground.phase }, { on := 5, ground := Ground.phase }, { on := 6, ground := Ground.phase }], guard := none }
theorem hQ10_7 : opsQ10[7]? = some qQ10_7 := by kernel_rfl
theorem tQ10_e_0 : RegT Try.prog opsQ10 qQ10_0 (some 33) 7 (#[false, false, false, false, false, false, false, false] : Array Bool) (#[true, false, false, false, false, false, false, false] : Array Bool) := regT hQ10_0 rfl noselQ10 (by kernel_rfl) (by kernel_rfl) (by kernel_rfl)
theorem tQ10_0_1 : RegT Try.prog opsQ10 qQ10_1 (some 34) 6 (#[true, false, false, false, false, false, false, false] : Array Bool) (#[true, true, false, false, false, false, false, false] : Array Bool) := regT hQ10_1 rfl noselQ10 (by kernel_rfl) (by kernel_rfl) (by kernel_rfl)
theorem tQ10_01_2 : RegT Try.prog opsQ10 qQ10_2 (some 35) 5 (#[true, true, false, false, false, false, false, false] : Array Bool) (#[true, true, true, false, false, false, false, false] : Array Bool) := regT hQ10_2 rfl noselQ10 (by kernel_rfl) (by kernel_rfl) (by kernel_rfl)
theorem tQ10_012_3 : RegT Try.prog opsQ10 qQ10_3 (some 36) 4 (#[true, true, true, false, false, false, false, false] : Array Bool) (#[true, true, true, true, false, false, false, false] : Array Bool) := regT hQ10_3 rfl noselQ10 (by kernel_rfl) (by kernel_rfl) (by kernel_rfl)
theorem tQ10_012345_6 : RegT Try.prog opsQ10 qQ10_6 (some 3) 1 (#[true, true, true, true, true, true, false, false] : Array Bool) (#[true, true, true, true, true, true, true, false] : Array Bool) := regT hQ10_6 rfl noselQ10 (by kernel_rfl) (by kernel_rfl) (by kernel_rfl)
theorem cQ10_0123456_7 : RegC Try.prog opsQ10 qQ10_7 (none) 0 (#[true, true, true, true, true, true, true, false] : Array Bool) (#[true, true, true, true, true, true, true, true] : Array Bool) := regC hQ10_7 rfl (by kernel_rfl) (by kernel_rfl)
theorem cQ10_01234_5 : RegC Try.prog opsQ10 qQ10_5 (none) 2 (#[true, true, true, true, true, false, false, false] : Array Bool) (#[true, true, true, true, true, true, false, false] : Array Bool) := regC hQ10_5 rfl (by kernel_rfl) (by kernel_rfl)
theorem cQ10_0123_4 : RegC Try.prog opsQ10 qQ10_4 (some 37) 3 (#[true, true, true, true, false, false, false, false] : Array Bool) (#[true, true, true, true, true, false, false, false] : Array Bool) := regC hQ10_4 rfl (by kernel_rfl) (by kernel_rfl)
end Go.Proofs.Ytbbagpnjjjohpaa.hexes

