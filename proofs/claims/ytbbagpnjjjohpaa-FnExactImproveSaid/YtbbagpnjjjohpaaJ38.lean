/-
  The program's LeastOf and CellsOf: the contracts of (impl.Cell).sharesKey, impl.LeastOf and impl.CellsOf.
  A statement of impl.recallLeast: its operations, and a theorem a step.
-/
import Derived.Test.YtbbagpnjjjohpaaJ18
import Derived.Test.YtbbagpnjjjohpaaJ22
import Derived.Test.YtbbagpnjjjohpaaJ20

namespace Go.Proofs.Ytbbagpnjjjohpaa.hexes
open Go.RowKit

set_option maxRecDepth 100000 in
theorem shares_any (a0 a1 a2 a3 b0 b1 b2 b3 : Int) (w : World) :
    Calls Try.prog 91 #[.agg #[.int .i64 a0, .int .i64 a1, .int .i64 a2, .int .i64 a3], .agg #[.int .i64 b0, .int .i64 b1, .int .i64 b2, .int .i64 b3]] w fun e w' => e = .returned (.bool (decide (a0 = b0 ∧ a1 = b1 ∧ a2 = b2))) ∧ Below w.heap.size w w' := by
  have HB := Lib.hid (show Below w.heap.size w ((w.alloc (.cells #[.int .i64 a0, .int .i64 a1, .int .i64 a2, .int .i64 a3] 38)).alloc (.cells #[.int .i64 b0, .int .i64 b1, .int .i64 b2, .int .i64 b3] 38)) from ((Below.refl _ _).alloc (by simp) _).alloc (by simp) _)
  by_cases h0 : a0 = b0
  rotate_left
  · have d0 : (a0 == b0) = false := by simpa using h0
    have H := Lib.hid (show false = decide (a0 = b0 ∧ a1 = b1 ∧ a2 = b2) by simp [h0])
    clear h0
    go_enter Try.func91, Try.ntmps91
    go_wp2
    go_ret
    exact ⟨congrArg (fun b => Ending.returned (Value.bool b)) H.out, HB.out⟩
  have d0 : (a0 == b0) = true := by simpa using h0
  by_cases h1 : a1 = b1
  rotate_left
  · have d1 : (a1 == b1) = false := by simpa using h1
    have H := Lib.hid (show false = decide (a0 = b0 ∧ a1 = b1 ∧ a2 = b2) by simp [h1])
    clear h0 h1
    go_enter Try.func91, Try.ntmps91
    go_wp2
    go_ret
    exact ⟨congrArg (fun b => Ending.returned (Value.bool b)) H.out, HB.out⟩
  have d1 : (a1 == b1) = true := by simpa using h1
  by_cases h2 : a2 = b2
  · have d2 : (a2 == b2) = true := by simpa using h2
    have H := Lib.hid (show true = decide (a0 = b0 ∧ a1 = b1 ∧ a2 = b2) by simp [h0, h1, h2])
    clear h0 h1 h2
    go_enter Try.func91, Try.ntmps91
    go_wp2
    go_ret
    exact ⟨congrArg (fun b => Ending.returned (Value.bool b)) H.out, HB.out⟩
  · have d2 : (a2 == b2) = false := by simpa using h2
    have H := Lib.hid (show false = decide (a0 = b0 ∧ a1 = b1 ∧ a2 = b2) by simp [h2])
    clear h0 h1 h2
    go_enter Try.func91, Try.ntmps91
    go_wp2
    go_ret
    exact ⟨congrArg (fun b => Ending.returned (Value.bool b)) H.out, HB.out⟩
theorem shares_is {a0 a1 a2 a3 b0 b1 b2 b3 : Int} {r : Bool} (h : decide (a0 = b0 ∧ a1 = b1 ∧ a2 = b2) = r) (W : World) : Calls Try.prog 91 #[.agg #[.int .i64 a0, .int .i64 a1, .int .i64 a2, .int .i64 a3], .agg #[.int .i64 b0, .int .i64 b1, .int .i64 b2, .int .i64 b3]] W fun e w' => e = .returned (.bool r) ∧ Below W.heap.size W w' := by
  subst h; exact shares_any _ _ _ _ _ _ _ _ W

set_option maxRecDepth 100000 in
set_option maxHeartbeats 4000000 in
theorem implLeast_any (n : Nat) (zs : List Ce) (hz : zs.length = n) (A : Option Addr) (c : Nat) (o ep ky : Int) (w : World) (h1 : Ces w A zs) (hn : n ≤ 4194304) :
    Calls Try.prog 61 #[.slice A n c, .int .i64 o, .int .i64 ep, .int .i64 ky] w fun e w' => e = .returned (.tuple #[.int .i64 (leastC zs o ep ky).1, .bool (leastC zs o ep ky).2]) ∧ Below w.heap.size w w' := by
  have H1 := Lib.hid h1
  have HZ := Lib.hid hz
  clear h1 hz
  go_enter Try.func61, Try.ntmps61
  go_wp2
  go_loopw [11, 12, 21] (fun a b i wr => ∃ (k : Nat) (m : Int) (sm : Bool), k ≤ n ∧ i = .int .i64 k ∧ a = .int .i64 m ∧ b = .bool sm ∧ leastC (zs.take k) o ep ky = (m, sm) ∧ Below w.heap.size w wr ∧ XB w.heap.size o ep ky 0 wr) (fun _ _ i _ => n - (intOf i).toNat)
  case atStart => exact ⟨0, 0, false, Nat.zero_le _, rfl, rfl, rfl, rfl, (Below.refl _ _).alloc (Nat.le_refl _) _, ⟨by simp, by simp, by simp, by simp⟩⟩
  case round =>
    obtain ⟨k, m, sm, hk, rfl, rfl, rfl, ht, hb, hx⟩ := hrel
    have HT := Lib.hid ht
    have HB := Lib.hid hb
    have HX := Lib.hid hx
    clear ht hx
    by_cases hlt : k < n
    · have l1 : k < zs.length := by rw [HZ.out]; exact hlt
      obtain ⟨b1, o1, p0, p1, p2, p3, rfl, x1, e0, e1, e2, e3⟩ := (H1.out.below hb).at l1
      have i0 : (0 : Int) ≤ (k : Int) := by omega
      have i1 : (k : Int) < (n : Int) := by omega
      obtain ⟨W, hW⟩ : ∃ z, wr.alloc (.cells #[.int .i64 p0, .int .i64 p1, .int .i64 p2, .int .i64 p3] 38) = z := ⟨_, rfl⟩
      have BW := Lib.hid (show Below w.heap.size w W by rw [← hW]; exact hb.alloc hb.size _)
      have XW := Lib.hid (show XB w.heap.size o ep ky 0 W by rw [← hW]; exact HX.out.below ((Below.refl _ _).alloc (Nat.le_refl _) _))
      have KW := Lib.hid (show Blk W wr.heap.size 38 #[.int .i64 p0, .int .i64 p1, .int .i64 p2, .int .i64 p3] by rw [← hW]; exact Blk.new _ _ _)
      have k0 : W.cell? ⟨wr.heap.size, 0, none⟩ = some (.int .i64 p0) := by rw [KW.out.cell]; rfl
      have k1 : W.cell? ⟨wr.heap.size, 1, none⟩ = some (.int .i64 p1) := by rw [KW.out.cell]; rfl
      have k2 : W.cell? ⟨wr.heap.size, 2, none⟩ = some (.int .i64 p2) := by rw [KW.out.cell]; rfl
      have k3 : W.cell? ⟨wr.heap.size, 3, none⟩ = some (.int .i64 p3) := by rw [KW.out.cell]; rfl
      have c0 := XW.out.c0
      have c1 := XW.out.c1
      have c2 := XW.out.c2
      have c3 := XW.out.c3
      have ST := Lib.hid (show leastC (zs.take (k + 1)) o ep ky = leastStep o ep ky (m, sm) (p0, p1, p2, p3) by rw [least_step l1, HT.out, x1])
      clear hb x1 HT l1
      by_cases hs : p0 = o ∧ p1 = ep ∧ p2 = ky
      rotate_left
      · have HS := Lib.hid (show leastC (zs.take (k + 1)) o ep ky = (m, sm) by rw [ST.out]; simp [leastStep, keyC, hs])
        have E := Lib.hid (fun W => shares_is (a0 := p0) (a1 := p1) (a2 := p2) (a3 := p3) (b0 := o) (b1 := ep) (b2 := ky) (b3 := 0) (r := false) (decide_eq_false hs) W)
        clear ST hs
        go_wp2_with fail
        clear hW
        refine (E.out _).mono ?_
        rintro e w5 ⟨rfl, b5⟩
        have B5 := Lib.hid (below_chain BW.out b5)
        have X5 := Lib.hid (XW.out.below b5)
        have K5 := KW.out.below b5
        have m3 : w5.cell? ⟨wr.heap.size, 3, none⟩ = some (.int .i64 p3) := by rw [K5.cell]; rfl
        clear b5 E K5 k0 k1 k2 k3 c0 c1 c2 c3 e0 e1 e2 e3 BW XW KW HB HX W
        go_wp2
        go_roundw
        case rel => exact ⟨k + 1, m, sm, by omega, by go_num, rfl, rfl, HS.out, B5.out, X5.out⟩
        case measure => simp [intOf]; omega
      have E := Lib.hid (fun W => shares_is (a0 := p0) (a1 := p1) (a2 := p2) (a3 := p3) (b0 := o) (b1 := ep) (b2 := ky) (b3 := 0) (r := true) (decide_eq_true hs) W)
      cases sm with
      | false =>
        have HS := Lib.hid (show leastC (zs.take (k + 1)) o ep ky = (p3, true) by rw [ST.out]; simp [leastStep, keyC, hs])
        clear ST hs
        go_wp2_with fail
        clear hW
        refine (E.out _).mono ?_
        rintro e w5 ⟨rfl, b5⟩
        have B5 := Lib.hid (below_chain BW.out b5)
        have X5 := Lib.hid (XW.out.below b5)
        have K5 := KW.out.below b5
        have m3 : w5.cell? ⟨wr.heap.size, 3, none⟩ = some (.int .i64 p3) := by rw [K5.cell]; rfl
        clear b5 E K5 k0 k1 k2 k3 c0 c1 c2 c3 e0 e1 e2 e3 BW XW KW HB HX W
        go_wp2
        go_roundw
        case rel => exact ⟨k + 1, p3, true, by omega, by go_num, rfl, rfl, HS.out, B5.out, X5.out⟩
        case measure => simp [intOf]; omega
      | true =>
        by_cases h3 : p3 < m
        · have HS := Lib.hid (show leastC (zs.take (k + 1)) o ep ky = (p3, true) by rw [ST.out]; simp [leastStep, keyC, hs, h3])
          have d3 : decide (p3 < m) = true := decide_eq_true h3
          clear ST hs h3
          go_wp2_with fail
          clear hW
          refine (E.out _).mono ?_
          rintro e w5 ⟨rfl, b5⟩
          have B5 := Lib.hid (below_chain BW.out b5)
          have X5 := Lib.hid (XW.out.below b5)
          have K5 := KW.out.below b5
          have m3 : w5.cell? ⟨wr.heap.size, 3, none⟩ = some (.int .i64 p3) := by rw [K5.cell]; rfl
          clear b5 E K5 k0 k1 k2 k3 c0 c1 c2 c3 e0 e1 e2 e3 BW XW KW HB HX W
          go_wp2
          go_roundw
          case rel => exact ⟨k + 1, p3, true, by omega, by go_num, rfl, rfl, HS.out, B5.out, X5.out⟩
          case measure => simp [intOf]; omega
        · have HS := Lib.hid (show leastC (zs.take (k + 1)) o ep ky = (m, true) by rw [ST.out]; simp [leastStep, keyC, hs, h3])
          have d3 : decide (p3 < m) = false := decide_eq_false h3
          clear ST hs h3
          go_wp2_with fail
          clear hW
          refine (E.out _).mono ?_
          rintro e w5 ⟨rfl, b5⟩
          have B5 := Lib.hid (below_chain BW.out b5)
          have X5 := Lib.hid (XW.out.below b5)
          have K5 := KW.out.below b5
          have m3 : w5.cell? ⟨wr.heap.size, 3, none⟩ = some (.int .i64 p3) := by rw [K5.cell]; rfl
          clear b5 E K5 k0 k1 k2 k3 c0 c1 c2 c3 e0 e1 e2 e3 BW XW KW HB HX W
          go_wp2
          go_roundw
          case rel => exact ⟨k + 1, m, true, by omega, by go_num, rfl, rfl, HS.out, B5.out, X5.out⟩
          case measure => simp [intOf]; omega
    · have hfin : leastC zs o ep ky = (m, sm) := by rw [← HT.out, least_all (by rw [HZ.out]; omega)]
      have HF := Lib.hid hfin
      clear hb hfin
      go_wp2
      exact bodyPost_ret (v := .tuple #[.int .i64 m, .bool sm]) (by simp [results, Try.results61, go_sem]) rfl ⟨by rw [HF.out], HB.out⟩
end Go.Proofs.Ytbbagpnjjjohpaa.hexes

namespace Go.Proofs.Ytbbagpnjjjohpaa.hexes
open Go.RowKit

def findJ4 (n : Nat) : Code → Option Code
  | .region id ops d => if id = n then some (.region id ops d) else none
  | .seq a b => match findJ4 n a with
    | some c => some c
    | none => findJ4 n b
  | .block _ c => findJ4 n c
  | .scope c => findJ4 n c
  | .loop c => findJ4 n c
  | .cond _ a b => match findJ4 n a with
    | some c => some c
    | none => findJ4 n b
  | _ => none
def opsOfJ4 : Option Code → Array Oper
  | some (.region _ ops _) => ops
  | _ => #[]
noncomputable def opsJ4 : Array Oper := opsOfJ4 (Try.f79.body.bind (findJ4 4))
def schJ4 : List Nat := [0, 2, 3, 1, 4, 5]
def LJ4 (k : Nat) : Array Bool := ((List.range 6).map fun i => (schJ4.take k).contains i).toArray
theorem noselJ4 : Region.noSelect opsJ4 = true := by kernel_rfl
def qJ4_0 : Oper := { dst := some 29, op := Op.move (Operand.tmp 0), type := 30, pos := "l09_memory.go:108", after := #[], guard := none }
theorem hJ4_0 : opsJ4[0]? = some qJ4_0 := by kernel_rfl
theorem lJ4_0 : (LJ4 0).setIfInBounds 0 true = LJ4 1 := by kernel_rfl
theorem tJ4_0 : RegT Try.prog opsJ4 qJ4_0 (some 29) 5 (LJ4 0) (LJ4 1) := regT hJ4_0 rfl noselJ4 (by kernel_rfl) (by kernel_rfl) lJ4_0
def qJ4_2 : Oper := { dst := some 31, op := Op.load 38 (Operand.tmp 3), type := 38, pos := "l09_memory.go:108", after := #[], guard := none }
theorem hJ4_2 : opsJ4[2]? = some qJ4_2 := by kernel_rfl
theorem lJ4_1 : (LJ4 1).setIfInBounds 2 true = LJ4 2 := by kernel_rfl
theorem tJ4_1 : RegT Try.prog opsJ4 qJ4_2 (some 31) 4 (LJ4 1) (LJ4 2) := regT hJ4_2 rfl noselJ4 (by kernel_rfl) (by kernel_rfl) lJ4_1
def qJ4_3 : Oper := { dst := some 32, op := Op.makeFunc (Fn.func 91) #[Operand.tmp 31] #[], type := 125, pos := "l09_memory.go:108", after := #[{ on := 2, ground := Ground.data }], guard := none }
theorem hJ4_3 : opsJ4[3]? = some qJ4_3 := by kernel_rfl
theorem lJ4_2 : (LJ4 2).setIfInBounds 3 true = LJ4 3 := by kernel_rfl
theorem tJ4_2 : RegT Try.prog opsJ4 qJ4_3 (some 32) 3 (LJ4 2) (LJ4 3) := regT hJ4_3 rfl noselJ4 (by kernel_rfl) (by kernel_rfl) lJ4_2
def qJ4_1 : Oper := { dst := some 30, op := Op.call { callee := Callee.value (Operand.func 78), args := #[Operand.tmp 29], argTypes := #[30] }, type := 30, pos := "l09_memory.go:108", after := #[{ on := 0, ground := Ground.data }], guard := none }
theorem hJ4_1 : opsJ4[1]? = some qJ4_1 := by kernel_rfl
theorem lJ4_3 : (LJ4 3).setIfInBounds 1 true = LJ4 4 := by kernel_rfl
theorem cJ4_3 : RegC Try.prog opsJ4 qJ4_1 (some 30) 2 (LJ4 3) (LJ4 4) := regC hJ4_1 rfl (by kernel_rfl) lJ4_3
def qJ4_4 : Oper := { dst := some 33, op := Op.call { callee := Callee.value (Operand.func 105), args := #[Operand.tmp 30, Operand.tmp 32], argTypes := #[30, 125] }, type := 30, pos := "l09_memory.go:108", after := #[{ on := 1, ground := Ground.data }, { on := 3, ground := Ground.data }, { on := 1, ground := Ground.chain }], guard := none }
theorem hJ4_4 : opsJ4[4]? = some qJ4_4 := by kernel_rfl
theorem lJ4_4 : (LJ4 4).setIfInBounds 4 true = LJ4 5 := by kernel_rfl
theorem cJ4_4 : RegC Try.prog opsJ4 qJ4_4 (some 33) 1 (LJ4 4) (LJ4 5) := regC hJ4_4 rfl (by kernel_rfl) lJ4_4
def qJ4_5 : Oper := { dst := some 8, op := Op.assign (Operand.tmp 33), type := 30, pos := "l09_memory.go:108", after := #[{ on := 4, ground := Ground.data }, { on := 4, ground := Ground.chain }, { on := 0, ground := Ground.phase }, { on := 1, ground := Ground.phase }, { on := 2, ground := Ground.phase }, { on := 3, ground := Ground.phase }, { on := 4, ground := Ground.phase }], guard := none }
theorem hJ4_5 : opsJ4[5]? = some qJ4_5 := by kernel_rfl
theorem lJ4_5 : (LJ4 5).setIfInBounds 5 true = LJ4 6 := by kernel_rfl
theorem tJ4_5 : RegT Try.prog opsJ4 qJ4_5 (some 8) 0 (LJ4 5) (LJ4 6) := regT hJ4_5 rfl noselJ4 (by kernel_rfl) (by kernel_rfl) lJ4_5
end Go.Proofs.Ytbbagpnjjjohpaa.hexes

