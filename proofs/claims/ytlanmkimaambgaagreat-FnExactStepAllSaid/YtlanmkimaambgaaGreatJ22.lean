/-
  Chapter 9's plain functions as the reference has them: the contracts of spec.CellsOk, spec.HasCell, spec.LeastOf, spec.CellsOf, and of laws.sameCells.
  A statement of spec.PutCell: its operations, and a theorem a step.
-/
import Derived.Test.YtlanmkimaambgaaGreatJ21
import Derived.Laws.AppendOwnNone
import Derived.Test.YtlanmkimaambgaaGreatProg
import Derived.WalkKit
import Derived.Deep.RegionHeld3

namespace Go.Proofs.YtlanmkimaambgaaGreat.hexes
open Go.RowKit

theorem specCeOrd_is {p0 p1 p2 p3 q0 q1 q2 q3 v : Int} (h : ordCe (p0, p1, p2, p3) (q0, q1, q2, q3) = v) (W : World) : Calls Tryz.prog 68 #[.agg #[.int .i64 p0, .int .i64 p1, .int .i64 p2, .int .i64 p3], .agg #[.int .i64 q0, .int .i64 q1, .int .i64 q2, .int .i64 q3]] W fun e w' => e = .returned (.int .i64 v) ∧ Below W.heap.size W w' := by
  subst h; exact specCeOrd_any _ _ _ _ _ _ _ _ W

set_option maxRecDepth 100000 in
set_option maxHeartbeats 4000000 in
theorem specHas_any (n : Nat) (zs : List Ce) (hz : zs.length = n) (A : Option Addr) (c : Nat) (x0 x1 x2 x3 : Int) (w : World) (h1 : Ces w A zs) (hn : n ≤ 4194304) :
    Calls Tryz.prog 54 #[.slice A n c, .agg #[.int .i64 x0, .int .i64 x1, .int .i64 x2, .int .i64 x3]] w fun e w' => e = .returned (.bool (hasC zs (x0, x1, x2, x3))) ∧ Below w.heap.size w w' := by
  have H1 := Lib.hid h1
  have HZ := Lib.hid hz
  clear h1 hz
  go_enter Tryz.func54, Tryz.ntmps54
  go_wp2
  go_loopw [5] (fun i wr => ∃ k : Nat, k ≤ n ∧ i = .int .i64 k ∧ (x0, x1, x2, x3) ∉ zs.take k ∧ Below w.heap.size w wr ∧ wr.cell? ⟨w.heap.size, 0, none⟩ = some (.int .i64 x0) ∧ wr.cell? ⟨w.heap.size, 1, none⟩ = some (.int .i64 x1) ∧ wr.cell? ⟨w.heap.size, 2, none⟩ = some (.int .i64 x2) ∧ wr.cell? ⟨w.heap.size, 3, none⟩ = some (.int .i64 x3)) (fun i _ => n - (intOf i).toNat)
  case atStart => exact ⟨0, Nat.zero_le _, rfl, by simp, (Below.refl _ _).alloc (Nat.le_refl _) _, by simp, by simp, by simp, by simp⟩
  case round =>
    obtain ⟨k, hk, rfl, ht, hb, s0, s1, s2, s3⟩ := hrel
    have HT := Lib.hid ht
    have HB := Lib.hid hb
    clear ht
    by_cases hlt : k < n
    · have l1 : k < zs.length := by rw [HZ.out]; exact hlt
      obtain ⟨b1, o1, p0, p1, p2, p3, rfl, xz, e0, e1, e2, e3⟩ := (H1.out.below hb).at l1
      have X1 := Lib.hid xz
      have i0 : (0 : Int) ≤ (k : Int) := by omega
      have i1 : (k : Int) < (n : Int) := by omega
      clear hb xz
      by_cases he : p0 = x0 ∧ p1 = x1 ∧ p2 = x2 ∧ p3 = x3
      · obtain ⟨rfl, rfl, rfl, rfl⟩ := he
        have HF := Lib.hid (hasC_hit l1 X1.out)
        clear HT X1 l1
        go_wp2_with fail
        go_region_held3 (fun w' => w'.cell? ⟨b1, o1 + k * 4, none⟩ = some (.int .i64 p0) ∧ w'.cell? ⟨b1, o1 + k * 4 + 1, none⟩ = some (.int .i64 p1) ∧ w'.cell? ⟨b1, o1 + k * 4 + 2, none⟩ = some (.int .i64 p2) ∧ w'.cell? ⟨b1, o1 + k * 4 + 3, none⟩ = some (.int .i64 p3) ∧ w'.cell? ⟨w.heap.size, 0, none⟩ = some (.int .i64 p0) ∧ w'.cell? ⟨w.heap.size, 1, none⟩ = some (.int .i64 p1) ∧ w'.cell? ⟨w.heap.size, 2, none⟩ = some (.int .i64 p2) ∧ w'.cell? ⟨w.heap.size, 3, none⟩ = some (.int .i64 p3))
          (((try go_split_ands); refine ⟨?_, ?_, ?_, ?_, ?_, ?_, ?_, ?_⟩ <;> (repeat (first | with_reducible assumption | with_reducible refine drew_keep ?_))))
          (fail)
        go_wp2
        go_ret
        exact ⟨congrArg (fun b => Ending.returned (Value.bool b)) HF.out.symm, HB.out.drew⟩
      · have HT2 := Lib.hid (hasC_step l1 HT.out (by rw [X1.out]; exact fun h => he (by simpa [Prod.mk.injEq] using h)))
        clear HT X1 l1
        by_cases h0 : p0 = x0
        · subst h0
          by_cases h1 : p1 = x1
          · subst h1
            by_cases h2 : p2 = x2
            · subst h2
              have h3 : ¬p3 = x3 := fun h => he (by simp [h])
              clear he
              go_wp2_with fail
              go_region_held3 (fun w' => w'.cell? ⟨b1, o1 + k * 4, none⟩ = some (.int .i64 p0) ∧ w'.cell? ⟨b1, o1 + k * 4 + 1, none⟩ = some (.int .i64 p1) ∧ w'.cell? ⟨b1, o1 + k * 4 + 2, none⟩ = some (.int .i64 p2) ∧ w'.cell? ⟨b1, o1 + k * 4 + 3, none⟩ = some (.int .i64 p3) ∧ w'.cell? ⟨w.heap.size, 0, none⟩ = some (.int .i64 p0) ∧ w'.cell? ⟨w.heap.size, 1, none⟩ = some (.int .i64 p1) ∧ w'.cell? ⟨w.heap.size, 2, none⟩ = some (.int .i64 p2) ∧ w'.cell? ⟨w.heap.size, 3, none⟩ = some (.int .i64 x3))
                (((try go_split_ands); refine ⟨?_, ?_, ?_, ?_, ?_, ?_, ?_, ?_⟩ <;> (repeat (first | with_reducible assumption | with_reducible refine drew_keep ?_))))
                (fail)
              have T0 := drew_keep s0
              have T1 := drew_keep s1
              have T2 := drew_keep s2
              have T3 := drew_keep s3
              go_wp2
              go_roundw
              case rel => exact ⟨k + 1, by omega, by go_num, HT2.out, HB.out.drew, T0, T1, T2, T3⟩
              case measure => simp [intOf]; omega
            · clear he
              go_wp2_with fail
              go_region_held3 (fun w' => w'.cell? ⟨b1, o1 + k * 4, none⟩ = some (.int .i64 p0) ∧ w'.cell? ⟨b1, o1 + k * 4 + 1, none⟩ = some (.int .i64 p1) ∧ w'.cell? ⟨b1, o1 + k * 4 + 2, none⟩ = some (.int .i64 p2) ∧ w'.cell? ⟨b1, o1 + k * 4 + 3, none⟩ = some (.int .i64 p3) ∧ w'.cell? ⟨w.heap.size, 0, none⟩ = some (.int .i64 p0) ∧ w'.cell? ⟨w.heap.size, 1, none⟩ = some (.int .i64 p1) ∧ w'.cell? ⟨w.heap.size, 2, none⟩ = some (.int .i64 x2) ∧ w'.cell? ⟨w.heap.size, 3, none⟩ = some (.int .i64 x3))
                (((try go_split_ands); refine ⟨?_, ?_, ?_, ?_, ?_, ?_, ?_, ?_⟩ <;> (repeat (first | with_reducible assumption | with_reducible refine drew_keep ?_))))
                (fail)
              have T0 := drew_keep s0
              have T1 := drew_keep s1
              have T2 := drew_keep s2
              have T3 := drew_keep s3
              go_wp2
              go_roundw
              case rel => exact ⟨k + 1, by omega, by go_num, HT2.out, HB.out.drew, T0, T1, T2, T3⟩
              case measure => simp [intOf]; omega
          · clear he
            go_wp2_with fail
            go_region_held3 (fun w' => w'.cell? ⟨b1, o1 + k * 4, none⟩ = some (.int .i64 p0) ∧ w'.cell? ⟨b1, o1 + k * 4 + 1, none⟩ = some (.int .i64 p1) ∧ w'.cell? ⟨b1, o1 + k * 4 + 2, none⟩ = some (.int .i64 p2) ∧ w'.cell? ⟨b1, o1 + k * 4 + 3, none⟩ = some (.int .i64 p3) ∧ w'.cell? ⟨w.heap.size, 0, none⟩ = some (.int .i64 p0) ∧ w'.cell? ⟨w.heap.size, 1, none⟩ = some (.int .i64 x1) ∧ w'.cell? ⟨w.heap.size, 2, none⟩ = some (.int .i64 x2) ∧ w'.cell? ⟨w.heap.size, 3, none⟩ = some (.int .i64 x3))
              (((try go_split_ands); refine ⟨?_, ?_, ?_, ?_, ?_, ?_, ?_, ?_⟩ <;> (repeat (first | with_reducible assumption | with_reducible refine drew_keep ?_))))
              (fail)
            have T0 := drew_keep s0
            have T1 := drew_keep s1
            have T2 := drew_keep s2
            have T3 := drew_keep s3
            go_wp2
            go_roundw
            case rel => exact ⟨k + 1, by omega, by go_num, HT2.out, HB.out.drew, T0, T1, T2, T3⟩
            case measure => simp [intOf]; omega
        · clear he
          go_wp2_with fail
          go_region_held3 (fun w' => w'.cell? ⟨b1, o1 + k * 4, none⟩ = some (.int .i64 p0) ∧ w'.cell? ⟨b1, o1 + k * 4 + 1, none⟩ = some (.int .i64 p1) ∧ w'.cell? ⟨b1, o1 + k * 4 + 2, none⟩ = some (.int .i64 p2) ∧ w'.cell? ⟨b1, o1 + k * 4 + 3, none⟩ = some (.int .i64 p3) ∧ w'.cell? ⟨w.heap.size, 0, none⟩ = some (.int .i64 x0) ∧ w'.cell? ⟨w.heap.size, 1, none⟩ = some (.int .i64 x1) ∧ w'.cell? ⟨w.heap.size, 2, none⟩ = some (.int .i64 x2) ∧ w'.cell? ⟨w.heap.size, 3, none⟩ = some (.int .i64 x3))
            (((try go_split_ands); refine ⟨?_, ?_, ?_, ?_, ?_, ?_, ?_, ?_⟩ <;> (repeat (first | with_reducible assumption | with_reducible refine drew_keep ?_))))
            (fail)
          have T0 := drew_keep s0
          have T1 := drew_keep s1
          have T2 := drew_keep s2
          have T3 := drew_keep s3
          go_wp2
          go_roundw
          case rel => exact ⟨k + 1, by omega, by go_num, HT2.out, HB.out.drew, T0, T1, T2, T3⟩
          case measure => simp [intOf]; omega
    · have HF := Lib.hid (hasC_miss (k := k) (by rw [HZ.out]; omega) HT.out)
      clear hb
      go_wp2
      go_ret
      exact ⟨congrArg (fun b => Ending.returned (Value.bool b)) HF.out.symm, HB.out⟩

set_option maxRecDepth 100000 in
set_option maxHeartbeats 4000000 in
theorem specLeast_any (n : Nat) (zs : List Ce) (hz : zs.length = n) (A : Option Addr) (c : Nat) (o ep ky : Int) (w : World) (h1 : Ces w A zs) (hn : n ≤ 4194304) :
    Calls Tryz.prog 56 #[.slice A n c, .int .i64 o, .int .i64 ep, .int .i64 ky] w fun e w' => e = .returned (.tuple #[.int .i64 (leastC zs o ep ky).1, .bool (leastC zs o ep ky).2]) ∧ Below w.heap.size w w' := by
  have H1 := Lib.hid h1
  have HZ := Lib.hid hz
  clear h1 hz
  go_enter Tryz.func56, Tryz.ntmps56
  go_wp2
  go_loopw [10, 11, 12] (fun a b i wr => ∃ (k : Nat) (m : Int) (some : Bool), k ≤ n ∧ i = .int .i64 k ∧ a = .int .i64 m ∧ b = .bool some ∧ leastC (zs.take k) o ep ky = (m, some) ∧ Below w.heap.size w wr) (fun _ _ i _ => n - (intOf i).toNat)
  case atStart => exact ⟨0, 0, false, Nat.zero_le _, rfl, rfl, rfl, rfl, Below.refl _ _⟩
  case round =>
    obtain ⟨k, m, some, hk, rfl, rfl, rfl, ht, hb⟩ := hrel
    have HT := Lib.hid ht
    have HB := Lib.hid hb
    clear ht
    by_cases hlt : k < n
    · have l1 : k < zs.length := by rw [HZ.out]; exact hlt
      obtain ⟨b1, o1, p0, p1, p2, p3, rfl, x1, e0, e1, e2, e3⟩ := (H1.out.below hb).at l1
      have i0 : (0 : Int) ≤ (k : Int) := by omega
      have i1 : (k : Int) < (n : Int) := by omega
      have BA := Lib.hid (HB.out.alloc HB.out.size (.cells #[.int .i64 p0, .int .i64 p1, .int .i64 p2, .int .i64 p3] 57))
      have ST := Lib.hid (show leastC (zs.take (k + 1)) o ep ky = leastStep o ep ky (m, some) (p0, p1, p2, p3) by rw [least_step l1, HT.out, x1])
      clear hb x1 HT l1
      by_cases h0 : p0 = o
      rotate_left
      · have HS := Lib.hid (show leastC (zs.take (k + 1)) o ep ky = (m, some) by rw [ST.out]; simp [leastStep, keyC, h0])
        have d0 : (p0 == o) = false := by simpa using h0
        clear ST h0
        skip
        go_wp2
        go_roundw
        case rel => exact ⟨k + 1, m, some, by omega, by go_num, rfl, rfl, HS.out, BA.out⟩
        case measure => simp [intOf]; omega
      have d0 : (p0 == o) = true := by simpa using h0
      by_cases h1 : p1 = ep
      rotate_left
      · have HS := Lib.hid (show leastC (zs.take (k + 1)) o ep ky = (m, some) by rw [ST.out]; simp [leastStep, keyC, h1])
        have d1 : (p1 == ep) = false := by simpa using h1
        clear ST h0 h1
        skip
        go_wp2
        go_roundw
        case rel => exact ⟨k + 1, m, some, by omega, by go_num, rfl, rfl, HS.out, BA.out⟩
        case measure => simp [intOf]; omega
      have d1 : (p1 == ep) = true := by simpa using h1
      by_cases h2 : p2 = ky
      rotate_left
      · have HS := Lib.hid (show leastC (zs.take (k + 1)) o ep ky = (m, some) by rw [ST.out]; simp [leastStep, keyC, h2])
        have d2 : (p2 == ky) = false := by simpa using h2
        clear ST h0 h1 h2
        skip
        go_wp2
        go_roundw
        case rel => exact ⟨k + 1, m, some, by omega, by go_num, rfl, rfl, HS.out, BA.out⟩
        case measure => simp [intOf]; omega
      have d2 : (p2 == ky) = true := by simpa using h2
      cases some with
      | false =>
        have HS := Lib.hid (show leastC (zs.take (k + 1)) o ep ky = (p3, true) by rw [ST.out]; simp [leastStep, keyC, h0, h1, h2])
        clear ST h0 h1 h2
        skip
        go_wp2
        go_roundw
        case rel => exact ⟨k + 1, p3, true, by omega, by go_num, rfl, rfl, HS.out, BA.out⟩
        case measure => simp [intOf]; omega
      | true =>
        by_cases h3 : p3 < m
        · have HS := Lib.hid (show leastC (zs.take (k + 1)) o ep ky = (p3, true) by rw [ST.out]; simp [leastStep, keyC, h0, h1, h2, h3])
          have d3 : decide (p3 < m) = true := decide_eq_true h3
          clear ST h0 h1 h2 h3
          skip
          go_wp2
          go_roundw
          case rel => exact ⟨k + 1, p3, true, by omega, by go_num, rfl, rfl, HS.out, BA.out⟩
          case measure => simp [intOf]; omega
        · have HS := Lib.hid (show leastC (zs.take (k + 1)) o ep ky = (m, true) by rw [ST.out]; simp [leastStep, keyC, h0, h1, h2, h3])
          have d3 : decide (p3 < m) = false := decide_eq_false h3
          clear ST h0 h1 h2 h3
          skip
          go_wp2
          go_roundw
          case rel => exact ⟨k + 1, m, true, by omega, by go_num, rfl, rfl, HS.out, BA.out⟩
          case measure => simp [intOf]; omega
    · have hfin : leastC zs o ep ky = (m, some) := by rw [← HT.out, least_all (by rw [HZ.out]; omega)]
      have HF := Lib.hid hfin
      clear hb hfin
      go_wp2
      exact bodyPost_ret (v := .tuple #[.int .i64 m, .bool some]) (by simp [results, Tryz.results56, go_sem]) rfl ⟨by rw [HF.out], HB.out⟩

end Go.Proofs.YtlanmkimaambgaaGreat.hexes

namespace Go.Proofs.YtlanmkimaambgaaGreat.hexes
open Go.RowKit

def findP4 (n : Nat) : Code → Option Code
  | .region id ops d => if id = n then some (.region id ops d) else none
  | .seq a b => match findP4 n a with
    | some c => some c
    | none => findP4 n b
  | .block _ c => findP4 n c
  | .scope c => findP4 n c
  | .loop c => findP4 n c
  | .cond _ a b => match findP4 n a with
    | some c => some c
    | none => findP4 n b
  | _ => none
def opsOfP4 : Option Code → Array Oper
  | some (.region _ ops _) => ops
  | _ => #[]
noncomputable def opsP4 : Array Oper := opsOfP4 (Tryz.f55.body.bind (findP4 4))
def schP4 : List Nat := [0, 1, 2, 3, 4, 5, 6, 7, 8, 9, 10, 11, 12]
def LP4 (k : Nat) : Array Bool := ((List.range 13).map fun i => (schP4.take k).contains i).toArray
theorem noselP4 : Region.noSelect opsP4 = true := by kernel_rfl
def qP4_0 : Oper := { dst := some 13, op := Op.move (Operand.tmp 5), type := 3, pos := "l09_memory.go:38", after := #[], guard := none }
theorem hP4_0 : opsP4[0]? = some qP4_0 := by kernel_rfl
theorem lP4_0 : (LP4 0).setIfInBounds 0 true = LP4 1 := by kernel_rfl
theorem tP4_0 {Q : Exit → Act → World → Prop} {S : World → Prop} {a : Act} {w : World} (v : Value) (hQ : ∀ c a w, Q (.panic c) (a.put (some 13) v) w → Q (.panic c) a w) (hy : YieldsIf Tryz.prog opsP4 S qP4_0 v a) (hS : S w)
    (h : wpAnyH Tryz.prog .any opsP4 Q S 12 (LP4 1) (a.put (some 13) v) w) : wpAnyH Tryz.prog .any opsP4 Q S 13 (LP4 0) a w :=
  wpAnyH_take (i := 0) hP4_0 noselP4 (by kernel_rfl) (by kernel_rfl) hQ hy hS (lP4_0.symm ▸ h)
def qP4_1 : Oper := { dst := some 14, op := Op.move (Operand.tmp 0), type := 30, pos := "l09_memory.go:38", after := #[], guard := none }
theorem hP4_1 : opsP4[1]? = some qP4_1 := by kernel_rfl
theorem lP4_1 : (LP4 1).setIfInBounds 1 true = LP4 2 := by kernel_rfl
theorem tP4_1 {Q : Exit → Act → World → Prop} {S : World → Prop} {a : Act} {w : World} (v : Value) (hQ : ∀ c a w, Q (.panic c) (a.put (some 14) v) w → Q (.panic c) a w) (hy : YieldsIf Tryz.prog opsP4 S qP4_1 v a) (hS : S w)
    (h : wpAnyH Tryz.prog .any opsP4 Q S 11 (LP4 2) (a.put (some 14) v) w) : wpAnyH Tryz.prog .any opsP4 Q S 12 (LP4 1) a w :=
  wpAnyH_take (i := 1) hP4_1 noselP4 (by kernel_rfl) (by kernel_rfl) hQ hy hS (lP4_1.symm ▸ h)
def qP4_2 : Oper := { dst := some 15, op := Op.call { callee := Callee.builtin Builtin.len, args := #[Operand.tmp 14], argTypes := #[30] }, type := 3, pos := "l09_memory.go:38", after := #[{ on := 1, ground := Ground.data }], guard := none }
theorem hP4_2 : opsP4[2]? = some qP4_2 := by kernel_rfl
theorem lP4_2 : (LP4 2).setIfInBounds 2 true = LP4 3 := by kernel_rfl
theorem tP4_2 {Q : Exit → Act → World → Prop} {S : World → Prop} {a : Act} {w : World} (v : Value) (hQ : ∀ c a w, Q (.panic c) (a.put (some 15) v) w → Q (.panic c) a w) (hy : YieldsIf Tryz.prog opsP4 S qP4_2 v a) (hS : S w)
    (h : wpAnyH Tryz.prog .any opsP4 Q S 10 (LP4 3) (a.put (some 15) v) w) : wpAnyH Tryz.prog .any opsP4 Q S 11 (LP4 2) a w :=
  wpAnyH_take (i := 2) hP4_2 noselP4 (by kernel_rfl) (by kernel_rfl) hQ hy hS (lP4_2.symm ▸ h)
def qP4_3 : Oper := { dst := some 16, op := Op.binOp BinOp.lss 3 (Operand.tmp 13) (Operand.tmp 15) 3, type := 4, pos := "l09_memory.go:38", after := #[{ on := 0, ground := Ground.data }, { on := 2, ground := Ground.data }], guard := none }
theorem hP4_3 : opsP4[3]? = some qP4_3 := by kernel_rfl
theorem lP4_3 : (LP4 3).setIfInBounds 3 true = LP4 4 := by kernel_rfl
theorem tP4_3 {Q : Exit → Act → World → Prop} {S : World → Prop} {a : Act} {w : World} (v : Value) (hQ : ∀ c a w, Q (.panic c) (a.put (some 16) v) w → Q (.panic c) a w) (hy : YieldsIf Tryz.prog opsP4 S qP4_3 v a) (hS : S w)
    (h : wpAnyH Tryz.prog .any opsP4 Q S 9 (LP4 4) (a.put (some 16) v) w) : wpAnyH Tryz.prog .any opsP4 Q S 10 (LP4 3) a w :=
  wpAnyH_take (i := 3) hP4_3 noselP4 (by kernel_rfl) (by kernel_rfl) hQ hy hS (lP4_3.symm ▸ h)
def qP4_4 : Oper := { dst := some 17, op := Op.move (Operand.tmp 16), type := 4, pos := "l09_memory.go:38", after := #[{ on := 3, ground := Ground.data }], guard := none }
theorem hP4_4 : opsP4[4]? = some qP4_4 := by kernel_rfl
theorem lP4_4 : (LP4 4).setIfInBounds 4 true = LP4 5 := by kernel_rfl
theorem tP4_4 {Q : Exit → Act → World → Prop} {S : World → Prop} {a : Act} {w : World} (v : Value) (hQ : ∀ c a w, Q (.panic c) (a.put (some 17) v) w → Q (.panic c) a w) (hy : YieldsIf Tryz.prog opsP4 S qP4_4 v a) (hS : S w)
    (h : wpAnyH Tryz.prog .any opsP4 Q S 8 (LP4 5) (a.put (some 17) v) w) : wpAnyH Tryz.prog .any opsP4 Q S 9 (LP4 4) a w :=
  wpAnyH_take (i := 4) hP4_4 noselP4 (by kernel_rfl) (by kernel_rfl) hQ hy hS (lP4_4.symm ▸ h)
def qP4_5 : Oper := { dst := some 18, op := Op.move (Operand.tmp 0), type := 30, pos := "l09_memory.go:38", after := #[{ on := 4, ground := Ground.guard }], guard := some (4, true) }
theorem hP4_5 : opsP4[5]? = some qP4_5 := by kernel_rfl
theorem lP4_5 : (LP4 5).setIfInBounds 5 true = LP4 6 := by kernel_rfl
theorem tP4_5 {Q : Exit → Act → World → Prop} {S : World → Prop} {a : Act} {w : World} (v : Value) (hQ : ∀ c a w, Q (.panic c) (a.put (some 18) v) w → Q (.panic c) a w) (hy : YieldsIf Tryz.prog opsP4 S qP4_5 v a) (hS : S w)
    (h : wpAnyH Tryz.prog .any opsP4 Q S 7 (LP4 6) (a.put (some 18) v) w) : wpAnyH Tryz.prog .any opsP4 Q S 8 (LP4 5) a w :=
  wpAnyH_take (i := 5) hP4_5 noselP4 (by kernel_rfl) (by kernel_rfl) hQ hy hS (lP4_5.symm ▸ h)
def qP4_6 : Oper := { dst := some 19, op := Op.move (Operand.tmp 5), type := 3, pos := "l09_memory.go:38", after := #[{ on := 4, ground := Ground.guard }], guard := some (4, true) }
theorem hP4_6 : opsP4[6]? = some qP4_6 := by kernel_rfl
theorem lP4_6 : (LP4 6).setIfInBounds 6 true = LP4 7 := by kernel_rfl
theorem tP4_6 {Q : Exit → Act → World → Prop} {S : World → Prop} {a : Act} {w : World} (v : Value) (hQ : ∀ c a w, Q (.panic c) (a.put (some 19) v) w → Q (.panic c) a w) (hy : YieldsIf Tryz.prog opsP4 S qP4_6 v a) (hS : S w)
    (h : wpAnyH Tryz.prog .any opsP4 Q S 6 (LP4 7) (a.put (some 19) v) w) : wpAnyH Tryz.prog .any opsP4 Q S 7 (LP4 6) a w :=
  wpAnyH_take (i := 6) hP4_6 noselP4 (by kernel_rfl) (by kernel_rfl) hQ hy hS (lP4_6.symm ▸ h)
def qP4_7 : Oper := { dst := some 20, op := Op.indexAddr 30 (Operand.tmp 18) (Operand.tmp 19), type := 0, pos := "l09_memory.go:38", after := #[{ on := 5, ground := Ground.data }, { on := 6, ground := Ground.data }, { on := 4, ground := Ground.guard }], guard := some (4, true) }
theorem hP4_7 : opsP4[7]? = some qP4_7 := by kernel_rfl
theorem lP4_7 : (LP4 7).setIfInBounds 7 true = LP4 8 := by kernel_rfl
theorem tP4_7 {Q : Exit → Act → World → Prop} {S : World → Prop} {a : Act} {w : World} (v : Value) (hQ : ∀ c a w, Q (.panic c) (a.put (some 20) v) w → Q (.panic c) a w) (hy : YieldsIf Tryz.prog opsP4 S qP4_7 v a) (hS : S w)
    (h : wpAnyH Tryz.prog .any opsP4 Q S 5 (LP4 8) (a.put (some 20) v) w) : wpAnyH Tryz.prog .any opsP4 Q S 6 (LP4 7) a w :=
  wpAnyH_take (i := 7) hP4_7 noselP4 (by kernel_rfl) (by kernel_rfl) hQ hy hS (lP4_7.symm ▸ h)
def qP4_8 : Oper := { dst := some 21, op := Op.load 57 (Operand.tmp 20), type := 57, pos := "l09_memory.go:38", after := #[{ on := 7, ground := Ground.data }, { on := 4, ground := Ground.guard }], guard := some (4, true) }
theorem hP4_8 : opsP4[8]? = some qP4_8 := by kernel_rfl
theorem lP4_8 : (LP4 8).setIfInBounds 8 true = LP4 9 := by kernel_rfl
theorem tP4_8 {Q : Exit → Act → World → Prop} {S : World → Prop} {a : Act} {w : World} (v : Value) (hQ : ∀ c a w, Q (.panic c) (a.put (some 21) v) w → Q (.panic c) a w) (hy : YieldsIf Tryz.prog opsP4 S qP4_8 v a) (hS : S w)
    (h : wpAnyH Tryz.prog .any opsP4 Q S 4 (LP4 9) (a.put (some 21) v) w) : wpAnyH Tryz.prog .any opsP4 Q S 5 (LP4 8) a w :=
  wpAnyH_take (i := 8) hP4_8 noselP4 (by kernel_rfl) (by kernel_rfl) hQ hy hS (lP4_8.symm ▸ h)
def qP4_9 : Oper := { dst := some 22, op := Op.load 57 (Operand.tmp 3), type := 57, pos := "l09_memory.go:38", after := #[{ on := 4, ground := Ground.guard }], guard := some (4, true) }
theorem hP4_9 : opsP4[9]? = some qP4_9 := by kernel_rfl
theorem lP4_9 : (LP4 9).setIfInBounds 9 true = LP4 10 := by kernel_rfl
theorem tP4_9 {Q : Exit → Act → World → Prop} {S : World → Prop} {a : Act} {w : World} (v : Value) (hQ : ∀ c a w, Q (.panic c) (a.put (some 22) v) w → Q (.panic c) a w) (hy : YieldsIf Tryz.prog opsP4 S qP4_9 v a) (hS : S w)
    (h : wpAnyH Tryz.prog .any opsP4 Q S 3 (LP4 10) (a.put (some 22) v) w) : wpAnyH Tryz.prog .any opsP4 Q S 4 (LP4 9) a w :=
  wpAnyH_take (i := 9) hP4_9 noselP4 (by kernel_rfl) (by kernel_rfl) hQ hy hS (lP4_9.symm ▸ h)
def qP4_10 : Oper := { dst := some 23, op := Op.call { callee := Callee.value (Operand.func 68), args := #[Operand.tmp 21, Operand.tmp 22], argTypes := #[57, 57] }, type := 3, pos := "l09_memory.go:38", after := #[{ on := 8, ground := Ground.data }, { on := 9, ground := Ground.data }, { on := 4, ground := Ground.chain }, { on := 4, ground := Ground.guard }], guard := some (4, true) }
theorem hP4_10 : opsP4[10]? = some qP4_10 := by kernel_rfl
theorem lP4_10 : (LP4 10).setIfInBounds 10 true = LP4 11 := by kernel_rfl
set_option maxRecDepth 100000 in
theorem cP4_10 {Q : Exit → Act → World → Prop} {S : World → Prop} {a : Act} {w : World}
    (h : ∀ K' : Act → World → Prop, Shut (∀ a w, S w → (S w → wpAnyH Tryz.prog .any opsP4 Q S 2 (LP4 11) a w) → K' a w) → if Region.wanted qP4_10 (yielded opsP4 a.tmps) = true then Oper.wp Tryz.prog qP4_10 a w K' Q else K' (a.put (some 23) undef) w) :
    wpAnyH Tryz.prog .any opsP4 Q S 3 (LP4 10) a w :=
  wpAnyH_ready (rs := [10]) (by kernel_rfl) (by simp) (AllReadyH.cons hP4_10 (fun K' hK => h K' (lP4_10 ▸ hK)) AllReadyH.nil)
theorem tP4_10 {Q : Exit → Act → World → Prop} {S : World → Prop} {a : Act} {w : World} (v : Value) (hQ : ∀ c a w, Q (.panic c) (a.put (some 23) v) w → Q (.panic c) a w) (hy : YieldsIf Tryz.prog opsP4 S qP4_10 v a) (hS : S w)
    (h : wpAnyH Tryz.prog .any opsP4 Q S 2 (LP4 11) (a.put (some 23) v) w) : wpAnyH Tryz.prog .any opsP4 Q S 3 (LP4 10) a w :=
  wpAnyH_take (i := 10) hP4_10 noselP4 (by kernel_rfl) (by kernel_rfl) hQ hy hS (lP4_10.symm ▸ h)
def qP4_11 : Oper := { dst := some 24, op := Op.binOp BinOp.lss 3 (Operand.tmp 23) (Operand.const (Value.int IntKind.i64 0)) 3, type := 4, pos := "l09_memory.go:38", after := #[{ on := 10, ground := Ground.data }, { on := 4, ground := Ground.guard }], guard := some (4, true) }
theorem hP4_11 : opsP4[11]? = some qP4_11 := by kernel_rfl
theorem lP4_11 : (LP4 11).setIfInBounds 11 true = LP4 12 := by kernel_rfl
theorem tP4_11 {Q : Exit → Act → World → Prop} {S : World → Prop} {a : Act} {w : World} (v : Value) (hQ : ∀ c a w, Q (.panic c) (a.put (some 24) v) w → Q (.panic c) a w) (hy : YieldsIf Tryz.prog opsP4 S qP4_11 v a) (hS : S w)
    (h : wpAnyH Tryz.prog .any opsP4 Q S 1 (LP4 12) (a.put (some 24) v) w) : wpAnyH Tryz.prog .any opsP4 Q S 2 (LP4 11) a w :=
  wpAnyH_take (i := 11) hP4_11 noselP4 (by kernel_rfl) (by kernel_rfl) hQ hy hS (lP4_11.symm ▸ h)
def qP4_12 : Oper := { dst := some 25, op := Op.pick (Operand.tmp 17) (Operand.tmp 24) (Operand.const (Value.bool false)), type := 4, pos := "l09_memory.go:38", after := #[{ on := 4, ground := Ground.data }, { on := 11, ground := Ground.data }], guard := none }
theorem hP4_12 : opsP4[12]? = some qP4_12 := by kernel_rfl
theorem lP4_12 : (LP4 12).setIfInBounds 12 true = LP4 13 := by kernel_rfl
theorem tP4_12 {Q : Exit → Act → World → Prop} {S : World → Prop} {a : Act} {w : World} (v : Value) (hQ : ∀ c a w, Q (.panic c) (a.put (some 25) v) w → Q (.panic c) a w) (hy : YieldsIf Tryz.prog opsP4 S qP4_12 v a) (hS : S w)
    (h : wpAnyH Tryz.prog .any opsP4 Q S 0 (LP4 13) (a.put (some 25) v) w) : wpAnyH Tryz.prog .any opsP4 Q S 1 (LP4 12) a w :=
  wpAnyH_take (i := 12) hP4_12 noselP4 (by kernel_rfl) (by kernel_rfl) hQ hy hS (lP4_12.symm ▸ h)
end Go.Proofs.YtlanmkimaambgaaGreat.hexes

