/-
  Chapter 9's plain functions as the reference has them: the contracts of spec.CellsOk, spec.HasCell, spec.LeastOf, spec.CellsOf, and of laws.sameCells.
-/
import Derived.Test.YtlmjmhdmhpkkkaaSpecCeOrd
import Derived.Laws.AppendOwnNone
namespace Go.Proofs.Ytlmjmhdmhpkkkaa.hexes
open Go.RowKit

theorem specCeOrd_is {p0 p1 p2 p3 q0 q1 q2 q3 v : Int} (h : ordCe (p0, p1, p2, p3) (q0, q1, q2, q3) = v) (W : World) : Calls Try.prog 30 #[.agg #[.int .i64 p0, .int .i64 p1, .int .i64 p2, .int .i64 p3], .agg #[.int .i64 q0, .int .i64 q1, .int .i64 q2, .int .i64 q3]] W fun e w' => e = .returned (.int .i64 v) ∧ Below W.heap.size W w' := by
  subst h; exact specCeOrd_any _ _ _ _ _ _ _ _ W

set_option maxRecDepth 100000 in
set_option maxHeartbeats 4000000 in
theorem specCesOk_any (n : Nat) (zs : List Ce) (hz : zs.length = n) (A : Option Addr) (c : Nat) (w : World) (h1 : Ces w A zs) (hn : n ≤ 4194304) :
    Calls Try.prog 17 #[.slice A n c] w fun e w' => e = .returned (.bool (okCes zs)) ∧ Below w.heap.size w w' := by
  have H1 := Lib.hid h1
  have HZ := Lib.hid hz
  clear h1 hz
  go_enter Try.func17, Try.ntmps17
  go_wp2
  go_loopw [3] (fun i wr => ∃ k : Nat, k ≤ n ∧ i = .int .i64 ((k + 1 : Nat) : Int) ∧ AscE (zs.take (k + 1)) ∧ Below w.heap.size w wr) (fun i _ => n + 1 - (intOf i).toNat)
  case atStart => exact ⟨0, Nat.zero_le _, rfl, asc_take1 zs, Below.refl _ _⟩
  case round =>
    obtain ⟨k, hk, rfl, ht, hb⟩ := hrel
    have HT := Lib.hid ht
    have HB := Lib.hid hb
    clear ht
    by_cases hlt : k + 1 < n
    · have l1 : k + 1 < zs.length := by rw [HZ.out]; exact hlt
      have l0 : k < zs.length := by omega
      obtain ⟨b1, o1, p0, p1, p2, p3, hA1, x1, e0, e1, e2, e3⟩ := (H1.out.below hb).at l0
      obtain ⟨b2, o2, q0, q1, q2, q3, hA2, x2, f0, f1, f2, f3⟩ := (H1.out.below hb).at l1
      subst hA1
      simp only [Option.some.injEq, Addr.mk.injEq, and_true] at hA2
      obtain ⟨rfl, rfl⟩ := hA2
      have X1 := Lib.hid x1
      have X2 := Lib.hid x2
      have i0 : (0 : Int) ≤ (k : Int) := by omega
      have i1 : (k : Int) < (n : Int) := by omega
      have j0 : (0 : Int) ≤ ((k + 1 : Nat) : Int) := by omega
      have j1 : ((k + 1 : Nat) : Int) < (n : Int) := by omega
      have m1 : IntKind.i64.wrap (((k + 1 : Nat) : Int) - 1) = (k : Int) := by rw [IntWalk.i64_in _ (by omega)]; omega
      obtain ⟨j, hj⟩ : ∃ j, k + 1 = j := ⟨_, rfl⟩
      rw [hj] at j0 j1 m1 f0 f1 f2 f3 ⊢
      obtain ⟨v, hv⟩ : ∃ v, ordCe (p0, p1, p2, p3) (q0, q1, q2, q3) = v := ⟨_, rfl⟩
      have E := Lib.hid (fun W => specCeOrd_is hv W)
      by_cases hneg : v < 0
      · have d0 : decide (v ≥ 0) = false := by simp; omega
        have d1 : decide (0 ≤ v) = false := by simp; omega
        have HT2 := Lib.hid (asc_step l1 HT.out (by rw [X1.out, X2.out]; exact (ordCe_neg _ _).1 (by rw [hv]; exact hneg)))
        have HJ := Lib.hid hj
        clear hb x1 x2 hv HT X1 X2 l1 l0 hj hneg
        go_wp2_with fail
        go_region_held3 (fun w' => w'.cell? ⟨b1, o1 + k * 4, none⟩ = some (.int .i64 p0) ∧ w'.cell? ⟨b1, o1 + k * 4 + 1, none⟩ = some (.int .i64 p1) ∧ w'.cell? ⟨b1, o1 + k * 4 + 2, none⟩ = some (.int .i64 p2) ∧ w'.cell? ⟨b1, o1 + k * 4 + 3, none⟩ = some (.int .i64 p3) ∧ w'.cell? ⟨b1, o1 + j * 4, none⟩ = some (.int .i64 q0) ∧ w'.cell? ⟨b1, o1 + j * 4 + 1, none⟩ = some (.int .i64 q1) ∧ w'.cell? ⟨b1, o1 + j * 4 + 2, none⟩ = some (.int .i64 q2) ∧ w'.cell? ⟨b1, o1 + j * 4 + 3, none⟩ = some (.int .i64 q3))
          (((try go_split_ands); refine ⟨?_, ?_, ?_, ?_, ?_, ?_, ?_, ?_⟩ <;> (repeat (first | with_reducible assumption | with_reducible refine drew_keep ?_ | with_reducible refine below_keep hbd ?_))))
          (first | (go_at_call 30; with_reducible refine (E.out _).mono ?_; rintro e w5 ⟨rfl, hbd⟩))
        have B5 := below_chain HB.out.drew hbd
        clear hbd
        go_wp2
        go_roundw
        case rel => exact ⟨k + 1, by omega, by rw [← HJ.out]; go_num, HT2.out, B5⟩
        case measure => have := HJ.out; simp [intOf]; omega
      · have d0 : decide (v ≥ 0) = true := by simp; omega
        have d1 : decide (0 ≤ v) = true := by simp; omega
        have HN := Lib.hid (asc_bad l1 (by rw [X1.out, X2.out]; exact fun h => hneg (by rw [← hv]; exact (ordCe_neg _ _).2 h)))
        clear hb x1 x2 hv HT X1 X2 l1 l0 hj hneg
        go_wp2_with fail
        go_region_held3 (fun w' => w'.cell? ⟨b1, o1 + k * 4, none⟩ = some (.int .i64 p0) ∧ w'.cell? ⟨b1, o1 + k * 4 + 1, none⟩ = some (.int .i64 p1) ∧ w'.cell? ⟨b1, o1 + k * 4 + 2, none⟩ = some (.int .i64 p2) ∧ w'.cell? ⟨b1, o1 + k * 4 + 3, none⟩ = some (.int .i64 p3) ∧ w'.cell? ⟨b1, o1 + j * 4, none⟩ = some (.int .i64 q0) ∧ w'.cell? ⟨b1, o1 + j * 4 + 1, none⟩ = some (.int .i64 q1) ∧ w'.cell? ⟨b1, o1 + j * 4 + 2, none⟩ = some (.int .i64 q2) ∧ w'.cell? ⟨b1, o1 + j * 4 + 3, none⟩ = some (.int .i64 q3))
          (((try go_split_ands); refine ⟨?_, ?_, ?_, ?_, ?_, ?_, ?_, ?_⟩ <;> (repeat (first | with_reducible assumption | with_reducible refine drew_keep ?_ | with_reducible refine below_keep hbd ?_))))
          (first | (go_at_call 30; with_reducible refine (E.out _).mono ?_; rintro e w5 ⟨rfl, hbd⟩))
        have B5 := below_chain HB.out.drew hbd
        clear hbd
        go_wp2
        go_ret
        exact ⟨congrArg (fun b => Ending.returned (Value.bool b)) HN.out.symm, B5⟩
    · have HF := Lib.hid (asc_all (k := k + 1) (by rw [HZ.out]; omega) HT.out)
      have hd : decide (((k + 1 : Nat) : Int) < (n : Int)) = false := by simp; omega
      clear hb
      go_wp2
      go_ret
      exact ⟨congrArg (fun b => Ending.returned (Value.bool b)) HF.out.symm, HB.out⟩

set_option maxRecDepth 100000 in
set_option maxHeartbeats 4000000 in
theorem specHas_any (n : Nat) (zs : List Ce) (hz : zs.length = n) (A : Option Addr) (c : Nat) (x0 x1 x2 x3 : Int) (w : World) (h1 : Ces w A zs) (hn : n ≤ 4194304) :
    Calls Try.prog 38 #[.slice A n c, .agg #[.int .i64 x0, .int .i64 x1, .int .i64 x2, .int .i64 x3]] w fun e w' => e = .returned (.bool (hasC zs (x0, x1, x2, x3))) ∧ Below w.heap.size w w' := by
  have H1 := Lib.hid h1
  have HZ := Lib.hid hz
  clear h1 hz
  go_enter Try.func38, Try.ntmps38
  go_wp2
  go_loopw [5] (fun i wr => ∃ k : Nat, k ≤ n ∧ i = .int .i64 k ∧ (x0, x1, x2, x3) ∉ zs.take k ∧ Below w.heap.size w wr ∧ wr.cell? ⟨w.heap.size, 0, none⟩ = some (.int .i64 x0) ∧ wr.cell? ⟨w.heap.size, 1, none⟩ = some (.int .i64 x1) ∧ wr.cell? ⟨w.heap.size, 2, none⟩ = some (.int .i64 x2) ∧ wr.cell? ⟨w.heap.size, 3, none⟩ = some (.int .i64 x3)) (fun i _ => n - (intOf i).toNat)
  case atStart => exact ⟨0, Nat.zero_le _, rfl, by simp, (Below.refl _ _).alloc (Nat.le_refl _) _, by simp, by simp, by simp, by simp⟩
  case round =>
    obtain ⟨k, hk, rfl, ht, hb, s0, s1, s2, s3⟩ := hrel
    have HT := Lib.hid ht
    have HB := Lib.hid hb
    clear ht
    by_cases hlt : k < n
    · have l1 : k < zs.length := by rw [HZ.out]; exact hlt
      obtain ⟨b1, o1, p0, p1, p2, p3, rfl, xz, e0, e1, e2, e3⟩ := (H1.out.below hb).at l1
      have X1 := Lib.hid xz
      have i0 : (0 : Int) ≤ (k : Int) := by omega
      have i1 : (k : Int) < (n : Int) := by omega
      clear hb xz
      by_cases he : p0 = x0 ∧ p1 = x1 ∧ p2 = x2 ∧ p3 = x3
      · obtain ⟨rfl, rfl, rfl, rfl⟩ := he
        have HF := Lib.hid (hasC_hit l1 X1.out)
        clear HT X1 l1
        go_wp2_with fail
        go_region_held3 (fun w' => w'.cell? ⟨b1, o1 + k * 4, none⟩ = some (.int .i64 p0) ∧ w'.cell? ⟨b1, o1 + k * 4 + 1, none⟩ = some (.int .i64 p1) ∧ w'.cell? ⟨b1, o1 + k * 4 + 2, none⟩ = some (.int .i64 p2) ∧ w'.cell? ⟨b1, o1 + k * 4 + 3, none⟩ = some (.int .i64 p3) ∧ w'.cell? ⟨w.heap.size, 0, none⟩ = some (.int .i64 p0) ∧ w'.cell? ⟨w.heap.size, 1, none⟩ = some (.int .i64 p1) ∧ w'.cell? ⟨w.heap.size, 2, none⟩ = some (.int .i64 p2) ∧ w'.cell? ⟨w.heap.size, 3, none⟩ = some (.int .i64 p3))
          (((try go_split_ands); refine ⟨?_, ?_, ?_, ?_, ?_, ?_, ?_, ?_⟩ <;> (repeat (first | with_reducible assumption | with_reducible refine drew_keep ?_))))
          (fail)
        go_wp2
        go_ret
        exact ⟨congrArg (fun b => Ending.returned (Value.bool b)) HF.out.symm, HB.out.drew⟩
      · have HT2 := Lib.hid (hasC_step l1 HT.out (by rw [X1.out]; exact fun h => he (by simpa [Prod.mk.injEq] using h)))
        clear HT X1 l1
        by_cases h0 : p0 = x0
        · subst h0
          by_cases h1 : p1 = x1
          · subst h1
            by_cases h2 : p2 = x2
            · subst h2
              have h3 : ¬p3 = x3 := fun h => he (by simp [h])
              clear he
              go_wp2_with fail
              go_region_held3 (fun w' => w'.cell? ⟨b1, o1 + k * 4, none⟩ = some (.int .i64 p0) ∧ w'.cell? ⟨b1, o1 + k * 4 + 1, none⟩ = some (.int .i64 p1) ∧ w'.cell? ⟨b1, o1 + k * 4 + 2, none⟩ = some (.int .i64 p2) ∧ w'.cell? ⟨b1, o1 + k * 4 + 3, none⟩ = some (.int .i64 p3) ∧ w'.cell? ⟨w.heap.size, 0, none⟩ = some (.int .i64 p0) ∧ w'.cell? ⟨w.heap.size, 1, none⟩ = some (.int .i64 p1) ∧ w'.cell? ⟨w.heap.size, 2, none⟩ = some (.int .i64 p2) ∧ w'.cell? ⟨w.heap.size, 3, none⟩ = some (.int .i64 x3))
                (((try go_split_ands); refine ⟨?_, ?_, ?_, ?_, ?_, ?_, ?_, ?_⟩ <;> (repeat (first | with_reducible assumption | with_reducible refine drew_keep ?_))))
                (fail)
              have T0 := drew_keep s0
              have T1 := drew_keep s1
              have T2 := drew_keep s2
              have T3 := drew_keep s3
              go_wp2
              go_roundw
              case rel => exact ⟨k + 1, by omega, by go_num, HT2.out, HB.out.drew, T0, T1, T2, T3⟩
              case measure => simp [intOf]; omega
            · clear he
              go_wp2_with fail
              go_region_held3 (fun w' => w'.cell? ⟨b1, o1 + k * 4, none⟩ = some (.int .i64 p0) ∧ w'.cell? ⟨b1, o1 + k * 4 + 1, none⟩ = some (.int .i64 p1) ∧ w'.cell? ⟨b1, o1 + k * 4 + 2, none⟩ = some (.int .i64 p2) ∧ w'.cell? ⟨b1, o1 + k * 4 + 3, none⟩ = some (.int .i64 p3) ∧ w'.cell? ⟨w.heap.size, 0, none⟩ = some (.int .i64 p0) ∧ w'.cell? ⟨w.heap.size, 1, none⟩ = some (.int .i64 p1) ∧ w'.cell? ⟨w.heap.size, 2, none⟩ = some (.int .i64 x2) ∧ w'.cell? ⟨w.heap.size, 3, none⟩ = some (.int .i64 x3))
                (((try go_split_ands); refine ⟨?_, ?_, ?_, ?_, ?_, ?_, ?_, ?_⟩ <;> (repeat (first | with_reducible assumption | with_reducible refine drew_keep ?_))))
                (fail)
              have T0 := drew_keep s0
              have T1 := drew_keep s1
              have T2 := drew_keep s2
              have T3 := drew_keep s3
              go_wp2
              go_roundw
              case rel => exact ⟨k + 1, by omega, by go_num, HT2.out, HB.out.drew, T0, T1, T2, T3⟩
              case measure => simp [intOf]; omega
          · clear he
            go_wp2_with fail
            go_region_held3 (fun w' => w'.cell? ⟨b1, o1 + k * 4, none⟩ = some (.int .i64 p0) ∧ w'.cell? ⟨b1, o1 + k * 4 + 1, none⟩ = some (.int .i64 p1) ∧ w'.cell? ⟨b1, o1 + k * 4 + 2, none⟩ = some (.int .i64 p2) ∧ w'.cell? ⟨b1, o1 + k * 4 + 3, none⟩ = some (.int .i64 p3) ∧ w'.cell? ⟨w.heap.size, 0, none⟩ = some (.int .i64 p0) ∧ w'.cell? ⟨w.heap.size, 1, none⟩ = some (.int .i64 x1) ∧ w'.cell? ⟨w.heap.size, 2, none⟩ = some (.int .i64 x2) ∧ w'.cell? ⟨w.heap.size, 3, none⟩ = some (.int .i64 x3))
              (((try go_split_ands); refine ⟨?_, ?_, ?_, ?_, ?_, ?_, ?_, ?_⟩ <;> (repeat (first | with_reducible assumption | with_reducible refine drew_keep ?_))))
              (fail)
            have T0 := drew_keep s0
            have T1 := drew_keep s1
            have T2 := drew_keep s2
            have T3 := drew_keep s3
            go_wp2
            go_roundw
            case rel => exact ⟨k + 1, by omega, by go_num, HT2.out, HB.out.drew, T0, T1, T2, T3⟩
            case measure => simp [intOf]; omega
        · clear he
          go_wp2_with fail
          go_region_held3 (fun w' => w'.cell? ⟨b1, o1 + k * 4, none⟩ = some (.int .i64 p0) ∧ w'.cell? ⟨b1, o1 + k * 4 + 1, none⟩ = some (.int .i64 p1) ∧ w'.cell? ⟨b1, o1 + k * 4 + 2, none⟩ = some (.int .i64 p2) ∧ w'.cell? ⟨b1, o1 + k * 4 + 3, none⟩ = some (.int .i64 p3) ∧ w'.cell? ⟨w.heap.size, 0, none⟩ = some (.int .i64 x0) ∧ w'.cell? ⟨w.heap.size, 1, none⟩ = some (.int .i64 x1) ∧ w'.cell? ⟨w.heap.size, 2, none⟩ = some (.int .i64 x2) ∧ w'.cell? ⟨w.heap.size, 3, none⟩ = some (.int .i64 x3))
            (((try go_split_ands); refine ⟨?_, ?_, ?_, ?_, ?_, ?_, ?_, ?_⟩ <;> (repeat (first | with_reducible assumption | with_reducible refine drew_keep ?_))))
            (fail)
          have T0 := drew_keep s0
          have T1 := drew_keep s1
          have T2 := drew_keep s2
          have T3 := drew_keep s3
          go_wp2
          go_roundw
          case rel => exact ⟨k + 1, by omega, by go_num, HT2.out, HB.out.drew, T0, T1, T2, T3⟩
          case measure => simp [intOf]; omega
    · have HF := Lib.hid (hasC_miss (k := k) (by rw [HZ.out]; omega) HT.out)
      clear hb
      go_wp2
      go_ret
      exact ⟨congrArg (fun b => Ending.returned (Value.bool b)) HF.out.symm, HB.out⟩

set_option maxRecDepth 100000 in
set_option maxHeartbeats 4000000 in
theorem specLeast_any (n : Nat) (zs : List Ce) (hz : zs.length = n) (A : Option Addr) (c : Nat) (o ep ky : Int) (w : World) (h1 : Ces w A zs) (hn : n ≤ 4194304) :
    Calls Try.prog 22 #[.slice A n c, .int .i64 o, .int .i64 ep, .int .i64 ky] w fun e w' => e = .returned (.tuple #[.int .i64 (leastC zs o ep ky).1, .bool (leastC zs o ep ky).2]) ∧ Below w.heap.size w w' := by
  have H1 := Lib.hid h1
  have HZ := Lib.hid hz
  clear h1 hz
  go_enter Try.func22, Try.ntmps22
  go_wp2
  go_loopw [10, 11, 12] (fun a b i wr => ∃ (k : Nat) (m : Int) (some : Bool), k ≤ n ∧ i = .int .i64 k ∧ a = .int .i64 m ∧ b = .bool some ∧ leastC (zs.take k) o ep ky = (m, some) ∧ Below w.heap.size w wr) (fun _ _ i _ => n - (intOf i).toNat)
  case atStart => exact ⟨0, 0, false, Nat.zero_le _, rfl, rfl, rfl, rfl, Below.refl _ _⟩
  case round =>
    obtain ⟨k, m, some, hk, rfl, rfl, rfl, ht, hb⟩ := hrel
    have HT := Lib.hid ht
    have HB := Lib.hid hb
    clear ht
    by_cases hlt : k < n
    · have l1 : k < zs.length := by rw [HZ.out]; exact hlt
      obtain ⟨b1, o1, p0, p1, p2, p3, rfl, x1, e0, e1, e2, e3⟩ := (H1.out.below hb).at l1
      have i0 : (0 : Int) ≤ (k : Int) := by omega
      have i1 : (k : Int) < (n : Int) := by omega
      have BA := Lib.hid (HB.out.alloc HB.out.size (.cells #[.int .i64 p0, .int .i64 p1, .int .i64 p2, .int .i64 p3] 26))
      have ST := Lib.hid (show leastC (zs.take (k + 1)) o ep ky = leastStep o ep ky (m, some) (p0, p1, p2, p3) by rw [least_step l1, HT.out, x1])
      clear hb x1 HT l1
      by_cases h0 : p0 = o
      rotate_left
      · have HS := Lib.hid (show leastC (zs.take (k + 1)) o ep ky = (m, some) by rw [ST.out]; simp [leastStep, keyC, h0])
        have d0 : (p0 == o) = false := by simpa using h0
        clear ST h0
        skip
        go_wp2
        go_roundw
        case rel => exact ⟨k + 1, m, some, by omega, by go_num, rfl, rfl, HS.out, BA.out⟩
        case measure => simp [intOf]; omega
      have d0 : (p0 == o) = true := by simpa using h0
      by_cases h1 : p1 = ep
      rotate_left
      · have HS := Lib.hid (show leastC (zs.take (k + 1)) o ep ky = (m, some) by rw [ST.out]; simp [leastStep, keyC, h1])
        have d1 : (p1 == ep) = false := by simpa using h1
        clear ST h0 h1
        skip
        go_wp2
        go_roundw
        case rel => exact ⟨k + 1, m, some, by omega, by go_num, rfl, rfl, HS.out, BA.out⟩
        case measure => simp [intOf]; omega
      have d1 : (p1 == ep) = true := by simpa using h1
      by_cases h2 : p2 = ky
      rotate_left
      · have HS := Lib.hid (show leastC (zs.take (k + 1)) o ep ky = (m, some) by rw [ST.out]; simp [leastStep, keyC, h2])
        have d2 : (p2 == ky) = false := by simpa using h2
        clear ST h0 h1 h2
        skip
        go_wp2
        go_roundw
        case rel => exact ⟨k + 1, m, some, by omega, by go_num, rfl, rfl, HS.out, BA.out⟩
        case measure => simp [intOf]; omega
      have d2 : (p2 == ky) = true := by simpa using h2
      cases some with
      | false =>
        have HS := Lib.hid (show leastC (zs.take (k + 1)) o ep ky = (p3, true) by rw [ST.out]; simp [leastStep, keyC, h0, h1, h2])
        clear ST h0 h1 h2
        skip
        go_wp2
        go_roundw
        case rel => exact ⟨k + 1, p3, true, by omega, by go_num, rfl, rfl, HS.out, BA.out⟩
        case measure => simp [intOf]; omega
      | true =>
        by_cases h3 : p3 < m
        · have HS := Lib.hid (show leastC (zs.take (k + 1)) o ep ky = (p3, true) by rw [ST.out]; simp [leastStep, keyC, h0, h1, h2, h3])
          have d3 : decide (p3 < m) = true := decide_eq_true h3
          clear ST h0 h1 h2 h3
          skip
          go_wp2
          go_roundw
          case rel => exact ⟨k + 1, p3, true, by omega, by go_num, rfl, rfl, HS.out, BA.out⟩
          case measure => simp [intOf]; omega
        · have HS := Lib.hid (show leastC (zs.take (k + 1)) o ep ky = (m, true) by rw [ST.out]; simp [leastStep, keyC, h0, h1, h2, h3])
          have d3 : decide (p3 < m) = false := decide_eq_false h3
          clear ST h0 h1 h2 h3
          skip
          go_wp2
          go_roundw
          case rel => exact ⟨k + 1, m, true, by omega, by go_num, rfl, rfl, HS.out, BA.out⟩
          case measure => simp [intOf]; omega
    · have hfin : leastC zs o ep ky = (m, some) := by rw [← HT.out, least_all (by rw [HZ.out]; omega)]
      have HF := Lib.hid hfin
      clear hb hfin
      go_wp2
      exact bodyPost_ret (v := .tuple #[.int .i64 m, .bool some]) (by simp [results, Try.results22, go_sem]) rfl ⟨by rw [HF.out], HB.out⟩

set_option maxRecDepth 100000 in
set_option maxHeartbeats 4000000 in
theorem specOf_any (n : Nat) (zs : List Ce) (hz : zs.length = n) (A : Option Addr) (c : Nat) (o ep : Int) (w : World) (h1 : Ces w A zs) (hn : n ≤ 2097152) :
    Calls Try.prog 28 #[.slice A n c, .int .i64 o, .int .i64 ep] w fun e w' => ∃ v, e = .returned v ∧ w'.ownsRow w.heap.size 26 4 v (ofC zs o ep).length (ceCells (ofC zs o ep)) ∧ Below w.heap.size w w' := by
  have H1 := Lib.hid h1
  have HZ := Lib.hid hz
  clear h1 hz
  go_enter Try.func28, Try.ntmps28
  go_wp2
  go_loopw [7, 8] (fun v i wr => ∃ (k m : Nat) (out : List Ce), k ≤ n ∧ out.length = m ∧ out = ofC (zs.take k) o ep ∧ i = .int .i64 k ∧ wr.ownsRow w.heap.size 26 4 v m (ceCells out) ∧ Below w.heap.size w wr) (fun _ i _ => n - (intOf i).toNat)
  case atStart => exact ⟨0, 0, [], Nat.zero_le _, rfl, rfl, rfl, World.ownsRow_lit w #[] 0 (Nat.le_refl _) (by decide) rfl, (Below.refl _ _).alloc (Nat.le_refl _) _⟩
  case round =>
    obtain ⟨k, m, out, hk, hml, hout, rfl, hown, hb⟩ := hrel
    have ML := Lib.hid hml
    have HU := Lib.hid hout
    have HO := Lib.hid hown
    have HB := Lib.hid hb
    have hmn : m ≤ n := by
      have := of_len (zs.take k) o ep
      rw [← HU.out, ML.out, List.length_take] at this
      omega
    clear hml hout hown hb
    by_cases hlt : k < n
    · have l1 : k < zs.length := by rw [HZ.out]; exact hlt
      obtain ⟨b1, o1, p0, p1, p2, p3, rfl, x1, e0, e1, e2, e3⟩ := (H1.out.below HB.out).at l1
      have i0 : (0 : Int) ≤ (k : Int) := by omega
      have i1 : (k : Int) < (n : Int) := by omega
      have ST := Lib.hid (show ofC (zs.take (k + 1)) o ep = out ++ (if p0 = o ∧ p1 = ep then [(p0, p1, p2, p3)] else []) by rw [of_step l1, ← HU.out, x1])
      clear x1 l1 HU
      by_cases h0 : p0 = o
      rotate_left
      · have HS := Lib.hid (show out = ofC (zs.take (k + 1)) o ep by rw [ST.out]; simp [h0])
        have d0 : (p0 == o) = false := by simpa using h0
        clear ST h0
        go_wp2
        go_roundw
        case rel => exact ⟨k + 1, m, out, by omega, ML.out, HS.out, by go_num, HO.out, HB.out⟩
        case measure => simp [intOf]; omega
      have d0 : (p0 == o) = true := by simpa using h0
      by_cases h1 : p1 = ep
      rotate_left
      · have HS := Lib.hid (show out = ofC (zs.take (k + 1)) o ep by rw [ST.out]; simp [h1])
        have d1 : (p1 == ep) = false := by simpa using h1
        clear ST h0 h1
        go_wp2
        go_roundw
        case rel => exact ⟨k + 1, m, out, by omega, ML.out, HS.out, by go_num, HO.out, HB.out⟩
        case measure => simp [intOf]; omega
      have d1 : (p1 == ep) = true := by simpa using h1
      have HS := Lib.hid (show out ++ [(p0, p1, p2, p3)] = ofC (zs.take (k + 1)) o ep by rw [ST.out]; simp [h0, h1])
      clear ST h0 h1
      go_wp2_with (at_builtin; refine wpList_append_ce rfl (.tmp 32) (.tmp 37) (by rfl) w.heap.size _ m out (by rfl) (HO.out.alloc _) (some ⟨wr.heap.size, 0, none⟩) 1 1 [(p0, p1, p2, p3)] (by rfl) (fun h => by cases h) rfl (ce_new wr p0 p1 p2 p3) (by omega) (Nat.le_trans HB.out.size (by simp)) ?_; intro v8 w8 own8 gr8)
      have hb8 := (HB.out.alloc HB.out.size _).grown gr8 (Nat.le_trans HB.out.size (by simp)) (own_ge HO.out)
      have O8 := Lib.hid own8
      have B8 := Lib.hid hb8
      clear own8 gr8 hb8
      go_wp2
      go_roundw
      case rel => exact ⟨k + 1, m + 1, out ++ [(p0, p1, p2, p3)], by omega, by simp [ML.out], HS.out, by go_num, O8.out, B8.out⟩
      case measure => simp [intOf]; omega
    · have hfin : out = ofC zs o ep := by rw [HU.out, of_all (by rw [HZ.out]; omega)]
      subst hfin
      have ML2 := ML.out
      subst ML2
      go_wp2
      go_ret
      exact ⟨_, rfl, HO.out, HB.out⟩

set_option maxRecDepth 100000 in
theorem ceSame_same (n : Nat) (zs ys : List Ce) (hz : zs.length = n) (hy : ys.length = n) (A1 A2 : Option Addr) (c1 c2 : Nat) (w : World) (h1 : Ces w A1 zs) (h2 : Ces w A2 ys) (hn : n ≤ 4194304) :
    Calls Try.prog 15 #[.slice A1 n c1, .slice A2 n c2] w fun e w' => e = .returned (.bool (decide (zs = ys))) ∧ Below w.heap.size w w' := by
  have H1 := Lib.hid h1
  have H2 := Lib.hid h2
  have HZ := Lib.hid hz
  have HY := Lib.hid hy
  clear h1 h2 hz hy
  go_enter Try.func15, Try.ntmps15
  go_wp2
  go_loopw [5] (fun i wr => ∃ k : Nat, k ≤ n ∧ i = .int .i64 k ∧ zs.take k = ys.take k ∧ Below w.heap.size w wr) (fun i _ => n - (intOf i).toNat)
  case atStart => exact ⟨0, Nat.zero_le _, rfl, rfl, Below.refl _ _⟩
  case round =>
    obtain ⟨k, hk, rfl, ht, hb⟩ := hrel
    have HT := Lib.hid ht
    have HB := Lib.hid hb
    by_cases hlt : k < n
    · have l1 : k < zs.length := by rw [HZ.out]; exact hlt
      have l2 : k < ys.length := by rw [HY.out]; exact hlt
      obtain ⟨b1, o1, p0, p1, p2, p3, rfl, x1, e0, e1, e2, e3⟩ := (H1.out.below hb).at l1
      obtain ⟨b2, o2, q0, q1, q2, q3, rfl, x2, f0, f1, f2, f3⟩ := (H2.out.below hb).at l2
      have X1 := Lib.hid x1
      have X2 := Lib.hid x2
      have i0 : (0 : Int) ≤ (k : Int) := by omega
      have i1 : (k : Int) < (n : Int) := by omega
      clear ht hb x1 x2
      by_cases he : p0 = q0 ∧ p1 = q1 ∧ p2 = q2 ∧ p3 = q3
      · obtain ⟨rfl, rfl, rfl, rfl⟩ := he
        have HT2 := Lib.hid (take_step_ce l1 l2 HT.out (X1.out.trans X2.out.symm))
        clear HT X1 X2 l1 l2
        go_wp2_with fail
        go_region_held3 (fun w' => w'.cell? ⟨b1, o1 + k * 4, none⟩ = some (.int .i64 p0) ∧ w'.cell? ⟨b1, o1 + k * 4 + 1, none⟩ = some (.int .i64 p1) ∧ w'.cell? ⟨b1, o1 + k * 4 + 2, none⟩ = some (.int .i64 p2) ∧ w'.cell? ⟨b1, o1 + k * 4 + 3, none⟩ = some (.int .i64 p3) ∧ w'.cell? ⟨b2, o2 + k * 4, none⟩ = some (.int .i64 p0) ∧ w'.cell? ⟨b2, o2 + k * 4 + 1, none⟩ = some (.int .i64 p1) ∧ w'.cell? ⟨b2, o2 + k * 4 + 2, none⟩ = some (.int .i64 p2) ∧ w'.cell? ⟨b2, o2 + k * 4 + 3, none⟩ = some (.int .i64 p3))
          (((try go_split_ands); refine ⟨?_, ?_, ?_, ?_, ?_, ?_, ?_, ?_⟩ <;> (repeat (first | with_reducible assumption | with_reducible refine drew_keep ?_))))
          (fail)
        go_wp2
        go_roundw
        case rel => exact ⟨k + 1, by omega, by go_num, HT2.out, HB.out.drew⟩
        case measure => simp [intOf]; omega
      · have hne : decide (zs = ys) = false := by
          simp only [decide_eq_false_iff_not]
          rintro rfl
          have := X1.out.symm.trans X2.out
          simp only [Prod.mk.injEq] at this
          exact he this
        have HN := Lib.hid hne
        clear HT X1 X2 l1 l2 hne
        by_cases h0 : p0 = q0
        · subst h0
          by_cases h1 : p1 = q1
          · subst h1
            by_cases h2 : p2 = q2
            · subst h2
              have h3 : ¬p3 = q3 := fun h => he (by simp [h])
              clear he
              go_wp2_with fail
              go_region_held3 (fun w' => w'.cell? ⟨b1, o1 + k * 4, none⟩ = some (.int .i64 p0) ∧ w'.cell? ⟨b1, o1 + k * 4 + 1, none⟩ = some (.int .i64 p1) ∧ w'.cell? ⟨b1, o1 + k * 4 + 2, none⟩ = some (.int .i64 p2) ∧ w'.cell? ⟨b1, o1 + k * 4 + 3, none⟩ = some (.int .i64 p3) ∧ w'.cell? ⟨b2, o2 + k * 4, none⟩ = some (.int .i64 p0) ∧ w'.cell? ⟨b2, o2 + k * 4 + 1, none⟩ = some (.int .i64 p1) ∧ w'.cell? ⟨b2, o2 + k * 4 + 2, none⟩ = some (.int .i64 p2) ∧ w'.cell? ⟨b2, o2 + k * 4 + 3, none⟩ = some (.int .i64 q3))
                (((try go_split_ands); refine ⟨?_, ?_, ?_, ?_, ?_, ?_, ?_, ?_⟩ <;> (repeat (first | with_reducible assumption | with_reducible refine drew_keep ?_))))
                (fail)
              go_wp2
              go_ret
              exact ⟨congrArg (fun b => Ending.returned (Value.bool b)) HN.out.symm, HB.out.drew⟩
            · skip
              clear he
              go_wp2_with fail
              go_region_held3 (fun w' => w'.cell? ⟨b1, o1 + k * 4, none⟩ = some (.int .i64 p0) ∧ w'.cell? ⟨b1, o1 + k * 4 + 1, none⟩ = some (.int .i64 p1) ∧ w'.cell? ⟨b1, o1 + k * 4 + 2, none⟩ = some (.int .i64 p2) ∧ w'.cell? ⟨b1, o1 + k * 4 + 3, none⟩ = some (.int .i64 p3) ∧ w'.cell? ⟨b2, o2 + k * 4, none⟩ = some (.int .i64 p0) ∧ w'.cell? ⟨b2, o2 + k * 4 + 1, none⟩ = some (.int .i64 p1) ∧ w'.cell? ⟨b2, o2 + k * 4 + 2, none⟩ = some (.int .i64 q2) ∧ w'.cell? ⟨b2, o2 + k * 4 + 3, none⟩ = some (.int .i64 q3))
                (((try go_split_ands); refine ⟨?_, ?_, ?_, ?_, ?_, ?_, ?_, ?_⟩ <;> (repeat (first | with_reducible assumption | with_reducible refine drew_keep ?_))))
                (fail)
              go_wp2
              go_ret
              exact ⟨congrArg (fun b => Ending.returned (Value.bool b)) HN.out.symm, HB.out.drew⟩
          · skip
            clear he
            go_wp2_with fail
            go_region_held3 (fun w' => w'.cell? ⟨b1, o1 + k * 4, none⟩ = some (.int .i64 p0) ∧ w'.cell? ⟨b1, o1 + k * 4 + 1, none⟩ = some (.int .i64 p1) ∧ w'.cell? ⟨b1, o1 + k * 4 + 2, none⟩ = some (.int .i64 p2) ∧ w'.cell? ⟨b1, o1 + k * 4 + 3, none⟩ = some (.int .i64 p3) ∧ w'.cell? ⟨b2, o2 + k * 4, none⟩ = some (.int .i64 p0) ∧ w'.cell? ⟨b2, o2 + k * 4 + 1, none⟩ = some (.int .i64 q1) ∧ w'.cell? ⟨b2, o2 + k * 4 + 2, none⟩ = some (.int .i64 q2) ∧ w'.cell? ⟨b2, o2 + k * 4 + 3, none⟩ = some (.int .i64 q3))
              (((try go_split_ands); refine ⟨?_, ?_, ?_, ?_, ?_, ?_, ?_, ?_⟩ <;> (repeat (first | with_reducible assumption | with_reducible refine drew_keep ?_))))
              (fail)
            go_wp2
            go_ret
            exact ⟨congrArg (fun b => Ending.returned (Value.bool b)) HN.out.symm, HB.out.drew⟩
        · skip
          clear he
          go_wp2_with fail
          go_region_held3 (fun w' => w'.cell? ⟨b1, o1 + k * 4, none⟩ = some (.int .i64 p0) ∧ w'.cell? ⟨b1, o1 + k * 4 + 1, none⟩ = some (.int .i64 p1) ∧ w'.cell? ⟨b1, o1 + k * 4 + 2, none⟩ = some (.int .i64 p2) ∧ w'.cell? ⟨b1, o1 + k * 4 + 3, none⟩ = some (.int .i64 p3) ∧ w'.cell? ⟨b2, o2 + k * 4, none⟩ = some (.int .i64 q0) ∧ w'.cell? ⟨b2, o2 + k * 4 + 1, none⟩ = some (.int .i64 q1) ∧ w'.cell? ⟨b2, o2 + k * 4 + 2, none⟩ = some (.int .i64 q2) ∧ w'.cell? ⟨b2, o2 + k * 4 + 3, none⟩ = some (.int .i64 q3))
            (((try go_split_ands); refine ⟨?_, ?_, ?_, ?_, ?_, ?_, ?_, ?_⟩ <;> (repeat (first | with_reducible assumption | with_reducible refine drew_keep ?_))))
            (fail)
          go_wp2
          go_ret
          exact ⟨congrArg (fun b => Ending.returned (Value.bool b)) HN.out.symm, HB.out.drew⟩
    · have hkn : k = n := by omega
      have heq : zs = ys := by
        have h3 := HT.out
        rw [List.take_of_length_le (by rw [HZ.out]; omega), List.take_of_length_le (by rw [HY.out]; omega)] at h3
        exact h3
      have hd : decide (zs = ys) = true := by simp [heq]
      have HD := Lib.hid hd
      clear heq hd HT ht
      go_wp2
      go_ret
      exact ⟨congrArg (fun b => Ending.returned (Value.bool b)) HD.out.symm, HB.out⟩

theorem ceSame_any (n m : Nat) (zs ys : List Ce) (hz : zs.length = n) (hy : ys.length = m) (A1 A2 : Option Addr) (c1 c2 : Nat) (w : World) (h1 : Ces w A1 zs) (h2 : Ces w A2 ys) (hn : n ≤ 4194304) :
    Calls Try.prog 15 #[.slice A1 n c1, .slice A2 m c2] w fun e w' => e = .returned (.bool (decide (zs = ys))) ∧ Below w.heap.size w w' := by
  by_cases h : n = m
  · subst h
    exact ceSame_same n zs ys hz hy A1 A2 c1 c2 w h1 h2 hn
  · have hd : decide (zs = ys) = false := by
      simp only [decide_eq_false_iff_not]
      rintro rfl
      omega
    rw [hd]
    have hc : ((n : Int) != (m : Int)) = true := by simp; omega
    clear hz hy h1 h2 hd
    go_enter Try.func15, Try.ntmps15
    go_wp2
    go_ret
    exact ⟨rfl, Below.refl _ _⟩

end Go.Proofs.Ytlmjmhdmhpkkkaa.hexes
