/-
  Chapter 4's plain functions of the program: the contracts of impl.TotalCount, impl.EpochCount, impl.CountAt.
-/
import Derived.Test.YtiehpniogehkmaaSpecCt2
namespace Go.Proofs.Ytiehpniogehkmaa.hexes
open Go.RowKit

set_option maxRecDepth 100000 in
theorem implTotal_any (n : Nat) (zs : List Ct) (hz : zs.length = n) (A : Option Addr) (c : Nat) (w : World) (h1 : Cts w A zs) (hn : n ≤ 4194304) :
    Calls Try.prog 27 #[.slice A n c] w fun e w' => e = .returned (.int .i64 (totalL zs)) ∧ Below w.heap.size w w' := by
  have H1 := Lib.hid h1
  have HZ := Lib.hid hz
  clear h1 hz
  go_enter Try.func27, Try.ntmps27
  go_wp2
  go_loopw [3, 8] (fun s i wr => ∃ (k : Nat) (a : Int), k ≤ n ∧ i = .int .i64 k ∧ s = .int .i64 a ∧ a = (zs.take k).foldl (fun a z => wrap64 (a + z.2)) 0 ∧ Below w.heap.size w wr) (fun _ i _ => n - (intOf i).toNat)
  case atStart => exact ⟨0, 0, Nat.zero_le _, rfl, rfl, rfl, Below.refl _ _⟩
  case round =>
    obtain ⟨k, a, hk, rfl, rfl, ha, hb⟩ := hrel
    have HA := Lib.hid ha
    have HB := Lib.hid hb
    clear ha hb
    by_cases hlt : k < n
    · have l1 : k < zs.length := by rw [HZ.out]; exact hlt
      obtain ⟨b1, o1, p0, p1, p2, rfl, x1, e0, e1, e2⟩ := (H1.out.below HB.out).at l1
      have i0 : (0 : Int) ≤ (k : Int) := by omega
      have i1 : (k : Int) < (n : Int) := by omega
      have HS := Lib.hid (show wrap64 (a + p2) = (zs.take (k + 1)).foldl (fun a z => wrap64 (a + z.2)) 0 by rw [fold_take_step l1, ← HA.out, x1])
      have BA := Lib.hid (HB.out.alloc HB.out.size (.cells #[.int .i64 p0, .int .i64 p1, .int .i64 p2] 62))
      clear x1 l1 HA
      go_wp2
      go_roundw
      case rel => exact ⟨k + 1, _, by omega, by go_num, rfl, HS.out, BA.out⟩
      case measure => simp [intOf]; omega
    · have hfin : a = totalL zs := by
        have h3 := HA.out
        rw [List.take_of_length_le (by rw [HZ.out]; omega)] at h3
        exact h3
      subst hfin
      go_wp2
      go_ret
      exact ⟨rfl, HB.out⟩

set_option maxRecDepth 100000 in
theorem implEpoch_any (n : Nat) (zs : List Ct) (hz : zs.length = n) (A : Option Addr) (c : Nat) (x : Int) (w : World) (h1 : Cts w A zs) (hn : n ≤ 4194304) :
    Calls Try.prog 25 #[.slice A n c, .int .i64 x] w fun e w' => e = .returned (.int .i64 (epochL zs x)) ∧ Below w.heap.size w w' := by
  have H1 := Lib.hid h1
  have HZ := Lib.hid hz
  clear h1 hz
  go_enter Try.func25, Try.ntmps25
  go_wp2
  go_loopw [5, 10] (fun s i wr => ∃ (k : Nat) (a : Int), k ≤ n ∧ i = .int .i64 k ∧ s = .int .i64 a ∧ a = (zs.take k).foldl (fun a z => if z.1.1 = x then wrap64 (a + z.2) else a) 0 ∧ Below w.heap.size w wr) (fun _ i _ => n - (intOf i).toNat)
  case atStart => exact ⟨0, 0, Nat.zero_le _, rfl, rfl, rfl, Below.refl _ _⟩
  case round =>
    obtain ⟨k, a, hk, rfl, rfl, ha, hb⟩ := hrel
    have HA := Lib.hid ha
    have HB := Lib.hid hb
    clear ha hb
    by_cases hlt : k < n
    · have l1 : k < zs.length := by rw [HZ.out]; exact hlt
      obtain ⟨b1, o1, p0, p1, p2, rfl, x1, e0, e1, e2⟩ := (H1.out.below HB.out).at l1
      have i0 : (0 : Int) ≤ (k : Int) := by omega
      have i1 : (k : Int) < (n : Int) := by omega
      have BA := Lib.hid (HB.out.alloc HB.out.size (.cells #[.int .i64 p0, .int .i64 p1, .int .i64 p2] 62))
      by_cases he : p0 = x
      · have HS := Lib.hid (show wrap64 (a + p2) = (zs.take (k + 1)).foldl (fun a z => if z.1.1 = x then wrap64 (a + z.2) else a) 0 by rw [fold_take_step l1, ← HA.out, x1]; simp [he])
        have hd : (p0 == x) = true := by simpa using he
        clear x1 l1 HA he
        go_wp2
        go_roundw
        case rel => exact ⟨k + 1, _, by omega, by go_num, rfl, HS.out, BA.out⟩
        case measure => simp [intOf]; omega
      · have HS := Lib.hid (show a = (zs.take (k + 1)).foldl (fun a z => if z.1.1 = x then wrap64 (a + z.2) else a) 0 by rw [fold_take_step l1, ← HA.out, x1]; simp [he])
        have hd : (p0 == x) = false := by simpa using he
        clear x1 l1 HA he
        go_wp2
        go_roundw
        case rel => exact ⟨k + 1, _, by omega, by go_num, rfl, HS.out, BA.out⟩
        case measure => simp [intOf]; omega
    · have hfin : a = epochL zs x := by
        have h3 := HA.out
        rw [List.take_of_length_le (by rw [HZ.out]; omega)] at h3
        exact h3
      subst hfin
      go_wp2
      go_ret
      exact ⟨rfl, HB.out⟩

set_option maxRecDepth 100000 in
theorem implCountAt_any (n : Nat) (zs : List Ct) (hz : zs.length = n) (A : Option Addr) (c : Nat) (x y : Int) (w : World) (h1 : Cts w A zs) (hn : n ≤ 4194304) :
    Calls Try.prog 29 #[.slice A n c, .agg #[.int .i64 x, .int .i64 y]] w fun e w' => e = .returned (.int .i64 (countAt zs (x, y))) ∧ Below w.heap.size w w' := by
  have H1 := Lib.hid h1
  have HZ := Lib.hid hz
  clear h1 hz
  go_enter Try.func29, Try.ntmps29
  go_wp2
  go_loopw [9] (fun i wr => ∃ k : Nat, k ≤ n ∧ i = .int .i64 k ∧ countAt zs (x, y) = countAt (zs.drop k) (x, y) ∧ Below w.heap.size w wr ∧ wr.cell? ⟨w.heap.size, 0, none⟩ = some (.int .i64 x) ∧ wr.cell? ⟨w.heap.size, 1, none⟩ = some (.int .i64 y)) (fun i _ => n - (intOf i).toNat)
  case atStart => exact ⟨0, Nat.zero_le _, rfl, rfl, (Below.refl _ _).alloc (Nat.le_refl _) _, by simp, by simp⟩
  case round =>
    obtain ⟨k, hk, rfl, ht, hb, s0, s1⟩ := hrel
    have HT := Lib.hid ht
    have HB := Lib.hid hb
    by_cases hlt : k < n
    · have l1 : k < zs.length := by rw [HZ.out]; exact hlt
      obtain ⟨b1, o1, p0, p1, p2, rfl, x1, e0, e1, e2⟩ := (H1.out.below hb).at l1
      have i0' : (0 : Int) ≤ (k : Int) := by omega
      have i1 : (k : Int) < (n : Int) := by omega
      have BA := Lib.hid (HB.out.alloc HB.out.size (.cells #[.int .i64 p0, .int .i64 p1, .int .i64 p2] 62))
      have S0 := alloc_keep (o := .cells #[.int .i64 p0, .int .i64 p1, .int .i64 p2] 62) s0
      have S1 := alloc_keep (o := .cells #[.int .i64 p0, .int .i64 p1, .int .i64 p2] 62) s1
      by_cases he : p0 = x ∧ p1 = y
      · have HF := Lib.hid (show countAt zs (x, y) = p2 by rw [HT.out, countAt_drop l1, x1, he.1, he.2]; simp)
        obtain ⟨rfl, rfl⟩ := he
        clear ht hb x1 HT l1
        go_wp2
        go_ret
        exact ⟨congrArg (fun b => Ending.returned (Value.int .i64 b)) HF.out.symm, BA.out⟩
      · have HT2 := Lib.hid (show countAt zs (x, y) = countAt (zs.drop (k + 1)) (x, y) by rw [HT.out, countAt_drop l1, x1]; simp [he])
        clear ht hb x1 HT l1
        by_cases hp : p0 = x
        · subst hp
          have hq : ¬p1 = y := fun h => he ⟨rfl, h⟩
          clear he
          go_wp2
          go_roundw
          case rel => exact ⟨k + 1, by omega, by go_num, HT2.out, BA.out, S0, S1⟩
          case measure => simp [intOf]; omega
        · clear he
          go_wp2
          go_roundw
          case rel => exact ⟨k + 1, by omega, by go_num, HT2.out, BA.out, S0, S1⟩
          case measure => simp [intOf]; omega
    · have HF := Lib.hid (show countAt zs (x, y) = 0 by rw [HT.out, List.drop_of_length_le (by rw [HZ.out]; omega)]; rfl)
      clear ht hb
      go_wp2
      go_ret
      exact ⟨congrArg (fun b => Ending.returned (Value.int .i64 b)) HF.out.symm, HB.out⟩

end Go.Proofs.Ytiehpniogehkmaa.hexes
