/-
  Chapter 9's plain functions as the reference has them: the contracts of spec.CellsOk, spec.HasCell, spec.LeastOf, spec.CellsOf, and of laws.sameCells.
-/
import Derived.Test.YtbbagpnjjjohpaaJ33
import Derived.Laws.AppendOwnNone

namespace Go.Proofs.Ytbbagpnjjjohpaa.hexes
open Go.RowKit

set_option maxRecDepth 100000 in
set_option maxHeartbeats 4000000 in
theorem specLeast_any (n : Nat) (zs : List Ce) (hz : zs.length = n) (A : Option Addr) (c : Nat) (o ep ky : Int) (w : World) (h1 : Ces w A zs) (hn : n ≤ 4194304) :
    Calls Try.prog 31 #[.slice A n c, .int .i64 o, .int .i64 ep, .int .i64 ky] w fun e w' => e = .returned (.tuple #[.int .i64 (leastC zs o ep ky).1, .bool (leastC zs o ep ky).2]) ∧ Below w.heap.size w w' := by
  have H1 := Lib.hid h1
  have HZ := Lib.hid hz
  clear h1 hz
  go_enter Try.func31, Try.ntmps31
  go_wp2
  go_loopw [10, 11, 12] (fun a b i wr => ∃ (k : Nat) (m : Int) (some : Bool), k ≤ n ∧ i = .int .i64 k ∧ a = .int .i64 m ∧ b = .bool some ∧ leastC (zs.take k) o ep ky = (m, some) ∧ Below w.heap.size w wr) (fun _ _ i _ => n - (intOf i).toNat)
  case atStart => exact ⟨0, 0, false, Nat.zero_le _, rfl, rfl, rfl, rfl, Below.refl _ _⟩
  case round =>
    obtain ⟨k, m, some, hk, rfl, rfl, rfl, ht, hb⟩ := hrel
    have HT := Lib.hid ht
    have HB := Lib.hid hb
    clear ht
    by_cases hlt : k < n
    · have l1 : k < zs.length := by rw [HZ.out]; exact hlt
      obtain ⟨b1, o1, p0, p1, p2, p3, rfl, x1, e0, e1, e2, e3⟩ := (H1.out.below hb).at l1
      have i0 : (0 : Int) ≤ (k : Int) := by omega
      have i1 : (k : Int) < (n : Int) := by omega
      have BA := Lib.hid (HB.out.alloc HB.out.size (.cells #[.int .i64 p0, .int .i64 p1, .int .i64 p2, .int .i64 p3] 38))
      have ST := Lib.hid (show leastC (zs.take (k + 1)) o ep ky = leastStep o ep ky (m, some) (p0, p1, p2, p3) by rw [least_step l1, HT.out, x1])
      clear hb x1 HT l1
      by_cases h0 : p0 = o
      rotate_left
      · have HS := Lib.hid (show leastC (zs.take (k + 1)) o ep ky = (m, some) by rw [ST.out]; simp [leastStep, keyC, h0])
        have d0 : (p0 == o) = false := by simpa using h0
        clear ST h0
        skip
        go_wp2
        go_roundw
        case rel => exact ⟨k + 1, m, some, by omega, by go_num, rfl, rfl, HS.out, BA.out⟩
        case measure => simp [intOf]; omega
      have d0 : (p0 == o) = true := by simpa using h0
      by_cases h1 : p1 = ep
      rotate_left
      · have HS := Lib.hid (show leastC (zs.take (k + 1)) o ep ky = (m, some) by rw [ST.out]; simp [leastStep, keyC, h1])
        have d1 : (p1 == ep) = false := by simpa using h1
        clear ST h0 h1
        skip
        go_wp2
        go_roundw
        case rel => exact ⟨k + 1, m, some, by omega, by go_num, rfl, rfl, HS.out, BA.out⟩
        case measure => simp [intOf]; omega
      have d1 : (p1 == ep) = true := by simpa using h1
      by_cases h2 : p2 = ky
      rotate_left
      · have HS := Lib.hid (show leastC (zs.take (k + 1)) o ep ky = (m, some) by rw [ST.out]; simp [leastStep, keyC, h2])
        have d2 : (p2 == ky) = false := by simpa using h2
        clear ST h0 h1 h2
        skip
        go_wp2
        go_roundw
        case rel => exact ⟨k + 1, m, some, by omega, by go_num, rfl, rfl, HS.out, BA.out⟩
        case measure => simp [intOf]; omega
      have d2 : (p2 == ky) = true := by simpa using h2
      cases some with
      | false =>
        have HS := Lib.hid (show leastC (zs.take (k + 1)) o ep ky = (p3, true) by rw [ST.out]; simp [leastStep, keyC, h0, h1, h2])
        clear ST h0 h1 h2
        skip
        go_wp2
        go_roundw
        case rel => exact ⟨k + 1, p3, true, by omega, by go_num, rfl, rfl, HS.out, BA.out⟩
        case measure => simp [intOf]; omega
      | true =>
        by_cases h3 : p3 < m
        · have HS := Lib.hid (show leastC (zs.take (k + 1)) o ep ky = (p3, true) by rw [ST.out]; simp [leastStep, keyC, h0, h1, h2, h3])
          have d3 : decide (p3 < m) = true := decide_eq_true h3
          clear ST h0 h1 h2 h3
          skip
          go_wp2
          go_roundw
          case rel => exact ⟨k + 1, p3, true, by omega, by go_num, rfl, rfl, HS.out, BA.out⟩
          case measure => simp [intOf]; omega
        · have HS := Lib.hid (show leastC (zs.take (k + 1)) o ep ky = (m, true) by rw [ST.out]; simp [leastStep, keyC, h0, h1, h2, h3])
          have d3 : decide (p3 < m) = false := decide_eq_false h3
          clear ST h0 h1 h2 h3
          skip
          go_wp2
          go_roundw
          case rel => exact ⟨k + 1, m, true, by omega, by go_num, rfl, rfl, HS.out, BA.out⟩
          case measure => simp [intOf]; omega
    · have hfin : leastC zs o ep ky = (m, some) := by rw [← HT.out, least_all (by rw [HZ.out]; omega)]
      have HF := Lib.hid hfin
      clear hb hfin
      go_wp2
      exact bodyPost_ret (v := .tuple #[.int .i64 m, .bool some]) (by simp [results, Try.results31, go_sem]) rfl ⟨by rw [HF.out], HB.out⟩

end Go.Proofs.Ytbbagpnjjjohpaa.hexes

