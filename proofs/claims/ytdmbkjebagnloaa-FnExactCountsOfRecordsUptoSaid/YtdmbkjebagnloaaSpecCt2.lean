/-
  Chapter 4's further plain functions: the contracts of laws.sameCounts and spec.CountAt.
-/
import Derived.Test.YtdmbkjebagnloaaSpecCt
namespace Go.Proofs.Ytdmbkjebagnloaa.hexes
open Go.RowKit

theorem countAt_drop {zs : List Ct} {k : Nat} (hk : k < zs.length) (s : Int × Int) : countAt (zs.drop k) s = if zs[k].1 = s then zs[k].2 else countAt (zs.drop (k + 1)) s := by
  rw [List.drop_eq_getElem_cons hk]
  rfl

set_option maxRecDepth 100000 in
theorem specCountAt_any (n : Nat) (zs : List Ct) (hz : zs.length = n) (A : Option Addr) (c : Nat) (x y : Int) (w : World) (h1 : Cts w A zs) (hn : n ≤ 4194304) :
    Calls Try.prog 64 #[.slice A n c, .agg #[.int .i64 x, .int .i64 y]] w fun e w' => e = .returned (.int .i64 (countAt zs (x, y))) ∧ Below w.heap.size w w' := by
  have H1 := Lib.hid h1
  have HZ := Lib.hid hz
  clear h1 hz
  go_enter Try.func64, Try.ntmps64
  go_wp2
  go_loopw [5] (fun i wr => ∃ k : Nat, k ≤ n ∧ i = .int .i64 k ∧ countAt zs (x, y) = countAt (zs.drop k) (x, y) ∧ Below w.heap.size w wr ∧ wr.cell? ⟨w.heap.size, 0, none⟩ = some (.int .i64 x) ∧ wr.cell? ⟨w.heap.size, 1, none⟩ = some (.int .i64 y)) (fun i _ => n - (intOf i).toNat)
  case atStart => exact ⟨0, Nat.zero_le _, rfl, rfl, (Below.refl _ _).alloc (Nat.le_refl _) _, by simp, by simp⟩
  case round =>
    obtain ⟨k, hk, rfl, ht, hb, s0, s1⟩ := hrel
    have HT := Lib.hid ht
    have HB := Lib.hid hb
    by_cases hlt : k < n
    · have l1 : k < zs.length := by rw [HZ.out]; exact hlt
      obtain ⟨b1, o1, p0, p1, p2, rfl, x1, e0, e1, e2⟩ := (H1.out.below hb).at l1
      have i0' : (0 : Int) ≤ (k : Int) := by omega
      have i1 : (k : Int) < (n : Int) := by omega
      by_cases he : p0 = x ∧ p1 = y
      · have HF := Lib.hid (show countAt zs (x, y) = p2 by rw [HT.out, countAt_drop l1, x1, he.1, he.2]; simp)
        obtain ⟨rfl, rfl⟩ := he
        clear ht hb x1 HT l1
        go_wp2_with fail
        go_region_held3 (fun w' => w'.cell? ⟨b1, o1 + k * 3, none⟩ = some (.int .i64 p0) ∧ w'.cell? ⟨b1, o1 + k * 3 + 1, none⟩ = some (.int .i64 p1) ∧ w'.cell? ⟨b1, o1 + k * 3 + 2, none⟩ = some (.int .i64 p2) ∧ w'.cell? ⟨w.heap.size, 0, none⟩ = some (.int .i64 p0) ∧ w'.cell? ⟨w.heap.size, 1, none⟩ = some (.int .i64 p1))
          (((try go_split_ands); refine ⟨?_, ?_, ?_, ?_, ?_⟩ <;> (repeat (first | with_reducible assumption | with_reducible refine drew_keep ?_))))
          (fail)
        have e2' := drew_keep e2
        go_wp2
        go_ret
        exact ⟨congrArg (fun b => Ending.returned (Value.int .i64 b)) HF.out.symm, HB.out.drew⟩
      · have HT2 := Lib.hid (show countAt zs (x, y) = countAt (zs.drop (k + 1)) (x, y) by rw [HT.out, countAt_drop l1, x1]; simp [he])
        clear ht hb x1 HT l1
        by_cases hp : p0 = x
        · subst hp
          have hq : ¬p1 = y := fun h => he ⟨rfl, h⟩
          clear he
          go_wp2_with fail
          go_region_held3 (fun w' => w'.cell? ⟨b1, o1 + k * 3, none⟩ = some (.int .i64 p0) ∧ w'.cell? ⟨b1, o1 + k * 3 + 1, none⟩ = some (.int .i64 p1) ∧ w'.cell? ⟨w.heap.size, 0, none⟩ = some (.int .i64 p0) ∧ w'.cell? ⟨w.heap.size, 1, none⟩ = some (.int .i64 y))
            (((try go_split_ands); refine ⟨?_, ?_, ?_, ?_⟩ <;> (repeat (first | with_reducible assumption | with_reducible refine drew_keep ?_))))
            (fail)
          have S0 := drew_keep s0
          have S1 := drew_keep s1
          go_wp2
          go_roundw
          case rel => exact ⟨k + 1, by omega, by go_num, HT2.out, HB.out.drew, S0, S1⟩
          case measure => simp [intOf]; omega
        · clear he
          go_wp2_with fail
          go_region_held3 (fun w' => w'.cell? ⟨b1, o1 + k * 3, none⟩ = some (.int .i64 p0) ∧ w'.cell? ⟨b1, o1 + k * 3 + 1, none⟩ = some (.int .i64 p1) ∧ w'.cell? ⟨w.heap.size, 0, none⟩ = some (.int .i64 x) ∧ w'.cell? ⟨w.heap.size, 1, none⟩ = some (.int .i64 y))
            (((try go_split_ands); refine ⟨?_, ?_, ?_, ?_⟩ <;> (repeat (first | with_reducible assumption | with_reducible refine drew_keep ?_))))
            (fail)
          have S0 := drew_keep s0
          have S1 := drew_keep s1
          go_wp2
          go_roundw
          case rel => exact ⟨k + 1, by omega, by go_num, HT2.out, HB.out.drew, S0, S1⟩
          case measure => simp [intOf]; omega
    · have HF := Lib.hid (show countAt zs (x, y) = 0 by rw [HT.out, List.drop_of_length_le (by rw [HZ.out]; omega)]; rfl)
      clear ht hb
      go_wp2
      go_ret
      exact ⟨congrArg (fun b => Ending.returned (Value.int .i64 b)) HF.out.symm, HB.out⟩

end Go.Proofs.Ytdmbkjebagnloaa.hexes
