/-
  The program's NoWorse: the contract of impl.NoWorse.
-/
import Derived.Test.YtbbagpnjjjohpaaJ28
import Derived.Test.YtbbagpnjjjohpaaJ38

namespace Go.Proofs.Ytbbagpnjjjohpaa.hexes
open Go.RowKit

theorem implLeastN_is {ys : List Ce} {n : Nat} (hl : ys.length = n) {o ep ky l : Int} {b : Bool} (hq : leastC ys o ep ky = (l, b)) {A : Option Addr} {c : Nat} (hn : n ≤ 2000000) (w : World) (h : Ces w A ys) :
    Calls Try.prog 61 #[.slice A n c, .int .i64 o, .int .i64 ep, .int .i64 ky] w fun e w' => e = .returned (.tuple #[.int .i64 l, .bool b]) ∧ Below w.heap.size w w' := by
  refine (implLeast_any n ys hl A c o ep ky w h (by omega)).mono ?_
  rintro e w' ⟨he, hb⟩
  rw [hq] at he
  exact ⟨he, hb⟩

set_option maxRecDepth 100000 in
set_option maxHeartbeats 4000000 in
theorem implNw_any (ys bs : List Ce) (A1 : Option Addr) (n1 c1 : Nat) (hl1 : ys.length = n1) (hn1 : n1 ≤ 2000000) (A2 : Option Addr) (n2 c2 : Nat) (hl2 : bs.length = n2) (hn2 : n2 ≤ 2000000) (w : World) (h1 : Ces w A1 ys) (h2 : Ces w A2 bs) :
    Calls Try.prog 25 #[.slice A1 n1 c1, .slice A2 n2 c2] w fun e w' => e = .returned (.bool (nwC ys bs)) ∧ Below w.heap.size w w' := by
  obtain ⟨q, hq⟩ : ∃ q, nwC ys bs = q := ⟨_, rfl⟩
  rw [hq]
  have HQ := Lib.hid hq
  have H1L := Lib.hid hl1
  have H2L := Lib.hid hl2
  have H1 := Lib.hid h1
  have H2 := Lib.hid h2
  clear hq hl1 hl2 h1 h2
  go_enter Try.func25, Try.ntmps25
  go_wp2_with fail
  go_loopw [11] (fun i wr => ∃ j : Nat, j ≤ n2 ∧ i = .int .i64 (j : Int) ∧ (bs.take j).all (nwB ys) = true ∧ Below w.heap.size w wr) (fun i _ => n2 - (intOf i).toNat)
  case atStart => exact ⟨0, Nat.zero_le _, rfl, by simp, Below.refl _ _⟩
  case round =>
    obtain ⟨j, hj, rfl, ht, hb⟩ := hrel
    have HT := Lib.hid ht
    have HB := Lib.hid hb
    clear ht hb
    by_cases hlt : j < n2
    · have lj : j < bs.length := by rw [H2L.out]; exact hlt
      obtain ⟨b1, o1, p0, p1, p2, p3, rfl, hz, e0, e1, e2, e3⟩ := (H2.out.below HB.out).at lj
      have i0 : (0 : Int) ≤ (j : Int) := by omega
      have i1 : (j : Int) < (n2 : Int) := by omega
      obtain ⟨l, lb, hlb⟩ : ∃ l b, leastC ys p0 p1 p2 = (l, b) := ⟨_, _, rfl⟩
      have HN := Lib.hid (show nwB ys bs[j] = (lb && decide (l ≤ p3)) by rw [hz]; unfold nwB; rw [hlb])
      have HLB := Lib.hid hlb
      have HLJ := Lib.hid lj
      clear hz hlb
      obtain ⟨U, hU⟩ : ∃ z, wr.alloc (.cells #[.int .i64 p0, .int .i64 p1, .int .i64 p2, .int .i64 p3] 38) = z := ⟨_, rfl⟩
      have bU : Below wr.heap.size wr U := by rw [← hU]; exact (Below.refl _ _).alloc (Nat.le_refl _) _
      have XU := Lib.hid (show Blk U wr.heap.size 38 #[.int .i64 p0, .int .i64 p1, .int .i64 p2, .int .i64 p3] by rw [← hU]; exact Blk.new _ _ _)
      have BU := Lib.hid (below_chain HB.out bU)
      clear bU
      have x0 : U.cell? ⟨wr.heap.size, 0, none⟩ = some (.int .i64 p0) := by rw [XU.out.cell]; rfl
      have x1 : U.cell? ⟨wr.heap.size, 1, none⟩ = some (.int .i64 p1) := by rw [XU.out.cell]; rfl
      have x2 : U.cell? ⟨wr.heap.size, 2, none⟩ = some (.int .i64 p2) := by rw [XU.out.cell]; rfl
      go_wp2_with fail
      clear x0 x1 x2 e0 e1 e2 e3
      refine (implLeastN_is H1L.out HLB.out hn1 _ (H1.out.below BU.out) (c := c1)).mono ?_
      rintro e w5 ⟨rfl, bq⟩
      have X5 := Lib.hid (XU.out.below bq)
      have B5 := Lib.hid (below_chain BU.out bq)
      clear bq hU XU BU
      have x3 : w5.cell? ⟨wr.heap.size, 3, none⟩ = some (.int .i64 p3) := by rw [X5.out.cell]; rfl
      cases lb with
      | false =>
        obtain rfl : q = false := by rw [← HQ.out, nwC_eq]; exact all_off HLJ.out (by rw [HN.out]; rfl)
        clear x3
        go_wp2
        go_ret
        exact ⟨rfl, B5.out⟩
      | true =>
        by_cases hle : l ≤ p3
        · have dg : decide (p3 < l) = false := by simp; omega
          have HT2 := Lib.hid (all_on HLJ.out HT.out (by rw [HN.out]; simp [hle]))
          clear hle HT HN
          go_wp2
          go_roundw
          case rel => exact ⟨j + 1, by omega, by go_num, HT2.out, B5.out⟩
          case measure => simp [intOf]; omega
        · have dg : decide (p3 < l) = true := by simp; omega
          obtain rfl : q = false := by rw [← HQ.out, nwC_eq]; exact all_off HLJ.out (by rw [HN.out]; simp [hle])
          clear hle HT HN
          go_wp2
          go_ret
          exact ⟨rfl, B5.out⟩
    · obtain rfl : j = n2 := by omega
      obtain rfl : q = true := by rw [← HQ.out, nwC_eq]; exact all_whole (Nat.le_of_eq H2L.out) HT.out
      have dl : decide (j < j) = false := by simp
      clear hlt
      go_wp2
      go_ret
      exact ⟨rfl, HB.out⟩
end Go.Proofs.Ytbbagpnjjjohpaa.hexes

