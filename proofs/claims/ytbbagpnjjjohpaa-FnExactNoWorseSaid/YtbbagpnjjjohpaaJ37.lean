/-
  The reference's NoWorse: the contract of spec.NoWorse.
-/
import Derived.Test.YtbbagpnjjjohpaaJ28
import Derived.Test.YtbbagpnjjjohpaaJ35
import Derived.Test.YtbbagpnjjjohpaaJ36

namespace Go.Proofs.Ytbbagpnjjjohpaa.hexes
open Go.RowKit

/-- What a round reads. -/
structure NwHeld (V : World) (b o : Nat) (p0 p1 p2 p3 : Int) (w : World) : Prop where
  c0 : w.cell? ⟨b, o, none⟩ = some (.int .i64 p0)
  c1 : w.cell? ⟨b, o + 1, none⟩ = some (.int .i64 p1)
  c2 : w.cell? ⟨b, o + 2, none⟩ = some (.int .i64 p2)
  c3 : w.cell? ⟨b, o + 3, none⟩ = some (.int .i64 p3)
  bel : Below V.heap.size V w
theorem NwHeld.below {V : World} {b o : Nat} {p0 p1 p2 p3 : Int} {w w' : World} (h : NwHeld V b o p0 p1 p2 p3 w) (hb : Below w.heap.size w w') : NwHeld V b o p0 p1 p2 p3 w' :=
  ⟨below_keep hb h.c0, below_keep hb h.c1, below_keep hb h.c2, below_keep hb h.c3, below_chain h.bel hb⟩

set_option maxRecDepth 1000000 in
set_option maxHeartbeats 8000000 in
theorem specNw_any (ys bs : List Ce) (A1 : Option Addr) (n1 c1 : Nat) (hl1 : ys.length = n1) (hn1 : n1 ≤ 2000000) (A2 : Option Addr) (n2 c2 : Nat) (hl2 : bs.length = n2) (hn2 : n2 ≤ 2000000) (w : World) (h1 : Ces w A1 ys) (h2 : Ces w A2 bs) :
    Calls Try.prog 26 #[.slice A1 n1 c1, .slice A2 n2 c2] w fun e w' => e = .returned (.bool (nwC ys bs)) ∧ Below w.heap.size w w' := by
  obtain ⟨q, hq⟩ : ∃ q, nwC ys bs = q := ⟨_, rfl⟩
  rw [hq]
  have HQ := Lib.hid hq
  have H1L := Lib.hid hl1
  have H2L := Lib.hid hl2
  have H1 := Lib.hid h1
  have H2 := Lib.hid h2
  clear hq hl1 hl2 h1 h2
  go_enter Try.func26, Try.ntmps26
  go_wp2_with fail
  go_loopw [5] (fun i wr => ∃ j : Nat, j ≤ n2 ∧ i = .int .i64 (j : Int) ∧ (bs.take j).all (nwB ys) = true ∧ Below w.heap.size w wr) (fun i _ => n2 - (intOf i).toNat)
  case atStart => exact ⟨0, Nat.zero_le _, rfl, by simp, Below.refl _ _⟩
  case round =>
    obtain ⟨j, hj, rfl, ht, hb⟩ := hrel
    have HT := Lib.hid ht
    have HB := Lib.hid hb
    clear ht hb
    by_cases hlt : j < n2
    · have lj : j < bs.length := by rw [H2L.out]; exact hlt
      obtain ⟨b1, o1, p0, p1, p2, p3, rfl, hz, e0, e1, e2, e3⟩ := (H2.out.below HB.out).at lj
      have i0 : (0 : Int) ≤ (j : Int) := by omega
      have i1 : (j : Int) < (n2 : Int) := by omega
      obtain ⟨l, lb, hlb⟩ : ∃ l b, leastC ys p0 p1 p2 = (l, b) := ⟨_, _, rfl⟩
      have HN := Lib.hid (show nwB ys bs[j] = (lb && decide (l ≤ p3)) by rw [hz]; unfold nwB; rw [hlb])
      have HLB := Lib.hid hlb
      have HLJ := Lib.hid lj
      clear hz hlb
      obtain ⟨V9, hV⟩ : ∃ v, wr.drew = v := ⟨_, rfl⟩
      have BV := Lib.hid (below_chain HB.out (show Below wr.heap.size wr V9 by rw [← hV]; exact (Below.refl _ _).drew))
      have HD := Lib.hid (show NwHeld V9 b1 (o1 + j * 4) p0 p1 p2 p3 V9 by rw [← hV]; exact ⟨e0, e1, e2, e3, Below.refl _ _⟩)
      clear e0 e1 e2 e3
      go_wp2_with fail
      refine wp_region_held_drew (S := NwHeld V9 b1 (o1 + j * 4) p0 p1 p2 p3) (by kernel_rfl) ?_ (fun hHeld => ?_)
      · skip
        rw [hV]; exact HD.out
      change wpAnyH _ _ opsW4 _ _ 22 (LW4 0) _ _
      rw [hV] at hHeld ⊢
      clear hV
      refine regY tW4_0 (.slice A1 n1 c1) (fun W hSw => by unfold qW4_0; go_simp) hHeld ?_
      try simp only [pt, List.set]
      refine regY tW4_1 (.slice (some ⟨b1, o1, none⟩) n2 c2) (fun W hSw => by unfold qW4_1; go_simp) hHeld ?_
      try simp only [pt, List.set]
      refine regY tW4_2 (.int .i64 (j : Int)) (fun W hSw => by unfold qW4_2; go_simp) hHeld ?_
      try simp only [pt, List.set]
      refine regY tW4_3 (.pointer (some ⟨b1, o1 + j * 4, none⟩)) (fun W hSw => by unfold qW4_3; go_simp) hHeld ?_
      try simp only [pt, List.set]
      refine regY tW4_4 (.pointer (some ⟨b1, o1 + j * 4, none⟩)) (fun W hSw => by unfold qW4_4; go_simp) hHeld ?_
      try simp only [pt, List.set]
      refine regY tW4_5 (.int .i64 p0) (fun W hSw => by unfold qW4_5; obtain ⟨c0, c1, c2, c3, _⟩ := hSw; go_simp) hHeld ?_
      try simp only [pt, List.set]
      refine regY tW4_6 (.slice (some ⟨b1, o1, none⟩) n2 c2) (fun W hSw => by unfold qW4_6; go_simp) hHeld ?_
      try simp only [pt, List.set]
      refine regY tW4_7 (.int .i64 (j : Int)) (fun W hSw => by unfold qW4_7; go_simp) hHeld ?_
      try simp only [pt, List.set]
      refine regY tW4_8 (.pointer (some ⟨b1, o1 + j * 4, none⟩)) (fun W hSw => by unfold qW4_8; go_simp) hHeld ?_
      try simp only [pt, List.set]
      refine regY tW4_9 (.pointer (some ⟨b1, o1 + j * 4 + 1, none⟩)) (fun W hSw => by unfold qW4_9; go_simp) hHeld ?_
      try simp only [pt, List.set]
      refine regY tW4_10 (.int .i64 p1) (fun W hSw => by unfold qW4_10; obtain ⟨c0, c1, c2, c3, _⟩ := hSw; go_simp) hHeld ?_
      try simp only [pt, List.set]
      refine regY tW4_11 (.slice (some ⟨b1, o1, none⟩) n2 c2) (fun W hSw => by unfold qW4_11; go_simp) hHeld ?_
      try simp only [pt, List.set]
      refine regY tW4_12 (.int .i64 (j : Int)) (fun W hSw => by unfold qW4_12; go_simp) hHeld ?_
      try simp only [pt, List.set]
      refine regY tW4_13 (.pointer (some ⟨b1, o1 + j * 4, none⟩)) (fun W hSw => by unfold qW4_13; go_simp) hHeld ?_
      try simp only [pt, List.set]
      refine regY tW4_14 (.pointer (some ⟨b1, o1 + j * 4 + 2, none⟩)) (fun W hSw => by unfold qW4_14; go_simp) hHeld ?_
      try simp only [pt, List.set]
      refine regY tW4_15 (.int .i64 p2) (fun W hSw => by unfold qW4_15; obtain ⟨c0, c1, c2, c3, _⟩ := hSw; go_simp) hHeld ?_
      try simp only [pt, List.set]
      refine cW4_16 (fun K hK => ?_)
      rw [if_pos (by rfl)]
      unfold qW4_16
      go_simp
      refine (specLeast_is H1L.out HLB.out (by omega) _ (H1.out.below (below_chain BV.out hHeld.bel)) (c := c1)).mono ?_
      rintro e w5 ⟨rfl, bq⟩
      refine Shut.out hK _ _ ?_ (fun hHeld => ?_)
      · exact hHeld.below bq
      clear hK K
      try simp only [pt, List.set]
      refine regY tW4_17 (.tuple #[.int .i64 l, .bool lb]) (fun W hSw => by unfold qW4_17; go_simp) hHeld ?_
      try simp only [pt, List.set]
      refine regY tW4_18 (.int .i64 l) (fun W hSw => by unfold qW4_18; go_simp) hHeld ?_
      try simp only [pt, List.set]
      refine regY tW4_19 (.bool lb) (fun W hSw => by unfold qW4_19; go_simp) hHeld ?_
      try simp only [pt, List.set]
      refine regY tW4_20 (.int .i64 l) (fun W hSw => by unfold qW4_20; go_simp) hHeld ?_
      try simp only [pt, List.set]
      refine regY tW4_21 (.bool lb) (fun W hSw => by unfold qW4_21; go_simp) hHeld ?_
      try simp only [pt, List.set]
      refine wpAnyH_done (by kernel_rfl) ?_ _
      have d3 := hHeld.c3
      have BE := Lib.hid (below_chain BV.out hHeld.bel)
      clear hHeld HD BV HB
      cases lb with
      | false =>
        obtain rfl : q = false := by rw [← HQ.out, nwC_eq]; exact all_off HLJ.out (by rw [HN.out]; rfl)
        go_wp2
        go_ret
        exact ⟨rfl, BE.out⟩
      | true =>
        by_cases hle : l ≤ p3
        · have dg : decide (p3 < l) = false := by simp; omega
          have HT2 := Lib.hid (all_on HLJ.out HT.out (by rw [HN.out]; simp [hle]))
          clear hle HT HN
          go_wp2
          go_roundw
          case rel => exact ⟨j + 1, by omega, by go_num, HT2.out, BE.out⟩
          case measure => simp [intOf]; omega
        · have dg : decide (p3 < l) = true := by simp; omega
          obtain rfl : q = false := by rw [← HQ.out, nwC_eq]; exact all_off HLJ.out (by rw [HN.out]; simp [hle])
          clear hle HT HN
          go_wp2
          go_ret
          exact ⟨rfl, BE.out⟩
    · obtain rfl : j = n2 := by omega
      obtain rfl : q = true := by rw [← HQ.out, nwC_eq]; exact all_whole (Nat.le_of_eq H2L.out) HT.out
      have dl : decide (j < j) = false := by simp
      clear hlt
      go_wp2
      go_ret
      exact ⟨rfl, HB.out⟩
theorem specNw_is {ys bs : List Ce} {q : Bool} (hq : nwC ys bs = q) {A1 : Option Addr} {n1 c1 : Nat} (hl1 : ys.length = n1) (hn1 : n1 ≤ 2000000) {A2 : Option Addr} {n2 c2 : Nat} (hl2 : bs.length = n2) (hn2 : n2 ≤ 2000000) (w : World) (h1 : Ces w A1 ys) (h2 : Ces w A2 bs) :
    Calls Try.prog 26 #[.slice A1 n1 c1, .slice A2 n2 c2] w fun e w' => e = .returned (.bool q) ∧ Below w.heap.size w w' := by
  subst hq; exact specNw_any ys bs A1 n1 c1 hl1 hn1 A2 n2 c2 hl2 hn2 w h1 h2
end Go.Proofs.Ytbbagpnjjjohpaa.hexes

