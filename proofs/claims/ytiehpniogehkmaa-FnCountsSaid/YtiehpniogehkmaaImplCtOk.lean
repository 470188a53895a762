/-
  The program's CountsOk: the contracts of impl.countInRange and impl.CountsOk.
-/
import Derived.Test.YtiehpniogehkmaaSpecCtOk
import Derived.Test.YtiehpniogehkmaaRegI6
namespace Go.Proofs.Ytiehpniogehkmaa.hexes
open Go.RowKit

structure Pair1 (W : World) (w' : World) : Prop where
  bel : Below W.heap.size W w'
theorem Pair1.drew {W : World} {w' : World} (h : Pair1 W w') : Pair1 W w'.drew := ⟨h.bel.drew⟩
theorem Pair1.below {W : World} {w' w2 : World} (h : Pair1 W w') (hb : Below w'.heap.size w' w2) : Pair1 W w2 := ⟨below_chain h.bel hb⟩
structure Pair3 (W : World) (b o : Nat) (r0 r1 : Int) (bc : Nat) (p0 p1 : Int) (w' : World) : Prop where
  c0 : w'.cell? ⟨b, o, none⟩ = some (.int .i64 r0)
  c1 : w'.cell? ⟨b, o + 1, none⟩ = some (.int .i64 r1)
  d0 : w'.cell? ⟨bc, 0, none⟩ = some (.int .i64 p0)
  d1 : w'.cell? ⟨bc, 1, none⟩ = some (.int .i64 p1)
  bel : Below W.heap.size W w'
theorem Pair3.drew {W : World} {b o : Nat} {r0 r1 : Int} {bc : Nat} {p0 p1 : Int} {w' : World} (h : Pair3 W b o r0 r1 bc p0 p1 w') : Pair3 W b o r0 r1 bc p0 p1 w'.drew := ⟨h.c0, h.c1, h.d0, h.d1, h.bel.drew⟩
theorem Pair3.below {W : World} {b o : Nat} {r0 r1 : Int} {bc : Nat} {p0 p1 : Int} {w' w2 : World} (h : Pair3 W b o r0 r1 bc p0 p1 w') (hb : Below w'.heap.size w' w2) : Pair3 W b o r0 r1 bc p0 p1 w2 := ⟨below_keep hb h.c0, below_keep hb h.c1, below_keep hb h.d0, below_keep hb h.d1, below_chain h.bel hb⟩

theorem implOkS_is {x y : Int} {b : Bool} (h : okSt x y = b) (W : World) : Calls Try.prog 46 #[.agg #[.int .i64 x, .int .i64 y]] W fun e w' => e = .returned (.bool b) ∧ Below W.heap.size W w' := by
  subst h; exact implOk_any _ _ W

theorem inRange_any (n : Int) (w : World) : Calls Try.prog 54 #[.int .i64 n] w fun e w' => e = .returned (.bool (decide (-1000000 ≤ n ∧ n ≤ 1000000))) ∧ w = w' := by
  by_cases h1 : -1000000 ≤ n
  · have q1 : decide (n ≥ -1000000) = true := decide_eq_true h1
    by_cases h2 : n ≤ 1000000
    · have q2 : decide (n ≤ 1000000) = true := decide_eq_true h2
      rw [decide_eq_true (⟨h1, h2⟩ : -1000000 ≤ n ∧ n ≤ 1000000)]
      go_enter Try.func54, Try.ntmps54
      go_wp2
      go_ret
      exact ⟨rfl, rfl⟩
    · have q2 : decide (n ≤ 1000000) = false := decide_eq_false h2
      rw [decide_eq_false (fun h : -1000000 ≤ n ∧ n ≤ 1000000 => h2 h.2)]
      go_enter Try.func54, Try.ntmps54
      go_wp2
      go_ret
      exact ⟨rfl, rfl⟩
  · have q1 : decide (n ≥ -1000000) = false := decide_eq_false h1
    rw [decide_eq_false (fun h : -1000000 ≤ n ∧ n ≤ 1000000 => h1 h.1)]
    go_enter Try.func54, Try.ntmps54
    go_wp2
    go_ret
    exact ⟨rfl, rfl⟩
theorem inRange_is {n : Int} {r : Bool} (h : decide (-1000000 ≤ n ∧ n ≤ 1000000) = r) (W : World) : Calls Try.prog 54 #[.int .i64 n] W fun e w' => e = .returned (.bool r) ∧ W = w' := by
  subst h; exact inRange_any n W

set_option maxRecDepth 1000000 in
set_option maxHeartbeats 8000000 in
theorem implCtOk_any (n : Nat) (zs : List Ct) (hz : zs.length = n) (A : Option Addr) (c : Nat) (w : World) (h1 : Cts w A zs) (hn : n ≤ 4194304) :
    Calls Try.prog 16 #[.slice A n c] w fun e w' => e = .returned (.bool (okCts zs)) ∧ Below w.heap.size w w' := by
  have H1 := Lib.hid h1
  have HZ := Lib.hid hz
  clear h1 hz
  go_enter Try.func16, Try.ntmps16
  go_wp2
  go_loopw [7] (fun i wr => ∃ k : Nat, k ≤ n ∧ i = .int .i64 k ∧ (List.range k).all (okAt zs) = true ∧ Below w.heap.size w wr) (fun i _ => n - (intOf i).toNat)
  case atStart => exact ⟨0, Nat.zero_le _, rfl, rfl, Below.refl _ _⟩
  case round =>
    obtain ⟨k, hk, rfl, ht, hb⟩ := hrel
    have HT := Lib.hid ht
    have HB := Lib.hid hb
    clear ht
    by_cases hlt : k < n
    · have l1 : k < zs.length := by rw [HZ.out]; exact hlt
      have HR := Lib.hid (H1.out.below hb)
      obtain ⟨b, off, p0, p1, p2, rfl, x1, e0, e1, e2⟩ := HR.out.at l1
      have i0 : (0 : Int) ≤ (k : Int) := by omega
      have i1 : (k : Int) < (n : Int) := by omega
      have BA := Lib.hid (HB.out.alloc HB.out.size (.cells #[.int .i64 p0, .int .i64 p1, .int .i64 p2] 62))
      obtain ⟨bc, hbc⟩ : ∃ bc, wr.heap.size = bc := ⟨_, rfl⟩
      have a0 : (wr.alloc (.cells #[.int .i64 p0, .int .i64 p1, .int .i64 p2] 62)).cell? ⟨bc, 0, none⟩ = some (.int .i64 p0) := by rw [← hbc]; simp
      have a1 : (wr.alloc (.cells #[.int .i64 p0, .int .i64 p1, .int .i64 p2] 62)).cell? ⟨bc, 1, none⟩ = some (.int .i64 p1) := by rw [← hbc]; simp
      have a2 : (wr.alloc (.cells #[.int .i64 p0, .int .i64 p1, .int .i64 p2] 62)).cell? ⟨bc, 2, none⟩ = some (.int .i64 p2) := by rw [← hbc]; simp
      have HBC := Lib.hid hbc
      have A0 := Lib.hid a0
      have A1 := Lib.hid a1
      have A2 := Lib.hid a2
      clear hb hbc a0 a1 a2
      cases h1 : okSt p0 p1 with
      | false =>
        have HF := Lib.hid (okCts_no l1 (okAt_le l1 x1 (by rw [h1]; rfl)))
        have E1 := Lib.hid (fun W => implOkS_is h1 W)
        clear x1 l1 h1 HT A0 A1 A2 HBC
        go_wp2_with fail
        refine (E1.out _).mono ?_
        rintro e w5 ⟨rfl, hbd⟩
        have BF := Lib.hid (below_chain BA.out hbd)
        clear hbd BA
        go_wp2
        go_ret
        exact ⟨congrArg (fun b => Ending.returned (Value.bool b)) HF.out.symm, BF.out⟩
      | true =>
        have E1 := Lib.hid (fun W => implOkS_is h1 W)
        go_wp2_with fail
        refine (E1.out _).mono ?_
        rintro e w5 ⟨rfl, hbd⟩
        have a0 := below_keep hbd A0.out
        have a1 := below_keep hbd A1.out
        have a2 := below_keep hbd A2.out
        have B5 := Lib.hid (below_chain BA.out hbd)
        have HR5 := Lib.hid (H1.out.below B5.out)
        clear hbd BA A0 A1 A2 e0 e1 e2 E1
        rw [HBC.out]
        clear HBC
        cases h2 : decide (-1000000 ≤ p2 ∧ p2 ≤ 1000000) with
        | false =>
          have HF := Lib.hid (okCts_no l1 (okAt_le l1 x1 (by rw [h1, h2]; rfl)))
          have E2 := Lib.hid (fun W => inRange_is h2 W)
          clear x1 l1 h1 h2 HT
          go_wp2_with fail
          refine (E2.out _).mono ?_
          rintro e w6 ⟨rfl, rfl⟩
          go_wp2
          go_ret
          exact ⟨congrArg (fun b => Ending.returned (Value.bool b)) HF.out.symm, B5.out⟩
        | true =>
          have E2 := Lib.hid (fun W => inRange_is h2 W)
          go_wp2_with fail
          refine (E2.out _).mono ?_
          rintro e w6 ⟨rfl, rfl⟩
          clear E2
          by_cases h3 : p2 = 0
          · have HF := Lib.hid (okCts_no l1 (okAt_le l1 x1 (by rw [h1, h2]; simp [h3])))
            have q0 : (p2 == 0) = true := by simpa using h3
            clear x1 l1 h1 h2 h3 HT
            go_wp2
            go_ret
            exact ⟨congrArg (fun b => Ending.returned (Value.bool b)) HF.out.symm, B5.out⟩
          · have q0 : (p2 == 0) = false := by simpa using h3
            rcases Nat.eq_zero_or_pos k with hk0 | hk0
            · have HK0 := Lib.hid hk0
              have HT2 := Lib.hid (okCts_step HT.out (by subst hk0; rw [okAt_zero l1 x1, h1, h2]; simpa using h3))
              have q1 : decide ((k : Int) > 0) = false := by simp; omega
              have T0 := Lib.hid (show Pair1 w5 w5 from ⟨Below.refl _ _⟩)
              clear x1 l1 h1 h2 h3 HT hk0
              go_wp2_with fail
              refine wp_region_held_drew (S := Pair1 w5) (by kernel_rfl) ?_ (fun hHeld => ?_)
              · skip
                exact T0.out.drew
              change wpAnyH _ _ opsI6 _ _ 14 (LI6 0) _ _
              refine tI6_0 (.int .i64 (k : Int)) (fun _ _ _ h => h) (Or.inl ⟨by rfl, fun W hSw => ?_⟩) hHeld ?_
              · skip
                unfold qI6_0
                go_simp
              try simp only [Act.put, List.setIfInBounds_toArray, List.set_cons_zero, List.set_cons_succ]
              refine tI6_1 (.bool false) (fun _ _ _ h => h) (Or.inl ⟨by rfl, fun W hSw => ?_⟩) hHeld ?_
              · skip
                unfold qI6_1
                go_simp
                exact HK0.out
              try simp only [Act.put, List.setIfInBounds_toArray, List.set_cons_zero, List.set_cons_succ]
              refine tI6_2 (.bool false) (fun _ _ _ h => h) (Or.inl ⟨by rfl, fun W hSw => ?_⟩) hHeld ?_
              · skip
                unfold qI6_2
                go_simp
              try simp only [Act.put, List.setIfInBounds_toArray, List.set_cons_zero, List.set_cons_succ]
              refine tI6_3 undef (fun _ _ _ h => h) (Or.inr ⟨by rfl, rfl⟩) hHeld ?_
              try simp only [Act.put, List.setIfInBounds_toArray, List.set_cons_zero, List.set_cons_succ]
              refine tI6_4 undef (fun _ _ _ h => h) (Or.inr ⟨by rfl, rfl⟩) hHeld ?_
              try simp only [Act.put, List.setIfInBounds_toArray, List.set_cons_zero, List.set_cons_succ]
              refine tI6_5 undef (fun _ _ _ h => h) (Or.inr ⟨by rfl, rfl⟩) hHeld ?_
              try simp only [Act.put, List.setIfInBounds_toArray, List.set_cons_zero, List.set_cons_succ]
              refine tI6_6 undef (fun _ _ _ h => h) (Or.inr ⟨by rfl, rfl⟩) hHeld ?_
              try simp only [Act.put, List.setIfInBounds_toArray, List.set_cons_zero, List.set_cons_succ]
              refine tI6_7 undef (fun _ _ _ h => h) (Or.inr ⟨by rfl, rfl⟩) hHeld ?_
              try simp only [Act.put, List.setIfInBounds_toArray, List.set_cons_zero, List.set_cons_succ]
              refine tI6_8 undef (fun _ _ _ h => h) (Or.inr ⟨by rfl, rfl⟩) hHeld ?_
              try simp only [Act.put, List.setIfInBounds_toArray, List.set_cons_zero, List.set_cons_succ]
              refine tI6_9 undef (fun _ _ _ h => h) (Or.inr ⟨by rfl, rfl⟩) hHeld ?_
              try simp only [Act.put, List.setIfInBounds_toArray, List.set_cons_zero, List.set_cons_succ]
              refine tI6_10 undef (fun _ _ _ h => h) (Or.inr ⟨by rfl, rfl⟩) hHeld ?_
              try simp only [Act.put, List.setIfInBounds_toArray, List.set_cons_zero, List.set_cons_succ]
              refine tI6_11 undef (fun _ _ _ h => h) (Or.inr ⟨by rfl, rfl⟩) hHeld ?_
              try simp only [Act.put, List.setIfInBounds_toArray, List.set_cons_zero, List.set_cons_succ]
              refine tI6_12 undef (fun _ _ _ h => h) (Or.inr ⟨by rfl, rfl⟩) hHeld ?_
              try simp only [Act.put, List.setIfInBounds_toArray, List.set_cons_zero, List.set_cons_succ]
              refine tI6_13 (Value.bool false) (fun _ _ _ h => h) (Or.inl ⟨by rfl, fun W hSw => ?_⟩) hHeld ?_
              · skip
                unfold qI6_13
                go_simp
              try simp only [Act.put, List.setIfInBounds_toArray, List.set_cons_zero, List.set_cons_succ]
              refine wpAnyH_done (by kernel_rfl) ?_ _
              have BF := Lib.hid (below_chain B5.out hHeld.bel)
              clear hHeld
              go_wp2
              go_roundw
              case rel => exact ⟨k + 1, by omega, by go_num, HT2.out, BF.out⟩
              case measure => simp [intOf]; omega
            · have HK0 := Lib.hid hk0
              obtain ⟨j, hj⟩ : ∃ j, k = j + 1 := ⟨k - 1, by omega⟩
              obtain ⟨b', off', r0, r1, r2, hA, xj, d0, d1, d2⟩ := HR5.out.at (k := j) (by omega)
              simp only [Option.some.injEq, Addr.mk.injEq, and_true] at hA
              obtain ⟨rfl, rfl⟩ := hA
              have hsub : (k : Int) - 1 = (j : Int) := by omega
              have hwr : IntKind.i64.wrap (j : Int) = (j : Int) := IntWalk.i64_in _ (by omega)
              have j0 : (0 : Int) ≤ (j : Int) := by omega
              have j1 : (j : Int) < (n : Int) := by omega
              have q1 : decide ((k : Int) > 0) = true := by simp; omega
              have E3 := Lib.hid (fun W => implOrder_any r0 r1 p0 p1 W)
              have hok : okAt zs k = decide (ltS (r0, r1) (p0, p1)) := by subst hj; rw [okAt_succ l1 x1 xj, h1, h2]; simp [h3]
              have T0 := Lib.hid (show Pair3 w5 b (off + j * 3) r0 r1 bc p0 p1 w5 from ⟨d0, d1, a0, a1, Below.refl _ _⟩)
              by_cases h4 : ltS (r0, r1) (p0, p1)
              · have HT2 := Lib.hid (okCts_step HT.out (by rw [hok]; simpa using h4))
                have q2 : decide (ordSt r0 r1 p0 p1 ≥ 0) = false := by have := (ord_lt (r0, r1) (p0, p1)).2 h4; simp at this ⊢; omega
                clear x1 xj l1 d0 d1 d2 h1 h2 h3 HT hk0 hj h4 hok
                go_wp2_with fail
                refine wp_region_held_drew (S := Pair3 w5 b (off + j * 3) r0 r1 bc p0 p1) (by kernel_rfl) ?_ (fun hHeld => ?_)
                · skip
                  exact T0.out.drew
                change wpAnyH _ _ opsI6 _ _ 14 (LI6 0) _ _
                refine tI6_0 (.int .i64 (k : Int)) (fun _ _ _ h => h) (Or.inl ⟨by rfl, fun W hSw => ?_⟩) hHeld ?_
                · skip
                  unfold qI6_0
                  go_simp
                try simp only [Act.put, List.setIfInBounds_toArray, List.set_cons_zero, List.set_cons_succ]
                refine tI6_1 (.bool true) (fun _ _ _ h => h) (Or.inl ⟨by rfl, fun W hSw => ?_⟩) hHeld ?_
                · skip
                  unfold qI6_1
                  go_simp
                  exact HK0.out
                try simp only [Act.put, List.setIfInBounds_toArray, List.set_cons_zero, List.set_cons_succ]
                refine tI6_2 (.bool true) (fun _ _ _ h => h) (Or.inl ⟨by rfl, fun W hSw => ?_⟩) hHeld ?_
                · skip
                  unfold qI6_2
                  go_simp
                try simp only [Act.put, List.setIfInBounds_toArray, List.set_cons_zero, List.set_cons_succ]
                refine tI6_3 (.slice (some ⟨b, off, none⟩) n c) (fun _ _ _ h => h) (Or.inl ⟨by rfl, fun W hSw => ?_⟩) hHeld ?_
                · skip
                  unfold qI6_3
                  go_simp
                try simp only [Act.put, List.setIfInBounds_toArray, List.set_cons_zero, List.set_cons_succ]
                refine tI6_4 (.int .i64 (k : Int)) (fun _ _ _ h => h) (Or.inl ⟨by rfl, fun W hSw => ?_⟩) hHeld ?_
                · skip
                  unfold qI6_4
                  go_simp
                try simp only [Act.put, List.setIfInBounds_toArray, List.set_cons_zero, List.set_cons_succ]
                refine tI6_5 (.int .i64 (j : Int)) (fun _ _ _ h => h) (Or.inl ⟨by rfl, fun W hSw => ?_⟩) hHeld ?_
                · skip
                  unfold qI6_5
                  go_simp
                try simp only [Act.put, List.setIfInBounds_toArray, List.set_cons_zero, List.set_cons_succ]
                refine tI6_6 (.pointer (some ⟨b, off + j * 3, none⟩)) (fun _ _ _ h => h) (Or.inl ⟨by rfl, fun W hSw => ?_⟩) hHeld ?_
                · skip
                  unfold qI6_6
                  go_simp
                try simp only [Act.put, List.setIfInBounds_toArray, List.set_cons_zero, List.set_cons_succ]
                refine tI6_7 (.pointer (some ⟨b, off + j * 3, none⟩)) (fun _ _ _ h => h) (Or.inl ⟨by rfl, fun W hSw => ?_⟩) hHeld ?_
                · skip
                  unfold qI6_7
                  go_simp
                try simp only [Act.put, List.setIfInBounds_toArray, List.set_cons_zero, List.set_cons_succ]
                refine tI6_8 (.agg #[.int .i64 r0, .int .i64 r1]) (fun _ _ _ h => h) (Or.inl ⟨by rfl, fun W hSw => ?_⟩) hHeld ?_
                · skip
                  unfold qI6_8
                  obtain ⟨c0, c1, d0, d1, bl⟩ := hSw
                  go_simp
                try simp only [Act.put, List.setIfInBounds_toArray, List.set_cons_zero, List.set_cons_succ]
                refine tI6_9 (.pointer (some ⟨bc, 0, none⟩)) (fun _ _ _ h => h) (Or.inl ⟨by rfl, fun W hSw => ?_⟩) hHeld ?_
                · skip
                  unfold qI6_9
                  go_simp
                try simp only [Act.put, List.setIfInBounds_toArray, List.set_cons_zero, List.set_cons_succ]
                refine tI6_10 (.agg #[.int .i64 p0, .int .i64 p1]) (fun _ _ _ h => h) (Or.inl ⟨by rfl, fun W hSw => ?_⟩) hHeld ?_
                · skip
                  unfold qI6_10
                  obtain ⟨c0, c1, d0, d1, bl⟩ := hSw
                  go_simp
                try simp only [Act.put, List.setIfInBounds_toArray, List.set_cons_zero, List.set_cons_succ]
                refine cI6_11 (fun K hK => ?_)
                rw [if_pos (by rfl)]
                unfold qI6_11
                go_simp
                with_reducible refine (E3.out _).mono ?_
                rintro e w9 ⟨rfl, hbd⟩
                dsimp only
                refine Shut.out hK _ _ ?_ (fun hHeld => ?_)
                · skip
                  exact hHeld.below hbd
                clear hK K
                try simp only [Act.put, List.setIfInBounds_toArray, List.set_cons_zero, List.set_cons_succ]
                refine tI6_12 (.bool false) (fun _ _ _ h => h) (Or.inl ⟨by rfl, fun W hSw => ?_⟩) hHeld ?_
                · skip
                  unfold qI6_12
                  go_simp
                try simp only [Act.put, List.setIfInBounds_toArray, List.set_cons_zero, List.set_cons_succ]
                refine tI6_13 (.bool false) (fun _ _ _ h => h) (Or.inl ⟨by rfl, fun W hSw => ?_⟩) hHeld ?_
                · skip
                  unfold qI6_13
                  go_simp
                try simp only [Act.put, List.setIfInBounds_toArray, List.set_cons_zero, List.set_cons_succ]
                refine wpAnyH_done (by kernel_rfl) ?_ _
                have BF := Lib.hid (below_chain B5.out hHeld.bel)
                clear hHeld
                go_wp2
                go_roundw
                case rel => exact ⟨k + 1, by omega, by go_num, HT2.out, BF.out⟩
                case measure => simp [intOf]; omega
              · have HF := Lib.hid (okCts_no l1 (by rw [hok]; simpa using h4))
                have q2 : decide (ordSt r0 r1 p0 p1 ≥ 0) = true := by have := fun h => h4 ((ord_lt (r0, r1) (p0, p1)).1 h); simp at this ⊢; omega
                clear x1 xj l1 d0 d1 d2 h1 h2 h3 HT hk0 hj h4 hok
                go_wp2_with fail
                refine wp_region_held_drew (S := Pair3 w5 b (off + j * 3) r0 r1 bc p0 p1) (by kernel_rfl) ?_ (fun hHeld => ?_)
                · skip
                  exact T0.out.drew
                change wpAnyH _ _ opsI6 _ _ 14 (LI6 0) _ _
                refine tI6_0 (.int .i64 (k : Int)) (fun _ _ _ h => h) (Or.inl ⟨by rfl, fun W hSw => ?_⟩) hHeld ?_
                · skip
                  unfold qI6_0
                  go_simp
                try simp only [Act.put, List.setIfInBounds_toArray, List.set_cons_zero, List.set_cons_succ]
                refine tI6_1 (.bool true) (fun _ _ _ h => h) (Or.inl ⟨by rfl, fun W hSw => ?_⟩) hHeld ?_
                · skip
                  unfold qI6_1
                  go_simp
                  exact HK0.out
                try simp only [Act.put, List.setIfInBounds_toArray, List.set_cons_zero, List.set_cons_succ]
                refine tI6_2 (.bool true) (fun _ _ _ h => h) (Or.inl ⟨by rfl, fun W hSw => ?_⟩) hHeld ?_
                · skip
                  unfold qI6_2
                  go_simp
                try simp only [Act.put, List.setIfInBounds_toArray, List.set_cons_zero, List.set_cons_succ]
                refine tI6_3 (.slice (some ⟨b, off, none⟩) n c) (fun _ _ _ h => h) (Or.inl ⟨by rfl, fun W hSw => ?_⟩) hHeld ?_
                · skip
                  unfold qI6_3
                  go_simp
                try simp only [Act.put, List.setIfInBounds_toArray, List.set_cons_zero, List.set_cons_succ]
                refine tI6_4 (.int .i64 (k : Int)) (fun _ _ _ h => h) (Or.inl ⟨by rfl, fun W hSw => ?_⟩) hHeld ?_
                · skip
                  unfold qI6_4
                  go_simp
                try simp only [Act.put, List.setIfInBounds_toArray, List.set_cons_zero, List.set_cons_succ]
                refine tI6_5 (.int .i64 (j : Int)) (fun _ _ _ h => h) (Or.inl ⟨by rfl, fun W hSw => ?_⟩) hHeld ?_
                · skip
                  unfold qI6_5
                  go_simp
                try simp only [Act.put, List.setIfInBounds_toArray, List.set_cons_zero, List.set_cons_succ]
                refine tI6_6 (.pointer (some ⟨b, off + j * 3, none⟩)) (fun _ _ _ h => h) (Or.inl ⟨by rfl, fun W hSw => ?_⟩) hHeld ?_
                · skip
                  unfold qI6_6
                  go_simp
                try simp only [Act.put, List.setIfInBounds_toArray, List.set_cons_zero, List.set_cons_succ]
                refine tI6_7 (.pointer (some ⟨b, off + j * 3, none⟩)) (fun _ _ _ h => h) (Or.inl ⟨by rfl, fun W hSw => ?_⟩) hHeld ?_
                · skip
                  unfold qI6_7
                  go_simp
                try simp only [Act.put, List.setIfInBounds_toArray, List.set_cons_zero, List.set_cons_succ]
                refine tI6_8 (.agg #[.int .i64 r0, .int .i64 r1]) (fun _ _ _ h => h) (Or.inl ⟨by rfl, fun W hSw => ?_⟩) hHeld ?_
                · skip
                  unfold qI6_8
                  obtain ⟨c0, c1, d0, d1, bl⟩ := hSw
                  go_simp
                try simp only [Act.put, List.setIfInBounds_toArray, List.set_cons_zero, List.set_cons_succ]
                refine tI6_9 (.pointer (some ⟨bc, 0, none⟩)) (fun _ _ _ h => h) (Or.inl ⟨by rfl, fun W hSw => ?_⟩) hHeld ?_
                · skip
                  unfold qI6_9
                  go_simp
                try simp only [Act.put, List.setIfInBounds_toArray, List.set_cons_zero, List.set_cons_succ]
                refine tI6_10 (.agg #[.int .i64 p0, .int .i64 p1]) (fun _ _ _ h => h) (Or.inl ⟨by rfl, fun W hSw => ?_⟩) hHeld ?_
                · skip
                  unfold qI6_10
                  obtain ⟨c0, c1, d0, d1, bl⟩ := hSw
                  go_simp
                try simp only [Act.put, List.setIfInBounds_toArray, List.set_cons_zero, List.set_cons_succ]
                refine cI6_11 (fun K hK => ?_)
                rw [if_pos (by rfl)]
                unfold qI6_11
                go_simp
                with_reducible refine (E3.out _).mono ?_
                rintro e w9 ⟨rfl, hbd⟩
                dsimp only
                refine Shut.out hK _ _ ?_ (fun hHeld => ?_)
                · skip
                  exact hHeld.below hbd
                clear hK K
                try simp only [Act.put, List.setIfInBounds_toArray, List.set_cons_zero, List.set_cons_succ]
                refine tI6_12 (.bool true) (fun _ _ _ h => h) (Or.inl ⟨by rfl, fun W hSw => ?_⟩) hHeld ?_
                · skip
                  unfold qI6_12
                  go_simp
                try simp only [Act.put, List.setIfInBounds_toArray, List.set_cons_zero, List.set_cons_succ]
                refine tI6_13 (.bool true) (fun _ _ _ h => h) (Or.inl ⟨by rfl, fun W hSw => ?_⟩) hHeld ?_
                · skip
                  unfold qI6_13
                  go_simp
                try simp only [Act.put, List.setIfInBounds_toArray, List.set_cons_zero, List.set_cons_succ]
                refine wpAnyH_done (by kernel_rfl) ?_ _
                have BF := Lib.hid (below_chain B5.out hHeld.bel)
                clear hHeld
                go_wp2
                go_ret
                exact ⟨congrArg (fun b => Ending.returned (Value.bool b)) HF.out.symm, BF.out⟩
    · have HF := Lib.hid (show okCts zs = true by have h3 := HT.out; rw [show k = zs.length by rw [HZ.out]; omega] at h3; exact h3)
      clear hb
      go_wp2
      go_ret
      exact ⟨congrArg (fun b => Ending.returned (Value.bool b)) HF.out.symm, HB.out⟩
end Go.Proofs.Ytiehpniogehkmaa.hexes
