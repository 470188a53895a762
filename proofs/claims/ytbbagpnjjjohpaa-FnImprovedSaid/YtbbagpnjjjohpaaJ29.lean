/-
  The program's recallLeast: its contract.
-/
import Derived.Test.YtbbagpnjjjohpaaJ28

namespace Go.Proofs.Ytbbagpnjjjohpaa.hexes
open Go.RowKit

theorem XW.grown {V : World} {b : Nat} {x0 x1 x2 x3 : Int} {w w' : World} {g : Nat} (h : XW V b x0 x1 x2 x3 w) (gr : w.grownBy w' (some g)) (hg : V.heap.size ≤ g) (hb : b < V.heap.size) : XW V b x0 x1 x2 x3 w' :=
  ⟨h.x.grown gr (by simp only [ne_eq, Option.some.injEq]; omega), h.bel.grown gr h.bel.size (fun j hj => by simp at hj; omega)⟩
theorem row_at {w : World} {B e size n : Nat} {v : Value} {xs : List Value} (h : w.ownsRow B e size v n xs) (hn : 0 < n) : ∃ g cc, v = .slice (some ⟨g, 0, none⟩) n cc ∧ B ≤ g := by
  rcases h.2 with ⟨_, h0⟩ | ⟨g, cap, cur, hv, hb, _⟩
  · omega
  · exact ⟨g, cap, hv, hb⟩
theorem shares_all (x0 x1 x2 x3 : Int) : PredAll 91 #[.agg #[.int .i64 x0, .int .i64 x1, .int .i64 x2, .int .i64 x3]] #[] (keyC x0 x1 x2) := by
  intro W z0 z1 z2 z3
  show Calls Try.prog 91 #[.agg #[.int .i64 x0, .int .i64 x1, .int .i64 x2, .int .i64 x3], .agg #[.int .i64 z0, .int .i64 z1, .int .i64 z2, .int .i64 z3]] W _
  refine (shares_any x0 x1 x2 x3 z0 z1 z2 z3 W).mono ?_
  rintro e w' ⟨rfl, hb⟩
  refine ⟨?_, hb⟩
  congr 2
  unfold keyC
  rw [decide_eq_decide]
  exact ⟨fun ⟨a, b, c⟩ => ⟨a.symm, b.symm, c.symm⟩, fun ⟨a, b, c⟩ => ⟨a.symm, b.symm, c.symm⟩⟩

/-- slices.DeleteFunc of a list of no element. -/
theorem delNone_any (f : Nat) (bs lb : Array Value) (eg : ∀ args w, (callFunc f args).run Try.prog w = .ok (.enter f args) w) (p : Ce → Bool) (hp : PredAll f bs lb p) (A : Option Addr) (c : Nat) (w : World) :
    Calls Try.prog 105 #[.slice A 0 c, .func (.func f) bs lb] w fun e w' => e = .returned (.slice A 0 c) ∧ Below w.heap.size w w' := by
  have C := Lib.hid (idxFn_any f bs lb eg p 0 [] rfl A c w (fun h => absurd h (by simp)) (hp.pred w) (by omega))
  clear hp
  go_enter Try.func105, Try.ntmps105
  go_wp2_with fail
  refine C.out.mono ?_
  rintro e w1 ⟨r, rfl, hr, b1⟩
  have B1 := Lib.hid b1
  clear b1 C
  rcases hr.hit with ⟨k, hk, _⟩ | ⟨rfl, _⟩
  · simp at hk
  · clear hr
    go_wp2
    go_ret
    exact ⟨rfl, B1.out⟩

set_option maxRecDepth 1000000 in
set_option maxHeartbeats 8000000 in
theorem recLeast_any (n : Nat) (zs : List Ce) (hz : zs.length = n) (A : Option Addr) (c : Nat) (hA : A = none → c = 0) (hc : n ≤ c) (x0 x1 x2 x3 : Int) (w : World) (h1 : Ces w A zs) (hn : n ≤ 2000000) :
    Calls Try.prog 79 #[.slice A n c, .agg #[.int .i64 x0, .int .i64 x1, .int .i64 x2, .int .i64 x3]] w fun e w' => ∃ v, e = .returned (.tuple #[v, .bool (recL zs (x0, x1, x2, x3)).2]) ∧ w'.ownsRow w.heap.size 38 4 v (recL zs (x0, x1, x2, x3)).1.length (ceCells (recL zs (x0, x1, x2, x3)).1) ∧ Below w.heap.size w w' := by
  have H1 := Lib.hid h1
  have HZ := Lib.hid hz
  have HA := Lib.hid hA
  have HC := Lib.hid hc
  clear h1 hz hA hc
  obtain ⟨m, sm, hL⟩ : ∃ m sm, leastC zs x0 x1 x2 = (m, sm) := ⟨_, _, rfl⟩
  have HL := Lib.hid hL
  obtain ⟨W, hW⟩ : ∃ z, w.alloc (.cells #[.int .i64 x0, .int .i64 x1, .int .i64 x2, .int .i64 x3] 38) = z := ⟨_, rfl⟩
  have BW := Lib.hid (show Below w.heap.size w W by rw [← hW]; exact (Below.refl _ _).alloc (Nat.le_refl _) _)
  have XX := Lib.hid (show XB w.heap.size x0 x1 x2 x3 W by rw [← hW]; exact XB.new _ _ _ _ _)
  have BXW := Lib.hid (show w.heap.size < W.heap.size by rw [← hW]; simp)
  have c0 := XX.out.c0
  have c1 := XX.out.c1
  have c2 := XX.out.c2
  have c3 := XX.out.c3
  have C := implLeast_any n zs HZ.out A c x0 x1 x2 W (H1.out.below BW.out) (by omega)
  rw [hL] at C
  have E := Lib.hid C
  clear C hL
  go_enter Try.func79, Try.ntmps79
  go_wp2_with fail
  clear hW
  refine E.out.mono ?_
  rintro e w3 ⟨rfl, b3⟩
  have B3 := Lib.hid (below_chain BW.out b3)
  have X3 := Lib.hid (XX.out.below b3)
  have BX3 := Lib.hid (Nat.lt_of_lt_of_le BXW.out b3.size)
  clear b3 E c0 c1 c2 c3 XX BXW BW W
  have c3 := X3.out.c3
  obtain ⟨V, hV⟩ : ∃ z, w3.drew = z := ⟨_, rfl⟩
  have BV := Lib.hid (show Below w.heap.size w V by rw [← hV]; exact B3.out.drew)
  have XV := Lib.hid (show XW V w.heap.size x0 x1 x2 x3 V by rw [← hV]; exact ⟨X3.out.drew, Below.refl _ _⟩)
  have BX := Lib.hid (show w.heap.size < V.heap.size by rw [← hV]; exact BX3.out)
  cases sm with
  | true =>
    by_cases hm : m ≤ x3
    · have d3 : decide (m ≤ x3) = true := decide_eq_true hm
      have HF := Lib.hid (show recL zs (x0, x1, x2, x3) = (zs, false) by
        have h := HL.out
        simp [recL, h, hm])
      clear hm hV BV XV BX V
      go_wp2_with fail
      refine (cloneCe_any n zs HZ.out A c HA.out w3 (H1.out.below B3.out) (by omega)).mono ?_
      rintro e w5 ⟨v, rfl, o5, b5⟩
      have OF := Lib.hid (own_base o5 B3.out.size)
      have BF := Lib.hid (below_chain B3.out b5)
      clear o5 b5 c3
      go_wp2
      exact bodyPost_ret (v := .tuple #[v, .bool false]) (by simp [results, Try.results79, go_sem]) rfl ⟨v, by rw [HF.out], by rw [HF.out]; simp only [HZ.out]; exact OF.out, BF.out⟩
    · have d3 : decide (m ≤ x3) = false := decide_eq_false hm
      have HF := Lib.hid (show recL zs (x0, x1, x2, x3) = (putC (delC zs (x0, x1, x2, x3)) (x0, x1, x2, x3), true) by
        have h := HL.out
        simp [recL, h, hm])
      clear hm
      by_cases hn0 : 0 < n
      · go_wp2_with fail
        clear c3
        refine wp_region_held_drew (S := XW V w.heap.size x0 x1 x2 x3) (by kernel_rfl) ?_ (fun hHeld => ?_)
        · skip
          rw [hV]; exact XV.out
        change wpAnyH _ _ opsJ4 _ _ 6 (LJ4 0) _ _
        rw [hV] at hHeld ⊢
        clear hV
        refine regY tJ4_0 (.slice A n c) (fun W hSw => by unfold qJ4_0; go_simp) hHeld ?_
        try simp only [pt, List.set]
        refine regY tJ4_1 (.agg #[.int .i64 x0, .int .i64 x1, .int .i64 x2, .int .i64 x3]) (fun W hSw => by unfold qJ4_2; obtain ⟨⟨c0, c1, c2, c3⟩, _⟩ := hSw; go_simp) hHeld ?_
        try simp only [pt, List.set]
        refine regY tJ4_2 (.func (.func 91) #[.agg #[.int .i64 x0, .int .i64 x1, .int .i64 x2, .int .i64 x3]] #[]) (fun W hSw => by unfold qJ4_3; go_simp) hHeld ?_
        try simp only [pt, List.set]
        refine cJ4_3 (fun K hK => ?_)
        rw [if_pos (by rfl)]
        unfold qJ4_1
        go_simp
        refine (cloneCe_any n zs HZ.out A c HA.out V (H1.out.below BV.out) (by omega)).mono ?_
        rintro e w5 ⟨v, rfl, o5, b5⟩
        obtain ⟨g, cc, rfl, hg⟩ := row_at o5 hn0
        have O5 := Lib.hid o5
        have H5 := Lib.hid (hHeld.below b5)
        have G5 := Lib.hid hg
        clear o5 b5 hg
        refine Shut.out hK _ _ ?_ (fun hHeld => ?_)
        · exact H5.out
        clear hK K
        try simp only [pt, List.set]
        refine cJ4_4 (fun K hK => ?_)
        rw [if_pos (by rfl)]
        unfold qJ4_4
        go_simp
        refine (delFn_any 91 #[.agg #[.int .i64 x0, .int .i64 x1, .int .i64 x2, .int .i64 x3]] #[] (enters_of Try.func91 (by kernel_rfl) rfl) _ (shares_all x0 x1 x2 x3) V.heap.size g n cc zs w5 O5.out (by omega)).mono ?_
        rintro e w6 ⟨m6, rfl, o6, g6⟩
        have O6 := Lib.hid o6
        have H6 := Lib.hid (H5.out.grown g6 G5.out BX.out)
        clear o6 g6
        refine Shut.out hK _ _ ?_ (fun hHeld => ?_)
        · exact H6.out
        clear hK K
        try simp only [pt, List.set]
        refine regY tJ4_5 (.slice (some ⟨g, 0, none⟩) m6 cc) (fun W hSw => by unfold qJ4_5; go_simp) hHeld ?_
        try simp only [pt, List.set]
        refine wpAnyH_done (by kernel_rfl) ?_ _
        have M6 := Lib.hid (show (delC zs (x0, x1, x2, x3)).length = m6 ∧ m6 ≤ n by
          have h := O6.out.1
          have h2 := del_len zs (x0, x1, x2, x3)
          rw [ceCells_length] at h
          have h3 : (delC zs (x0, x1, x2, x3)).length * 4 = m6 * 4 := h
          rw [HZ.out] at h2
          omega)
        have ml : m6 ≤ n := M6.out.2
        obtain ⟨A7, c7, he7, _, s7⟩ := Ces.of_own O6.out
        simp only [Value.slice.injEq, true_and] at he7
        obtain ⟨rfl, rfl⟩ := he7
        have C6 := Lib.hid (own_capS O6.out)
        have S6 := Lib.hid (show Ces w6 (some ⟨g, 0, none⟩) (delC zs (x0, x1, x2, x3)) from s7)
        clear s7
        have X6 := Lib.hid hHeld
        have B6 := Lib.hid (below_chain BV.out hHeld.bel)
        clear hHeld
        have c0 := X6.out.x.c0
        have c1 := X6.out.x.c1
        have c2 := X6.out.x.c2
        have c3 := X6.out.x.c3
        go_wp2_with fail
        refine (implPut_any m6 (delC zs (x0, x1, x2, x3)) M6.out.1 (some ⟨g, 0, none⟩) cc (fun h => by cases h) C6.out x0 x1 x2 x3 w6 S6.out (by omega)).mono ?_
        rintro e w7 ⟨v7, rfl, o7, b7⟩
        have O7 := Lib.hid (own_base o7 B6.out.size)
        have B7 := Lib.hid (below_chain B6.out b7)
        clear o7 b7 c0 c1 c2 c3
        go_wp2
        exact bodyPost_ret (v := .tuple #[v7, .bool true]) (by simp [results, Try.results79, go_sem]) rfl ⟨v7, by rw [HF.out], by rw [HF.out]; exact O7.out, B7.out⟩
      · obtain rfl : n = 0 := by omega
        have ZN := Lib.hid (show delC zs (x0, x1, x2, x3) = [] by rw [List.eq_nil_of_length_eq_zero HZ.out]; rfl)
        go_wp2_with fail
        clear c3
        refine wp_region_held_drew (S := XW V w.heap.size x0 x1 x2 x3) (by kernel_rfl) ?_ (fun hHeld => ?_)
        · skip
          rw [hV]; exact XV.out
        change wpAnyH _ _ opsJ4 _ _ 6 (LJ4 0) _ _
        rw [hV] at hHeld ⊢
        clear hV
        refine regY tJ4_0 (.slice A 0 c) (fun W hSw => by unfold qJ4_0; go_simp) hHeld ?_
        try simp only [pt, List.set]
        refine regY tJ4_1 (.agg #[.int .i64 x0, .int .i64 x1, .int .i64 x2, .int .i64 x3]) (fun W hSw => by unfold qJ4_2; obtain ⟨⟨c0, c1, c2, c3⟩, _⟩ := hSw; go_simp) hHeld ?_
        try simp only [pt, List.set]
        refine regY tJ4_2 (.func (.func 91) #[.agg #[.int .i64 x0, .int .i64 x1, .int .i64 x2, .int .i64 x3]] #[]) (fun W hSw => by unfold qJ4_3; go_simp) hHeld ?_
        try simp only [pt, List.set]
        refine cJ4_3 (fun K hK => ?_)
        rw [if_pos (by rfl)]
        unfold qJ4_1
        go_simp
        refine (cloneCe_any 0 zs HZ.out A c HA.out V (H1.out.below BV.out) (by omega)).mono ?_
        rintro e w5 ⟨v, rfl, o5, b5⟩
        obtain ⟨A5, cc, rfl, _, s5⟩ := Ces.of_own o5
        have N5 := Lib.hid (own_nil o5)
        have S5 := Lib.hid s5
        have H5 := Lib.hid (hHeld.below b5)
        clear o5 b5 s5
        refine Shut.out hK _ _ ?_ (fun hHeld => ?_)
        · exact H5.out
        clear hK K
        try simp only [pt, List.set]
        refine cJ4_4 (fun K hK => ?_)
        rw [if_pos (by rfl)]
        unfold qJ4_4
        go_simp
        refine (delNone_any 91 #[.agg #[.int .i64 x0, .int .i64 x1, .int .i64 x2, .int .i64 x3]] #[] (enters_of Try.func91 (by kernel_rfl) rfl) _ (shares_all x0 x1 x2 x3) A5 cc w5).mono ?_
        rintro e w6 ⟨rfl, b6⟩
        have H6 := Lib.hid (hHeld.below b6)
        clear b6
        refine Shut.out hK _ _ ?_ (fun hHeld => ?_)
        · exact H6.out
        clear hK K
        try simp only [pt, List.set]
        refine regY tJ4_5 (.slice A5 0 cc) (fun W hSw => by unfold qJ4_5; go_simp) hHeld ?_
        try simp only [pt, List.set]
        refine wpAnyH_done (by kernel_rfl) ?_ _
        have X6 := Lib.hid hHeld
        have B6 := Lib.hid (below_chain BV.out hHeld.bel)
        clear hHeld
        have c0 := X6.out.x.c0
        have c1 := X6.out.x.c1
        have c2 := X6.out.x.c2
        have c3 := X6.out.x.c3
        go_wp2_with fail
        refine (implPut_any 0 (delC zs (x0, x1, x2, x3)) (by rw [ZN.out]; rfl) A5 cc N5.out (Nat.zero_le _) x0 x1 x2 x3 w6 (by rw [ZN.out]; exact fun h => absurd h (by simp)) (by omega)).mono ?_
        rintro e w7 ⟨v7, rfl, o7, b7⟩
        have O7 := Lib.hid (own_base o7 B6.out.size)
        have B7 := Lib.hid (below_chain B6.out b7)
        clear o7 b7 c0 c1 c2 c3
        go_wp2
        exact bodyPost_ret (v := .tuple #[v7, .bool true]) (by simp [results, Try.results79, go_sem]) rfl ⟨v7, by rw [HF.out], by rw [HF.out]; exact O7.out, B7.out⟩
  | false =>
    have HF := Lib.hid (show recL zs (x0, x1, x2, x3) = (putC (delC zs (x0, x1, x2, x3)) (x0, x1, x2, x3), true) by
      have h := HL.out
      simp [recL, h])
    by_cases hn0 : 0 < n
    · go_wp2_with fail
      clear c3
      refine wp_region_held_drew (S := XW V w.heap.size x0 x1 x2 x3) (by kernel_rfl) ?_ (fun hHeld => ?_)
      · skip
        rw [hV]; exact XV.out
      change wpAnyH _ _ opsJ4 _ _ 6 (LJ4 0) _ _
      rw [hV] at hHeld ⊢
      clear hV
      refine regY tJ4_0 (.slice A n c) (fun W hSw => by unfold qJ4_0; go_simp) hHeld ?_
      try simp only [pt, List.set]
      refine regY tJ4_1 (.agg #[.int .i64 x0, .int .i64 x1, .int .i64 x2, .int .i64 x3]) (fun W hSw => by unfold qJ4_2; obtain ⟨⟨c0, c1, c2, c3⟩, _⟩ := hSw; go_simp) hHeld ?_
      try simp only [pt, List.set]
      refine regY tJ4_2 (.func (.func 91) #[.agg #[.int .i64 x0, .int .i64 x1, .int .i64 x2, .int .i64 x3]] #[]) (fun W hSw => by unfold qJ4_3; go_simp) hHeld ?_
      try simp only [pt, List.set]
      refine cJ4_3 (fun K hK => ?_)
      rw [if_pos (by rfl)]
      unfold qJ4_1
      go_simp
      refine (cloneCe_any n zs HZ.out A c HA.out V (H1.out.below BV.out) (by omega)).mono ?_
      rintro e w5 ⟨v, rfl, o5, b5⟩
      obtain ⟨g, cc, rfl, hg⟩ := row_at o5 hn0
      have O5 := Lib.hid o5
      have H5 := Lib.hid (hHeld.below b5)
      have G5 := Lib.hid hg
      clear o5 b5 hg
      refine Shut.out hK _ _ ?_ (fun hHeld => ?_)
      · exact H5.out
      clear hK K
      try simp only [pt, List.set]
      refine cJ4_4 (fun K hK => ?_)
      rw [if_pos (by rfl)]
      unfold qJ4_4
      go_simp
      refine (delFn_any 91 #[.agg #[.int .i64 x0, .int .i64 x1, .int .i64 x2, .int .i64 x3]] #[] (enters_of Try.func91 (by kernel_rfl) rfl) _ (shares_all x0 x1 x2 x3) V.heap.size g n cc zs w5 O5.out (by omega)).mono ?_
      rintro e w6 ⟨m6, rfl, o6, g6⟩
      have O6 := Lib.hid o6
      have H6 := Lib.hid (H5.out.grown g6 G5.out BX.out)
      clear o6 g6
      refine Shut.out hK _ _ ?_ (fun hHeld => ?_)
      · exact H6.out
      clear hK K
      try simp only [pt, List.set]
      refine regY tJ4_5 (.slice (some ⟨g, 0, none⟩) m6 cc) (fun W hSw => by unfold qJ4_5; go_simp) hHeld ?_
      try simp only [pt, List.set]
      refine wpAnyH_done (by kernel_rfl) ?_ _
      have M6 := Lib.hid (show (delC zs (x0, x1, x2, x3)).length = m6 ∧ m6 ≤ n by
        have h := O6.out.1
        have h2 := del_len zs (x0, x1, x2, x3)
        rw [ceCells_length] at h
        have h3 : (delC zs (x0, x1, x2, x3)).length * 4 = m6 * 4 := h
        rw [HZ.out] at h2
        omega)
      have ml : m6 ≤ n := M6.out.2
      obtain ⟨A7, c7, he7, _, s7⟩ := Ces.of_own O6.out
      simp only [Value.slice.injEq, true_and] at he7
      obtain ⟨rfl, rfl⟩ := he7
      have C6 := Lib.hid (own_capS O6.out)
      have S6 := Lib.hid (show Ces w6 (some ⟨g, 0, none⟩) (delC zs (x0, x1, x2, x3)) from s7)
      clear s7
      have X6 := Lib.hid hHeld
      have B6 := Lib.hid (below_chain BV.out hHeld.bel)
      clear hHeld
      have c0 := X6.out.x.c0
      have c1 := X6.out.x.c1
      have c2 := X6.out.x.c2
      have c3 := X6.out.x.c3
      go_wp2_with fail
      refine (implPut_any m6 (delC zs (x0, x1, x2, x3)) M6.out.1 (some ⟨g, 0, none⟩) cc (fun h => by cases h) C6.out x0 x1 x2 x3 w6 S6.out (by omega)).mono ?_
      rintro e w7 ⟨v7, rfl, o7, b7⟩
      have O7 := Lib.hid (own_base o7 B6.out.size)
      have B7 := Lib.hid (below_chain B6.out b7)
      clear o7 b7 c0 c1 c2 c3
      go_wp2
      exact bodyPost_ret (v := .tuple #[v7, .bool true]) (by simp [results, Try.results79, go_sem]) rfl ⟨v7, by rw [HF.out], by rw [HF.out]; exact O7.out, B7.out⟩
    · obtain rfl : n = 0 := by omega
      have ZN := Lib.hid (show delC zs (x0, x1, x2, x3) = [] by rw [List.eq_nil_of_length_eq_zero HZ.out]; rfl)
      go_wp2_with fail
      clear c3
      refine wp_region_held_drew (S := XW V w.heap.size x0 x1 x2 x3) (by kernel_rfl) ?_ (fun hHeld => ?_)
      · skip
        rw [hV]; exact XV.out
      change wpAnyH _ _ opsJ4 _ _ 6 (LJ4 0) _ _
      rw [hV] at hHeld ⊢
      clear hV
      refine regY tJ4_0 (.slice A 0 c) (fun W hSw => by unfold qJ4_0; go_simp) hHeld ?_
      try simp only [pt, List.set]
      refine regY tJ4_1 (.agg #[.int .i64 x0, .int .i64 x1, .int .i64 x2, .int .i64 x3]) (fun W hSw => by unfold qJ4_2; obtain ⟨⟨c0, c1, c2, c3⟩, _⟩ := hSw; go_simp) hHeld ?_
      try simp only [pt, List.set]
      refine regY tJ4_2 (.func (.func 91) #[.agg #[.int .i64 x0, .int .i64 x1, .int .i64 x2, .int .i64 x3]] #[]) (fun W hSw => by unfold qJ4_3; go_simp) hHeld ?_
      try simp only [pt, List.set]
      refine cJ4_3 (fun K hK => ?_)
      rw [if_pos (by rfl)]
      unfold qJ4_1
      go_simp
      refine (cloneCe_any 0 zs HZ.out A c HA.out V (H1.out.below BV.out) (by omega)).mono ?_
      rintro e w5 ⟨v, rfl, o5, b5⟩
      obtain ⟨A5, cc, rfl, _, s5⟩ := Ces.of_own o5
      have N5 := Lib.hid (own_nil o5)
      have S5 := Lib.hid s5
      have H5 := Lib.hid (hHeld.below b5)
      clear o5 b5 s5
      refine Shut.out hK _ _ ?_ (fun hHeld => ?_)
      · exact H5.out
      clear hK K
      try simp only [pt, List.set]
      refine cJ4_4 (fun K hK => ?_)
      rw [if_pos (by rfl)]
      unfold qJ4_4
      go_simp
      refine (delNone_any 91 #[.agg #[.int .i64 x0, .int .i64 x1, .int .i64 x2, .int .i64 x3]] #[] (enters_of Try.func91 (by kernel_rfl) rfl) _ (shares_all x0 x1 x2 x3) A5 cc w5).mono ?_
      rintro e w6 ⟨rfl, b6⟩
      have H6 := Lib.hid (hHeld.below b6)
      clear b6
      refine Shut.out hK _ _ ?_ (fun hHeld => ?_)
      · exact H6.out
      clear hK K
      try simp only [pt, List.set]
      refine regY tJ4_5 (.slice A5 0 cc) (fun W hSw => by unfold qJ4_5; go_simp) hHeld ?_
      try simp only [pt, List.set]
      refine wpAnyH_done (by kernel_rfl) ?_ _
      have X6 := Lib.hid hHeld
      have B6 := Lib.hid (below_chain BV.out hHeld.bel)
      clear hHeld
      have c0 := X6.out.x.c0
      have c1 := X6.out.x.c1
      have c2 := X6.out.x.c2
      have c3 := X6.out.x.c3
      go_wp2_with fail
      refine (implPut_any 0 (delC zs (x0, x1, x2, x3)) (by rw [ZN.out]; rfl) A5 cc N5.out (Nat.zero_le _) x0 x1 x2 x3 w6 (by rw [ZN.out]; exact fun h => absurd h (by simp)) (by omega)).mono ?_
      rintro e w7 ⟨v7, rfl, o7, b7⟩
      have O7 := Lib.hid (own_base o7 B6.out.size)
      have B7 := Lib.hid (below_chain B6.out b7)
      clear o7 b7 c0 c1 c2 c3
      go_wp2
      exact bodyPost_ret (v := .tuple #[v7, .bool true]) (by simp [results, Try.results79, go_sem]) rfl ⟨v7, by rw [HF.out], by rw [HF.out]; exact O7.out, B7.out⟩
end Go.Proofs.Ytbbagpnjjjohpaa.hexes

