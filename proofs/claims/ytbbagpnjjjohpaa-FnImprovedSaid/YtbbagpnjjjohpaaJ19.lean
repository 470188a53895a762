/-
  spec.GraphOk.
-/
import Derived.Test.YtbbagpnjjjohpaaJ7
import Derived.Test.YtbbagpnjjjohpaaJ2

namespace Go.Proofs.Ytbbagpnjjjohpaa.hexes
open Go.RowKit

/-- What spec.GraphOk asks of an edge's end that is the number of a node, in its own words. -/
theorem edgeB_spec {gs : List Nd} {i j : Nat} {k : Int} (hj : j < gs.length) {q1 q2 q3 : Bool} (h1 : decide (j ≤ i) = q1) (h2 : (gs[j].1 == 5) = q2) (h3 : (gs[j].1 == 6) = q3) : edgeB gs i k (j : Int) = (if k = 7 then q1 && (q2 || q3) else !q1) := by
  unfold edgeB
  rw [kindAt_of rfl hj, ← h1, ← h2, ← h3]
  simp only [Int.ofNat_lt, Int.ofNat_le]
  by_cases hk : k = 7
  · simp [hk, hj]
  · simp only [hk, hj, if_false, decide_true, Bool.true_and]
    rw [Bool.eq_iff_iff]
    simp

set_option maxRecDepth 100000 in
set_option maxHeartbeats 8000000 in
theorem specGrOk_any (gs : List Nd) (wk cp : Int) (A : Option Addr) (n c : Nat) (hl : gs.length = n) (hs : ∀ x ∈ gs, x.2.2.2.length ≤ 1048576) (hn : n ≤ 1048576) {r : Bool} (hr : okGr gs dec1 wk cp = r) (w : World) (h : Nds w A gs) :
    Calls Try.prog 29 #[.agg #[.slice A n c, .int .i64 wk, .int .i64 cp]] w fun e w' => e = .returned (.bool r) ∧ Below w.heap.size w w' := by
  obtain ⟨W, hW⟩ : ∃ W, w.alloc (.cells #[.slice A n c, .int .i64 wk, .int .i64 cp] 26) = W := ⟨_, rfl⟩
  have BW := Lib.hid (show Below w.heap.size w W by rw [← hW]; exact (Below.refl w.heap.size w).alloc (Nat.le_refl _) _)
  have KW := Lib.hid (show Blk W w.heap.size 26 #[.slice A n c, .int .i64 wk, .int .i64 cp] by rw [← hW]; exact Blk.new _ _ _)
  have HR := Lib.hid hr
  have HL := Lib.hid hl
  have HS := Lib.hid hs
  have H1 := Lib.hid (h.below BW.out)
  have x0 : W.cell? ⟨w.heap.size, 0, none⟩ = some (.slice A n c) := by rw [KW.out.cell]; rfl
  have x1 : W.cell? ⟨w.heap.size, 1, none⟩ = some (.int .i64 wk) := by rw [KW.out.cell]; rfl
  have x2 : W.cell? ⟨w.heap.size, 2, none⟩ = some (.int .i64 cp) := by rw [KW.out.cell]; rfl
  obtain ⟨q1, hq1⟩ : ∃ q, decide (1 ≤ (n : Int) ∧ (n : Int) ≤ 8) = q := ⟨_, rfl⟩
  obtain ⟨q2, hq2⟩ : ∃ q, decide (1 ≤ wk ∧ wk ≤ 4) = q := ⟨_, rfl⟩
  obtain ⟨q3, hq3⟩ : ∃ q, decide (1 ≤ cp ∧ cp ≤ 4) = q := ⟨_, rfl⟩
  have E1 := Lib.hid (fun W => specInN_is hq1 W)
  have E2 := Lib.hid (fun W => specInN_is hq2 W)
  have E3 := Lib.hid (fun W => specInN_is hq3 W)
  have EN := Lib.hid (show okGr gs dec1 wk cp = (q1 && q2 && q3 && allB gs dec1) by
    unfold okGr
    rw [hq2, hq3, ← hq1, hl]
    congr 3
    simp only [decide_eq_decide]
    omega)
  have G := Lib.hid (fun h : q1 = true => show 1 ≤ gs.length ∧ gs.length ≤ 8 by
    rw [h] at hq1
    have := of_decide_eq_true hq1
    omega)
  clear hr hs h hq1 hq2 hq3
  cases q1 with
  | false =>
    have HE := Lib.hid (show r = false by rw [← HR.out, EN.out]; rfl)
    go_enter Try.func29, Try.ntmps29
    go_wp2_with fail
    refine (E1.out _).mono ?_
    rintro e w1 ⟨rfl, rfl⟩
    go_wp2
    go_ret
    exact ⟨congrArg (fun b => Ending.returned (Value.bool b)) HE.out.symm, BW.out⟩
  | true =>
  cases q2 with
  | false =>
    have HE := Lib.hid (show r = false by rw [← HR.out, EN.out]; rfl)
    go_enter Try.func29, Try.ntmps29
    go_wp2_with fail
    refine (E1.out _).mono ?_
    rintro e w1 ⟨rfl, rfl⟩
    go_wp2_with fail
    refine (E2.out _).mono ?_
    rintro e w1 ⟨rfl, rfl⟩
    go_wp2
    go_ret
    exact ⟨congrArg (fun b => Ending.returned (Value.bool b)) HE.out.symm, BW.out⟩
  | true =>
  cases q3 with
  | false =>
    have HE := Lib.hid (show r = false by rw [← HR.out, EN.out]; rfl)
    go_enter Try.func29, Try.ntmps29
    go_wp2_with fail
    refine (E1.out _).mono ?_
    rintro e w1 ⟨rfl, rfl⟩
    go_wp2_with fail
    refine (E2.out _).mono ?_
    rintro e w1 ⟨rfl, rfl⟩
    go_wp2_with fail
    refine (E3.out _).mono ?_
    rintro e w1 ⟨rfl, rfl⟩
    go_wp2
    go_ret
    exact ⟨congrArg (fun b => Ending.returned (Value.bool b)) HE.out.symm, BW.out⟩
  | true =>
  have EA := Lib.hid (show allB gs dec1 = r by rw [← HR.out, EN.out]; rfl)
  clear EN hl
  go_enter Try.func29, Try.ntmps29
  go_wp2_with fail
  refine (E1.out _).mono ?_
  rintro e w1 ⟨rfl, rfl⟩
  go_wp2_with fail
  refine (E2.out _).mono ?_
  rintro e w1 ⟨rfl, rfl⟩
  go_wp2_with fail
  refine (E3.out _).mono ?_
  rintro e w1 ⟨rfl, rfl⟩
  go_wp2
  clear x0 x1 x2 hW E1 E2 E3
  go_loopw [3] (fun i wr => ∃ j : Nat, j ≤ n ∧ i = .int .i64 (j : Int) ∧ Upto gs dec1 j ∧ Below W.heap.size W wr) (fun i _ => n - (intOf i).toNat)
  case atStart => exact ⟨0, Nat.zero_le _, rfl, upto_zero _ _, Below.refl _ _⟩
  case round =>
    obtain ⟨j, hj, rfl, ht, hb⟩ := hrel
    have HT := Lib.hid ht
    have HB := Lib.hid hb
    have KR := Lib.hid (KW.out.below hb)
    have NR := Lib.hid (H1.out.below hb)
    have r0 : wr.cell? ⟨w.heap.size, 0, none⟩ = some (.slice A n c) := by rw [KR.out.cell]; rfl
    clear ht hb
    by_cases hlt : j < n
    · have lj : j < gs.length := by rw [HL.out]; exact hlt
      obtain ⟨b, off, k, a, bb, zs, A1, n1, c1, rfl, hx, hz, hc1, hin, e0, e1, e2, e3⟩ := NR.out.at lj
      have X := Lib.hid hx
      have HO : n1 ≤ 1048576 := by have := HS.out _ (List.getElem_mem lj); rw [hx] at this; rw [← hz]; exact this
      obtain ⟨V, hV⟩ : ∃ V, wr.alloc (.cells #[.int .i64 k, .int .i64 a, .int .i64 bb, .slice A1 n1 c1] 46) = V := ⟨_, rfl⟩
      have BV := Lib.hid (show Below wr.heap.size wr V by rw [← hV]; exact (Below.refl _ _).alloc (Nat.le_refl _) _)
      have KV := Lib.hid (show Blk V wr.heap.size 46 #[.int .i64 k, .int .i64 a, .int .i64 bb, .slice A1 n1 c1] by rw [← hV]; exact Blk.new _ _ _)
      have v0 : V.cell? ⟨wr.heap.size, 0, none⟩ = some (.int .i64 k) := by rw [KV.out.cell]; rfl
      have v1 : V.cell? ⟨wr.heap.size, 1, none⟩ = some (.int .i64 a) := by rw [KV.out.cell]; rfl
      have v2 : V.cell? ⟨wr.heap.size, 2, none⟩ = some (.int .i64 bb) := by rw [KV.out.cell]; rfl
      have v3 : V.cell? ⟨wr.heap.size, 3, none⟩ = some (.slice A1 n1 c1) := by rw [KV.out.cell]; rfl
      have i0 : (0 : Int) ≤ (j : Int) := by omega
      have i1 : (j : Int) < (n : Int) := by omega
      obtain ⟨o, ho⟩ : ∃ o, okN (k, a, bb, zs) (dec1 a) = o := ⟨_, rfl⟩
      have EN := Lib.hid (show Calls Try.prog 63 #[.agg #[.int .i64 k, .int .i64 a, .int .i64 bb, .slice A1 n1 c1]] V fun e w' => e = .returned (.bool o) ∧ Below V.heap.size V w' by
        have q := specNdOk_any k a bb (dec1 a) A1 n1 c1 zs hz rfl V (hin.below BV.out) HO
        rw [show okNd k a bb (dec1 a) zs = o from ho] at q
        exact q)
      have O := Lib.hid ho
      have IN := Lib.hid hin
      have HZ := Lib.hid hz
      have B2 := Lib.hid (below_chain HB.out BV.out)
      clear hx hz hc1 hin ho
      cases o with
      | false =>
        have HE := Lib.hid (show r = false by
          rw [← EA.out]
          exact allB_bad lj X.out (by unfold nodeB; rw [show okN (k, a, bb, zs) (dec1 (k, a, bb, zs).2.1) = false from O.out]; rfl))
        clear X lj
        go_wp2_with fail
        refine EN.out.mono ?_
        rintro e w2 ⟨rfl, hb⟩
        have B3 := Lib.hid (below_chain BW.out (below_chain B2.out hb))
        clear hb e0 e1 e2 e3 v0 v1 v2 v3 hV
        go_wp2
        go_ret
        exact ⟨congrArg (fun b => Ending.returned (Value.bool b)) HE.out.symm, B3.out⟩
      | true =>
        by_cases hin : ((k == 1) == (j == 0)) = true
        · have hd : ((k == 1) = true ∧ ((j : Int) == 0) = true) ∨ ((k == 1) = false ∧ ((j : Int) == 0) = false) := by
            have e : ((j : Int) == 0) = (j == 0) := by rw [Bool.eq_iff_iff]; simp
            rw [e]
            revert hin
            cases (k == 1) <;> cases (j == 0) <;> simp
          have NB := Lib.hid (show nodeB gs dec1 j (k, a, bb, zs) = zs.all (edgeB gs j k) by
            unfold nodeB
            rw [show okN (k, a, bb, zs) (dec1 (k, a, bb, zs).2.1) = true from O.out, show ((((k, a, bb, zs) : Nd).1 == 1) == (j == 0)) = true from hin]
            rfl)
          have OUTS := Lib.hid (show ∀ z ∈ zs, 0 ≤ z ∧ z ≤ 7 from okN_outs O.out)
          have LJ := Lib.hid lj
          have XX := Lib.hid (show ∃ (hh : j < gs.length), gs[j] = (k, a, bb, zs) from ⟨lj, X.out⟩)
          have hd7 : (k == 7) = decide (k = 7) := by rw [Bool.eq_iff_iff]; simp
          clear X lj hin
          rcases hd with ⟨d1, d0⟩ | ⟨d1, d0⟩
          all_goals
            go_wp2_with fail
            refine EN.out.mono ?_
            rintro e w2 ⟨rfl, hb⟩
            have K3 := Lib.hid ((KR.out.below BV.out).below hb)
            have N3 := Lib.hid ((NR.out.below BV.out).below hb)
            have B3 := Lib.hid (below_chain B2.out hb)
            have KX := Lib.hid (KV.out.below hb)
            have IN3 := Lib.hid ((IN.out.below BV.out).below hb)
            clear hb e0 e1 e2 e3 v0 v1 v2 v3 r0 hV
            have v0 : w2.cell? ⟨wr.heap.size, 0, none⟩ = some (.int .i64 k) := by rw [KX.out.cell]; rfl
            have v3 : w2.cell? ⟨wr.heap.size, 3, none⟩ = some (.slice A1 n1 c1) := by rw [KX.out.cell]; rfl
            have y0 : w2.cell? ⟨w.heap.size, 0, none⟩ = some (.slice (some ⟨b, off, none⟩) n c) := by rw [K3.out.cell]; rfl
            go_wp2
            have HT' := HT
            clear HT
            go_loop [5, 6, 7] (fun i _ _ => ∃ q : Nat, q ≤ n1 ∧ i = .int .i64 (q : Int) ∧ (zs.take q).all (edgeB gs j k) = true) (fun i _ _ => n1 - (intOf i).toNat)
            case atStart => exact ⟨0, Nat.zero_le _, rfl, by simp⟩
            case round =>
              obtain ⟨q, hq, rfl, ht⟩ := hrel
              have HT := Lib.hid ht
              clear ht
              by_cases hlq : q < n1
              · have lq : q < zs.length := by rw [HZ.out]; exact hlq
                obtain ⟨b1, o1, p, rfl, x1, f1⟩ := IN3.out.at lq
                have X1 := Lib.hid x1
                have p0 := OUTS.out p (x1 ▸ List.getElem_mem lq)
                obtain ⟨m, rfl⟩ : ∃ m : Nat, p = (m : Int) := ⟨p.toNat, by omega⟩
                have q0 : (0 : Int) ≤ (q : Int) := by omega
                have q1 : (q : Int) < (n1 : Int) := by omega
                clear x1 p0
                by_cases hm : m < n
                · have lm : m < gs.length := by rw [HL.out]; exact hm
                  have g1 : decide (n ≤ m) = false := by simp; omega
                  obtain ⟨b2, off2, k2, a2, bb2, zs2, A2, n2, c2, hA, hx2, _, _, _, s0, _⟩ := N3.out.at lm
                  simp only [Option.some.injEq, Addr.mk.injEq, and_true] at hA
                  obtain ⟨rfl, rfl⟩ := hA
                  have m0 : (0 : Int) ≤ (m : Int) := by omega
                  have m1 : (m : Int) < (n : Int) := by omega
                  have key := fun q1 q2 q3 h1 h2 h3 => edgeB_spec (gs := gs) (i := j) (j := m) (k := k) lm (q1 := q1) (q2 := q2) (q3 := q3) h1 h2 h3
                  rw [hx2] at key
                  dsimp only at key
                  by_cases h7 : k = 7
                  · subst h7
                    have KEY := Lib.hid (show ∀ q1 q2 q3, decide (m ≤ j) = q1 → (k2 == 5) = q2 → (k2 == 6) = q3 → edgeB gs j 7 (m : Int) = (q1 && (q2 || q3)) from fun q1 q2 q3 h1 h2 h3 => by rw [key q1 q2 q3 h1 h2 h3, if_pos rfl])
                    clear key hx2 lm hd7
                    cases h1 : decide (m ≤ j) <;> cases h2 : (k2 == 5) <;> cases h3 : (k2 == 6)
                    all_goals
                      have hgt : decide (m > j) = !decide (m ≤ j) := by rw [Bool.eq_iff_iff]; simp
                      rw [h1] at hgt
                      have h2' : (k2 != 5) = !(k2 == 5) := rfl
                      rw [h2] at h2'
                      have h3' : (k2 != 6) = !(k2 == 6) := rfl
                      rw [h3] at h3'
                      (try dsimp only [Bool.not_false, Bool.not_true] at hgt)
                      (try dsimp only [Bool.not_false, Bool.not_true] at h2')
                      (try dsimp only [Bool.not_false, Bool.not_true] at h3')
                      first
                      | (have HE := Lib.hid (show edgeB gs j 7 (m : Int) = true from KEY.out _ _ _ h1 h2 h3)
                         have HT2 := Lib.hid (show (zs.take (q + 1)).all (edgeB gs j 7) = true by rw [all_take_succ lq X1.out, HT.out, HE.out]; rfl)
                         clear HT HE X1 lq KEY h1
                         go_wp2
                         go_round
                         case rel => exact ⟨q + 1, by omega, by go_num, HT2.out⟩
                         case measure => simp [intOf]; omega)
                      | (have HE := Lib.hid (show edgeB gs j 7 (m : Int) = false from KEY.out _ _ _ h1 h2 h3)
                         have HE2 := Lib.hid (show r = false by
                           obtain ⟨lj, hx⟩ := XX.out
                           rw [← EA.out]
                           exact allB_bad lj hx (NB.out.trans (all_bad lq X1.out HE.out)))
                         clear HT HE X1 lq KEY h1
                         go_wp2
                         go_ret
                         exact ⟨congrArg (fun b => Ending.returned (Value.bool b)) HE2.out.symm, below_chain BW.out B3.out⟩)
                  · have d7 : (k == 7) = false := by simpa using h7
                    have d7' : (k != 7) = true := by simpa using h7
                    have KEY := Lib.hid (show ∀ q1, decide (m ≤ j) = q1 → edgeB gs j k (m : Int) = !q1 from fun q1 h1 => by rw [key q1 _ _ h1 rfl rfl, if_neg h7])
                    clear key hx2 lm hd7 h7
                    cases h1 : decide (m ≤ j)
                    · have HE := Lib.hid (KEY.out _ h1)
                      have HT2 := Lib.hid (show (zs.take (q + 1)).all (edgeB gs j k) = true by rw [all_take_succ lq X1.out, HT.out, HE.out]; rfl)
                      clear HT HE X1 lq KEY
                      go_wp2
                      go_round
                      case rel => exact ⟨q + 1, by omega, by go_num, HT2.out⟩
                      case measure => simp [intOf]; omega
                    · have HE := Lib.hid (KEY.out _ h1)
                      have HE2 := Lib.hid (show r = false by
                        obtain ⟨lj, hx⟩ := XX.out
                        rw [← EA.out]
                        exact allB_bad lj hx (NB.out.trans (all_bad lq X1.out HE.out)))
                      clear HT HE X1 lq KEY
                      go_wp2
                      go_ret
                      exact ⟨congrArg (fun b => Ending.returned (Value.bool b)) HE2.out.symm, below_chain BW.out B3.out⟩
                · have g1 : decide (n ≤ m) = true := by simp; omega
                  have HE2 := Lib.hid (show r = false by
                    obtain ⟨lj, hx⟩ := XX.out
                    rw [← EA.out]
                    exact allB_bad lj hx (NB.out.trans (all_bad lq X1.out (edgeB_out (by rw [HL.out]; omega)))))
                  clear HT X1 lq hd7
                  go_wp2
                  go_ret
                  exact ⟨congrArg (fun b => Ending.returned (Value.bool b)) HE2.out.symm, below_chain BW.out B3.out⟩
              · have HT2 := Lib.hid (show Upto gs dec1 (j + 1) by
                  obtain ⟨lj, hx⟩ := XX.out
                  exact upto_succ lj hx (NB.out.trans (all_end (j := q) (by rw [HZ.out]; omega) HT.out)) HT'.out)
                clear HT
                go_wp2
                go_roundw
                case rel => exact ⟨j + 1, by omega, by go_num, HT2.out, B3.out⟩
                case measure => simp [intOf]; omega
        · have hin' : ((k == 1) == (j == 0)) = false := by simpa using hin
          have hd : ((k == 1) = true ∧ ((j : Int) == 0) = false) ∨ ((k == 1) = false ∧ ((j : Int) == 0) = true) := by
            have e : ((j : Int) == 0) = (j == 0) := by rw [Bool.eq_iff_iff]; simp
            rw [e]
            revert hin'
            cases (k == 1) <;> cases (j == 0) <;> simp
          have HE := Lib.hid (show r = false by
            rw [← EA.out]
            exact allB_bad lj X.out (by unfold nodeB; rw [show ((((k, a, bb, zs) : Nd).1 == 1) == (j == 0)) = false from hin']; simp))
          clear X lj hin hin'
          rcases hd with ⟨d1, d0⟩ | ⟨d1, d0⟩
          all_goals
            go_wp2_with fail
            refine EN.out.mono ?_
            rintro e w2 ⟨rfl, hb⟩
            have B3 := Lib.hid (below_chain BW.out (below_chain B2.out hb))
            have KX := Lib.hid (KV.out.below hb)
            clear hb e0 e1 e2 e3 v0 v1 v2 v3 r0 hV
            have v0 : w2.cell? ⟨wr.heap.size, 0, none⟩ = some (.int .i64 k) := by rw [KX.out.cell]; rfl
            go_wp2
            go_ret
            exact ⟨congrArg (fun b => Ending.returned (Value.bool b)) HE.out.symm, B3.out⟩
    · have HE := Lib.hid (show r = true by
        rw [← EA.out]
        exact upto_end (by rw [HL.out]; omega) HT.out)
      clear HT
      go_wp2
      go_ret
      exact ⟨congrArg (fun b => Ending.returned (Value.bool b)) HE.out.symm, below_chain BW.out HB.out⟩

end Go.Proofs.Ytbbagpnjjjohpaa.hexes

