/-
  spec.GraphOk.
  How Improve ends; what its emitting loop keeps.
  Fixpoint's state; a list of cells read from memory.
-/
import Derived.Test.YtbbagpnjjjohpaaK6
import Derived.Test.YtbbagpnjjjohpaaK2
import Derived.Test.YtbbagpnjjjohpaaK7
import Derived.Test.YtbbagpnjjjohpaaK10
import Derived.Test.YtbbagpnjjjohpaaK15
import Derived.Test.YtbbagpnjjjohpaaK5
import Derived.Test.YtbbagpnjjjohpaaK4
import Derived.Test.YtbbagpnjjjohpaaK8

namespace Go.Proofs.Ytbbagpnjjjohpaa.hexes
open Go.RowKit

/-- What spec.GraphOk asks of an edge's end that is the number of a node, in its own words. -/
theorem edgeB_spec {gs : List Nd} {i j : Nat} {k : Int} (hj : j < gs.length) {q1 q2 q3 : Bool} (h1 : decide (j ≤ i) = q1) (h2 : (gs[j].1 == 5) = q2) (h3 : (gs[j].1 == 6) = q3) : edgeB gs i k (j : Int) = (if k = 7 then q1 && (q2 || q3) else !q1) := by
  unfold edgeB
  rw [kindAt_of rfl hj, ← h1, ← h2, ← h3]
  simp only [Int.ofNat_lt, Int.ofNat_le]
  by_cases hk : k = 7
  · simp [hk, hj]
  · simp only [hk, hj, if_false, decide_true, Bool.true_and]
    rw [Bool.eq_iff_iff]
    simp

set_option maxRecDepth 100000 in
set_option maxHeartbeats 8000000 in
theorem specGrOk_any (gs : List Nd) (wk cp : Int) (A : Option Addr) (n c : Nat) (hl : gs.length = n) (hs : ∀ x ∈ gs, x.2.2.2.length ≤ 1048576) (hn : n ≤ 1048576) {r : Bool} (hr : okGr gs dec1 wk cp = r) (w : World) (h : Nds w A gs) :
    Calls Try.prog 29 #[.agg #[.slice A n c, .int .i64 wk, .int .i64 cp]] w fun e w' => e = .returned (.bool r) ∧ Below w.heap.size w w' := by
  obtain ⟨W, hW⟩ : ∃ W, w.alloc (.cells #[.slice A n c, .int .i64 wk, .int .i64 cp] 26) = W := ⟨_, rfl⟩
  have BW := Lib.hid (show Below w.heap.size w W by rw [← hW]; exact (Below.refl w.heap.size w).alloc (Nat.le_refl _) _)
  have KW := Lib.hid (show Blk W w.heap.size 26 #[.slice A n c, .int .i64 wk, .int .i64 cp] by rw [← hW]; exact Blk.new _ _ _)
  have HR := Lib.hid hr
  have HL := Lib.hid hl
  have HS := Lib.hid hs
  have H1 := Lib.hid (h.below BW.out)
  have x0 : W.cell? ⟨w.heap.size, 0, none⟩ = some (.slice A n c) := by rw [KW.out.cell]; rfl
  have x1 : W.cell? ⟨w.heap.size, 1, none⟩ = some (.int .i64 wk) := by rw [KW.out.cell]; rfl
  have x2 : W.cell? ⟨w.heap.size, 2, none⟩ = some (.int .i64 cp) := by rw [KW.out.cell]; rfl
  obtain ⟨q1, hq1⟩ : ∃ q, decide (1 ≤ (n : Int) ∧ (n : Int) ≤ 8) = q := ⟨_, rfl⟩
  obtain ⟨q2, hq2⟩ : ∃ q, decide (1 ≤ wk ∧ wk ≤ 4) = q := ⟨_, rfl⟩
  obtain ⟨q3, hq3⟩ : ∃ q, decide (1 ≤ cp ∧ cp ≤ 4) = q := ⟨_, rfl⟩
  have E1 := Lib.hid (fun W => specInN_is hq1 W)
  have E2 := Lib.hid (fun W => specInN_is hq2 W)
  have E3 := Lib.hid (fun W => specInN_is hq3 W)
  have EN := Lib.hid (show okGr gs dec1 wk cp = (q1 && q2 && q3 && allB gs dec1) by
    unfold okGr
    rw [hq2, hq3, ← hq1, hl]
    congr 3
    simp only [decide_eq_decide]
    omega)
  have G := Lib.hid (fun h : q1 = true => show 1 ≤ gs.length ∧ gs.length ≤ 8 by
    rw [h] at hq1
    have := of_decide_eq_true hq1
    omega)
  clear hr hs h hq1 hq2 hq3
  cases q1 with
  | false =>
    have HE := Lib.hid (show r = false by rw [← HR.out, EN.out]; rfl)
    go_enter Try.func29, Try.ntmps29
    go_wp2_with fail
    refine (E1.out _).mono ?_
    rintro e w1 ⟨rfl, rfl⟩
    go_wp2
    go_ret
    exact ⟨congrArg (fun b => Ending.returned (Value.bool b)) HE.out.symm, BW.out⟩
  | true =>
  cases q2 with
  | false =>
    have HE := Lib.hid (show r = false by rw [← HR.out, EN.out]; rfl)
    go_enter Try.func29, Try.ntmps29
    go_wp2_with fail
    refine (E1.out _).mono ?_
    rintro e w1 ⟨rfl, rfl⟩
    go_wp2_with fail
    refine (E2.out _).mono ?_
    rintro e w1 ⟨rfl, rfl⟩
    go_wp2
    go_ret
    exact ⟨congrArg (fun b => Ending.returned (Value.bool b)) HE.out.symm, BW.out⟩
  | true =>
  cases q3 with
  | false =>
    have HE := Lib.hid (show r = false by rw [← HR.out, EN.out]; rfl)
    go_enter Try.func29, Try.ntmps29
    go_wp2_with fail
    refine (E1.out _).mono ?_
    rintro e w1 ⟨rfl, rfl⟩
    go_wp2_with fail
    refine (E2.out _).mono ?_
    rintro e w1 ⟨rfl, rfl⟩
    go_wp2_with fail
    refine (E3.out _).mono ?_
    rintro e w1 ⟨rfl, rfl⟩
    go_wp2
    go_ret
    exact ⟨congrArg (fun b => Ending.returned (Value.bool b)) HE.out.symm, BW.out⟩
  | true =>
  have EA := Lib.hid (show allB gs dec1 = r by rw [← HR.out, EN.out]; rfl)
  clear EN hl
  go_enter Try.func29, Try.ntmps29
  go_wp2_with fail
  refine (E1.out _).mono ?_
  rintro e w1 ⟨rfl, rfl⟩
  go_wp2_with fail
  refine (E2.out _).mono ?_
  rintro e w1 ⟨rfl, rfl⟩
  go_wp2_with fail
  refine (E3.out _).mono ?_
  rintro e w1 ⟨rfl, rfl⟩
  go_wp2
  clear x0 x1 x2 hW E1 E2 E3
  go_loopw [3] (fun i wr => ∃ j : Nat, j ≤ n ∧ i = .int .i64 (j : Int) ∧ Upto gs dec1 j ∧ Below W.heap.size W wr) (fun i _ => n - (intOf i).toNat)
  case atStart => exact ⟨0, Nat.zero_le _, rfl, upto_zero _ _, Below.refl _ _⟩
  case round =>
    obtain ⟨j, hj, rfl, ht, hb⟩ := hrel
    have HT := Lib.hid ht
    have HB := Lib.hid hb
    have KR := Lib.hid (KW.out.below hb)
    have NR := Lib.hid (H1.out.below hb)
    have r0 : wr.cell? ⟨w.heap.size, 0, none⟩ = some (.slice A n c) := by rw [KR.out.cell]; rfl
    clear ht hb
    by_cases hlt : j < n
    · have lj : j < gs.length := by rw [HL.out]; exact hlt
      obtain ⟨b, off, k, a, bb, zs, A1, n1, c1, rfl, hx, hz, hc1, hin, e0, e1, e2, e3⟩ := NR.out.at lj
      have X := Lib.hid hx
      have HO : n1 ≤ 1048576 := by have := HS.out _ (List.getElem_mem lj); rw [hx] at this; rw [← hz]; exact this
      obtain ⟨V, hV⟩ : ∃ V, wr.alloc (.cells #[.int .i64 k, .int .i64 a, .int .i64 bb, .slice A1 n1 c1] 46) = V := ⟨_, rfl⟩
      have BV := Lib.hid (show Below wr.heap.size wr V by rw [← hV]; exact (Below.refl _ _).alloc (Nat.le_refl _) _)
      have KV := Lib.hid (show Blk V wr.heap.size 46 #[.int .i64 k, .int .i64 a, .int .i64 bb, .slice A1 n1 c1] by rw [← hV]; exact Blk.new _ _ _)
      have v0 : V.cell? ⟨wr.heap.size, 0, none⟩ = some (.int .i64 k) := by rw [KV.out.cell]; rfl
      have v1 : V.cell? ⟨wr.heap.size, 1, none⟩ = some (.int .i64 a) := by rw [KV.out.cell]; rfl
      have v2 : V.cell? ⟨wr.heap.size, 2, none⟩ = some (.int .i64 bb) := by rw [KV.out.cell]; rfl
      have v3 : V.cell? ⟨wr.heap.size, 3, none⟩ = some (.slice A1 n1 c1) := by rw [KV.out.cell]; rfl
      have i0 : (0 : Int) ≤ (j : Int) := by omega
      have i1 : (j : Int) < (n : Int) := by omega
      obtain ⟨o, ho⟩ : ∃ o, okN (k, a, bb, zs) (dec1 a) = o := ⟨_, rfl⟩
      have EN := Lib.hid (show Calls Try.prog 63 #[.agg #[.int .i64 k, .int .i64 a, .int .i64 bb, .slice A1 n1 c1]] V fun e w' => e = .returned (.bool o) ∧ Below V.heap.size V w' by
        have q := specNdOk_any k a bb (dec1 a) A1 n1 c1 zs hz rfl V (hin.below BV.out) HO
        rw [show okNd k a bb (dec1 a) zs = o from ho] at q
        exact q)
      have O := Lib.hid ho
      have IN := Lib.hid hin
      have HZ := Lib.hid hz
      have B2 := Lib.hid (below_chain HB.out BV.out)
      clear hx hz hc1 hin ho
      cases o with
      | false =>
        have HE := Lib.hid (show r = false by
          rw [← EA.out]
          exact allB_bad lj X.out (by unfold nodeB; rw [show okN (k, a, bb, zs) (dec1 (k, a, bb, zs).2.1) = false from O.out]; rfl))
        clear X lj
        go_wp2_with fail
        refine EN.out.mono ?_
        rintro e w2 ⟨rfl, hb⟩
        have B3 := Lib.hid (below_chain BW.out (below_chain B2.out hb))
        clear hb e0 e1 e2 e3 v0 v1 v2 v3 hV
        go_wp2
        go_ret
        exact ⟨congrArg (fun b => Ending.returned (Value.bool b)) HE.out.symm, B3.out⟩
      | true =>
        by_cases hin : ((k == 1) == (j == 0)) = true
        · have hd : ((k == 1) = true ∧ ((j : Int) == 0) = true) ∨ ((k == 1) = false ∧ ((j : Int) == 0) = false) := by
            have e : ((j : Int) == 0) = (j == 0) := by rw [Bool.eq_iff_iff]; simp
            rw [e]
            revert hin
            cases (k == 1) <;> cases (j == 0) <;> simp
          have NB := Lib.hid (show nodeB gs dec1 j (k, a, bb, zs) = zs.all (edgeB gs j k) by
            unfold nodeB
            rw [show okN (k, a, bb, zs) (dec1 (k, a, bb, zs).2.1) = true from O.out, show ((((k, a, bb, zs) : Nd).1 == 1) == (j == 0)) = true from hin]
            rfl)
          have OUTS := Lib.hid (show ∀ z ∈ zs, 0 ≤ z ∧ z ≤ 7 from okN_outs O.out)
          have LJ := Lib.hid lj
          have XX := Lib.hid (show ∃ (hh : j < gs.length), gs[j] = (k, a, bb, zs) from ⟨lj, X.out⟩)
          have hd7 : (k == 7) = decide (k = 7) := by rw [Bool.eq_iff_iff]; simp
          clear X lj hin
          rcases hd with ⟨d1, d0⟩ | ⟨d1, d0⟩
          all_goals
            go_wp2_with fail
            refine EN.out.mono ?_
            rintro e w2 ⟨rfl, hb⟩
            have K3 := Lib.hid ((KR.out.below BV.out).below hb)
            have N3 := Lib.hid ((NR.out.below BV.out).below hb)
            have B3 := Lib.hid (below_chain B2.out hb)
            have KX := Lib.hid (KV.out.below hb)
            have IN3 := Lib.hid ((IN.out.below BV.out).below hb)
            clear hb e0 e1 e2 e3 v0 v1 v2 v3 r0 hV
            have v0 : w2.cell? ⟨wr.heap.size, 0, none⟩ = some (.int .i64 k) := by rw [KX.out.cell]; rfl
            have v3 : w2.cell? ⟨wr.heap.size, 3, none⟩ = some (.slice A1 n1 c1) := by rw [KX.out.cell]; rfl
            have y0 : w2.cell? ⟨w.heap.size, 0, none⟩ = some (.slice (some ⟨b, off, none⟩) n c) := by rw [K3.out.cell]; rfl
            go_wp2
            have HT' := HT
            clear HT
            go_loop [5, 6, 7] (fun i _ _ => ∃ q : Nat, q ≤ n1 ∧ i = .int .i64 (q : Int) ∧ (zs.take q).all (edgeB gs j k) = true) (fun i _ _ => n1 - (intOf i).toNat)
            case atStart => exact ⟨0, Nat.zero_le _, rfl, by simp⟩
            case round =>
              obtain ⟨q, hq, rfl, ht⟩ := hrel
              have HT := Lib.hid ht
              clear ht
              by_cases hlq : q < n1
              · have lq : q < zs.length := by rw [HZ.out]; exact hlq
                obtain ⟨b1, o1, p, rfl, x1, f1⟩ := IN3.out.at lq
                have X1 := Lib.hid x1
                have p0 := OUTS.out p (x1 ▸ List.getElem_mem lq)
                obtain ⟨m, rfl⟩ : ∃ m : Nat, p = (m : Int) := ⟨p.toNat, by omega⟩
                have q0 : (0 : Int) ≤ (q : Int) := by omega
                have q1 : (q : Int) < (n1 : Int) := by omega
                clear x1 p0
                by_cases hm : m < n
                · have lm : m < gs.length := by rw [HL.out]; exact hm
                  have g1 : decide (n ≤ m) = false := by simp; omega
                  obtain ⟨b2, off2, k2, a2, bb2, zs2, A2, n2, c2, hA, hx2, _, _, _, s0, _⟩ := N3.out.at lm
                  simp only [Option.some.injEq, Addr.mk.injEq, and_true] at hA
                  obtain ⟨rfl, rfl⟩ := hA
                  have m0 : (0 : Int) ≤ (m : Int) := by omega
                  have m1 : (m : Int) < (n : Int) := by omega
                  have key := fun q1 q2 q3 h1 h2 h3 => edgeB_spec (gs := gs) (i := j) (j := m) (k := k) lm (q1 := q1) (q2 := q2) (q3 := q3) h1 h2 h3
                  rw [hx2] at key
                  dsimp only at key
                  by_cases h7 : k = 7
                  · subst h7
                    have KEY := Lib.hid (show ∀ q1 q2 q3, decide (m ≤ j) = q1 → (k2 == 5) = q2 → (k2 == 6) = q3 → edgeB gs j 7 (m : Int) = (q1 && (q2 || q3)) from fun q1 q2 q3 h1 h2 h3 => by rw [key q1 q2 q3 h1 h2 h3, if_pos rfl])
                    clear key hx2 lm hd7
                    cases h1 : decide (m ≤ j) <;> cases h2 : (k2 == 5) <;> cases h3 : (k2 == 6)
                    all_goals
                      have hgt : decide (m > j) = !decide (m ≤ j) := by rw [Bool.eq_iff_iff]; simp
                      rw [h1] at hgt
                      have h2' : (k2 != 5) = !(k2 == 5) := rfl
                      rw [h2] at h2'
                      have h3' : (k2 != 6) = !(k2 == 6) := rfl
                      rw [h3] at h3'
                      (try dsimp only [Bool.not_false, Bool.not_true] at hgt)
                      (try dsimp only [Bool.not_false, Bool.not_true] at h2')
                      (try dsimp only [Bool.not_false, Bool.not_true] at h3')
                      first
                      | (have HE := Lib.hid (show edgeB gs j 7 (m : Int) = true from KEY.out _ _ _ h1 h2 h3)
                         have HT2 := Lib.hid (show (zs.take (q + 1)).all (edgeB gs j 7) = true by rw [all_take_succ lq X1.out, HT.out, HE.out]; rfl)
                         clear HT HE X1 lq KEY h1
                         go_wp2
                         go_round
                         case rel => exact ⟨q + 1, by omega, by go_num, HT2.out⟩
                         case measure => simp [intOf]; omega)
                      | (have HE := Lib.hid (show edgeB gs j 7 (m : Int) = false from KEY.out _ _ _ h1 h2 h3)
                         have HE2 := Lib.hid (show r = false by
                           obtain ⟨lj, hx⟩ := XX.out
                           rw [← EA.out]
                           exact allB_bad lj hx (NB.out.trans (all_bad lq X1.out HE.out)))
                         clear HT HE X1 lq KEY h1
                         go_wp2
                         go_ret
                         exact ⟨congrArg (fun b => Ending.returned (Value.bool b)) HE2.out.symm, below_chain BW.out B3.out⟩)
                  · have d7 : (k == 7) = false := by simpa using h7
                    have d7' : (k != 7) = true := by simpa using h7
                    have KEY := Lib.hid (show ∀ q1, decide (m ≤ j) = q1 → edgeB gs j k (m : Int) = !q1 from fun q1 h1 => by rw [key q1 _ _ h1 rfl rfl, if_neg h7])
                    clear key hx2 lm hd7 h7
                    cases h1 : decide (m ≤ j)
                    · have HE := Lib.hid (KEY.out _ h1)
                      have HT2 := Lib.hid (show (zs.take (q + 1)).all (edgeB gs j k) = true by rw [all_take_succ lq X1.out, HT.out, HE.out]; rfl)
                      clear HT HE X1 lq KEY
                      go_wp2
                      go_round
                      case rel => exact ⟨q + 1, by omega, by go_num, HT2.out⟩
                      case measure => simp [intOf]; omega
                    · have HE := Lib.hid (KEY.out _ h1)
                      have HE2 := Lib.hid (show r = false by
                        obtain ⟨lj, hx⟩ := XX.out
                        rw [← EA.out]
                        exact allB_bad lj hx (NB.out.trans (all_bad lq X1.out HE.out)))
                      clear HT HE X1 lq KEY
                      go_wp2
                      go_ret
                      exact ⟨congrArg (fun b => Ending.returned (Value.bool b)) HE2.out.symm, below_chain BW.out B3.out⟩
                · have g1 : decide (n ≤ m) = true := by simp; omega
                  have HE2 := Lib.hid (show r = false by
                    obtain ⟨lj, hx⟩ := XX.out
                    rw [← EA.out]
                    exact allB_bad lj hx (NB.out.trans (all_bad lq X1.out (edgeB_out (by rw [HL.out]; omega)))))
                  clear HT X1 lq hd7
                  go_wp2
                  go_ret
                  exact ⟨congrArg (fun b => Ending.returned (Value.bool b)) HE2.out.symm, below_chain BW.out B3.out⟩
              · have HT2 := Lib.hid (show Upto gs dec1 (j + 1) by
                  obtain ⟨lj, hx⟩ := XX.out
                  exact upto_succ lj hx (NB.out.trans (all_end (j := q) (by rw [HZ.out]; omega) HT.out)) HT'.out)
                clear HT
                go_wp2
                go_roundw
                case rel => exact ⟨j + 1, by omega, by go_num, HT2.out, B3.out⟩
                case measure => simp [intOf]; omega
        · have hin' : ((k == 1) == (j == 0)) = false := by simpa using hin
          have hd : ((k == 1) = true ∧ ((j : Int) == 0) = false) ∨ ((k == 1) = false ∧ ((j : Int) == 0) = true) := by
            have e : ((j : Int) == 0) = (j == 0) := by rw [Bool.eq_iff_iff]; simp
            rw [e]
            revert hin'
            cases (k == 1) <;> cases (j == 0) <;> simp
          have HE := Lib.hid (show r = false by
            rw [← EA.out]
            exact allB_bad lj X.out (by unfold nodeB; rw [show ((((k, a, bb, zs) : Nd).1 == 1) == (j == 0)) = false from hin']; simp))
          clear X lj hin hin'
          rcases hd with ⟨d1, d0⟩ | ⟨d1, d0⟩
          all_goals
            go_wp2_with fail
            refine EN.out.mono ?_
            rintro e w2 ⟨rfl, hb⟩
            have B3 := Lib.hid (below_chain BW.out (below_chain B2.out hb))
            have KX := Lib.hid (KV.out.below hb)
            clear hb e0 e1 e2 e3 v0 v1 v2 v3 r0 hV
            have v0 : w2.cell? ⟨wr.heap.size, 0, none⟩ = some (.int .i64 k) := by rw [KX.out.cell]; rfl
            go_wp2
            go_ret
            exact ⟨congrArg (fun b => Ending.returned (Value.bool b)) HE.out.symm, B3.out⟩
    · have HE := Lib.hid (show r = true by
        rw [← EA.out]
        exact upto_end (by rw [HL.out]; omega) HT.out)
      clear HT
      go_wp2
      go_ret
      exact ⟨congrArg (fun b => Ending.returned (Value.bool b)) HE.out.symm, below_chain BW.out HB.out⟩

end Go.Proofs.Ytbbagpnjjjohpaa.hexes

namespace Go.Proofs.Ytbbagpnjjjohpaa.hexes
open Go.RowKit

/-- Two lists share no block. -/
def ApartC (A B : Option Addr) : Prop := ∀ g o o', A = some ⟨g, o, none⟩ → B ≠ some ⟨g, o', none⟩
/-- How Improve ends. -/
def ImpEnd (w : World) (q : List Ce × List Ce) (e : Ending) (w' : World) : Prop :=
  ∃ (A3 : Option Addr) (c3 m3 : Nat) (A4 : Option Addr) (c4 m4 : Nat), q.1.length = m3 ∧ q.2.length = m4 ∧ e = .returned (.tuple #[.slice A3 m3 c3, .slice A4 m4 c4]) ∧ Wce w' w.heap.size w'.heap.size A3 m3 c3 q.1 ∧ Wce w' w.heap.size w'.heap.size A4 m4 c4 q.2 ∧ ApartC A3 A4 ∧ Below w.heap.size w w'
theorem specRecG_rowI {kd : Int} {n m : Nat} {zs us : List Ce} {A : Option Addr} {c : Nat} {b : Bool} {x0 x1 x2 x3 : Int} (hz : zs.length = n) (hA : A = none → c = 0) (hc : n ≤ c) (hn : n ≤ 2000000) (hr : recC kd zs (x0, x1, x2, x3) = (us, b)) (hm : us.length = m) (w : World) (h : Ces w A zs) :
    Calls Try.prog 58 #[.int .i64 kd, .slice A n c, .agg #[.int .i64 x0, .int .i64 x1, .int .i64 x2, .int .i64 x3]] w fun e w' => ∃ A1 c1, e = .returned (.tuple #[.slice A1 m c1, .bool b]) ∧ Row w' w.heap.size w'.heap.size 38 4 A1 m c1 (ceCells us) ∧ Below w.heap.size w w' := by
  subst hm
  refine (specRec_any kd n zs hz A c hA hc x0 x1 x2 x3 w h hn).mono ?_
  rintro e w' ⟨v, he, ho, hb⟩
  rw [hr] at he ho
  obtain ⟨A1, c1, rfl, r⟩ := row_of ho
  exact ⟨A1, c1, he, r, hb⟩

/-- What the emitting loop reads. -/
structure ImpHeld (nb m cn bz oz j : Nat) (z : Int) (xb : Nat) (x1 : Int) (w : World) : Prop where
  c3 : w.cell? ⟨nb, 3, none⟩ = some (.slice (some ⟨bz, oz, none⟩) m cn)
  e : w.cell? ⟨bz, oz + j, none⟩ = some (.int .i64 z)
  t1 : w.cell? ⟨xb, 1, none⟩ = some (.int .i64 x1)
  tr : True
theorem ImpHeld.below {nb m cn bz oz j : Nat} {z : Int} {xb : Nat} {x1 : Int} {w w' : World} (h : ImpHeld nb m cn bz oz j z xb x1 w) (hb : Below w.heap.size w w') : ImpHeld nb m cn bz oz j z xb x1 w' :=
  ⟨below_keep hb h.c3, below_keep hb h.e, below_keep hb h.t1, trivial⟩
/-- What the emitting loop keeps from round to round. -/
structure ImpSt (w wr : World) (loS hiS bZ nb xb : Nat) (As : Option Addr) (ms cs : Nat) (us : List Ce) (An : Option Addr) (m cn : Nat) (zs : List Int) (k a b x0 x1 x2 x3 : Int) (AO : Option Addr) (j cO : Nat) (out : List Ce) : Prop where
  o : Wce wr w.heap.size wr.heap.size AO j cO out
  s : Row wr loS hiS 38 4 As ms cs (ceCells us)
  z : wr.ownsRow bZ 3 1 (.slice An m cn) m (isCells zs)
  n : Blk wr nb 46 #[.int .i64 k, .int .i64 a, .int .i64 b, .slice An m cn]
  x : Blk wr xb 38 #[.int .i64 x0, .int .i64 x1, .int .i64 x2, .int .i64 x3]
  ap : ∀ g o, AO = some ⟨g, o, none⟩ → (g < loS ∨ hiS ≤ g) ∧ g ≠ xb
  ws : w.heap.size ≤ loS
  hs : hiS ≤ wr.heap.size
  xs : xb < wr.heap.size
  bel : Below w.heap.size w wr
section
variable {w wr w' : World} {loS hiS bZ nb xb ms cs m cn j cO : Nat} {As An AO : Option Addr} {us out : List Ce} {zs : List Int} {k a b x0 x1 x2 x3 : Int}
theorem ImpSt.fresh (h : ImpSt w wr loS hiS bZ nb xb As ms cs us An m cn zs k a b x0 x1 x2 x3 AO j cO out) (hb : Below wr.heap.size wr w') : ImpSt w w' loS hiS bZ nb xb As ms cs us An m cn zs k a b x0 x1 x2 x3 AO j cO out :=
  ⟨(h.o.below hb).bounds (Nat.le_refl _) hb.size, h.s.below hb, own_below h.z hb, h.n.below hb, h.x.below hb, h.ap, h.ws, Nat.le_trans h.hs hb.size, Nat.lt_of_lt_of_le h.xs hb.size, below_chain h.bel hb⟩
theorem ImpSt.app (h : ImpSt w wr loS hiS bZ nb xb As ms cs us An m cn zs k a b x0 x1 x2 x3 AO j cO out) {r : Ce} {A2 : Option Addr} {c2 : Nat} (ho : Wce w' w.heap.size w'.heap.size A2 (j + 1) c2 (out ++ [r])) (gr : ToV wr w' w.heap.size wr.heap.size 38 4 AO) (ha : A2 = AO ∨ ∃ g o, A2 = some ⟨g, o, none⟩ ∧ wr.heap.size ≤ g) :
    ImpSt w w' loS hiS bZ nb xb As ms cs us An m cn zs k a b x0 x1 x2 x3 A2 (j + 1) c2 (out ++ [r]) := by
  refine ⟨ho, ⟨gr.apart h.s.own fun g o hA e => ?_, h.s.lt⟩, gr.kept h.z (by decide), gr.blk h.n (by decide), ?_, fun g o hA => ?_, h.ws, Nat.le_trans h.hs gr.grow, Nat.lt_of_lt_of_le h.xs gr.grow, gr.bel h.bel (Nat.le_refl _)⟩
  · have h1 := own_ge h.s.own g e
    have h2 := h.s.lt g e
    have h3 := (h.ap g o hA).1
    omega
  · obtain ⟨row, hg, hr⟩ := gr
    refine h.x.grown hg fun e => ?_
    rcases hr with rfl | ⟨g, o, _, _, _, rfl, hA, _, _⟩
    · cases e
    · exact (h.ap g o hA).2 (Option.some.inj e).symm
  · rcases ha with rfl | ⟨g2, o2, rfl, hge⟩
    · exact h.ap g o hA
    · simp only [Option.some.injEq, Addr.mk.injEq, and_true] at hA
      have h1 := h.hs
      have h2 := h.xs
      omega
theorem ImpSt.at (h : ImpSt w wr loS hiS bZ nb xb As ms cs us An m cn zs k a b x0 x1 x2 x3 AO j cO out) : zs.length = m ∧ Ints wr An zs := by
  obtain ⟨A', c', he, hl, hs⟩ := Ints.of_own h.z
  simp only [Value.slice.injEq, true_and] at he
  obtain ⟨rfl, rfl⟩ := he
  exact ⟨hl, hs⟩
theorem ImpSt.held (h : ImpSt w wr loS hiS bZ nb xb As ms cs us An m cn zs k a b x0 x1 x2 x3 AO j cO out) {bz oz i : Nat} {z : Int} (hi : i < zs.length) (hA : An = some ⟨bz, oz, none⟩) (hz : zs[i] = z) : ImpHeld nb m cn bz oz i z xb x1 wr := by
  obtain ⟨bz', oz', p, hA', hp, hc⟩ := h.at.2.at hi
  rw [hA] at hA'
  simp only [Option.some.injEq, Addr.mk.injEq, and_true] at hA'
  obtain ⟨rfl, rfl⟩ := hA'
  rw [hz] at hp
  subst hp
  exact ⟨by rw [h.n.cell, hA]; rfl, hc, by rw [h.x.cell]; rfl, trivial⟩
theorem ImpSt.done (h : ImpSt w wr loS hiS bZ nb xb As ms cs us An m cn zs k a b x0 x1 x2 x3 AO j cO out) {q : List Ce × List Ce} (hq : q = (us, out)) : ImpEnd w q (.returned (.tuple #[.slice As ms cs, .slice AO j cO])) wr := by
  subst hq
  have h1 := h.s.own.1
  rw [ceCells_length] at h1
  refine ⟨As, cs, ms, AO, cO, j, by show us.length = ms; omega, h.o.1, rfl, (Wce.of_row h.s).bounds h.ws h.hs, h.o, fun g o o' hA hB => ?_, h.bel⟩
  have h3 := (h.ap g o' hB).1
  have h4 : (Value.slice As ms cs).ownBlock = some g := by rw [hA]; rfl
  have h5 := own_ge h.s.own g h4
  have h6 := h.s.lt g h4
  omega
end
theorem emitC_step {zs : List Int} {ep ky vy : Int} {j : Nat} (hj : j < zs.length) : emitC (zs.take (j + 1)) ep ky vy = emitC (zs.take j) ep ky vy ++ [(zs[j], ep, ky, vy)] := by
  unfold emitC
  rw [take_last hj, List.map_append]
  rfl
theorem impG_no {gs : List Nd} {wk cp : Int} {best : List Ce} {c : Ce} (h : impB gs wk cp c = false) : impG gs wk cp best c = (best, []) := by
  unfold impG
  rw [h, if_neg (by simp)]
theorem impG_off {gs : List Nd} {wk cp : Int} {best us : List Ce} {c : Ce} (h : recC 5 best c = (us, false)) : impG gs wk cp best c = (best, []) := by
  have h2 : (recL best c).2 = false := by have := congrArg Prod.snd h; simpa [recC] using this
  unfold impG
  rw [h2, Bool.and_false, if_neg (by simp)]
theorem impG_on {gs : List Nd} {wk cp : Int} {best us : List Ce} {c : Ce} {k a b : Int} {zs : List Int} {q2 go : Bool} {ky vy : Int} (hb : impB gs wk cp c = true) (h : recC 5 best c = (us, true)) (hx : nodeAt gs c.1 = (k, a, b, zs)) (hq : okC k a b (dec1 a) c.2.2.1 c.2.2.2 zs = q2) (hk : chgK q2 k a c.2.2.1 = ky) (hv : chgV q2 k a c.2.2.2 = vy) (hg : chgO q2 k a b c.2.2.1 = go) : impG gs wk cp best c = (us, if go = true then emitC zs c.2.1 ky vy else []) := by
  have h2 : recL best c = (us, true) := by simpa [recC] using h
  unfold impG
  rw [hb, h2, if_pos (by rfl), hx]
  unfold moreX
  simp only [hq, hk, hv, hg]
end Go.Proofs.Ytbbagpnjjjohpaa.hexes

namespace Go.Proofs.Ytbbagpnjjjohpaa.hexes
open Go.RowKit

def cellI (w : World) (b o : Nat) : Int := match w.cell? ⟨b, o, none⟩ with
  | some (.int .i64 x) => x
  | _ => 0
/-- The cells that a slice shows. -/
def readCe (w : World) (v : Value) : List Ce := match v with
  | .slice (some a) n _ => (List.range n).map fun j => (cellI w a.block (a.off + j * 4), cellI w a.block (a.off + j * 4 + 1), cellI w a.block (a.off + j * 4 + 2), cellI w a.block (a.off + j * 4 + 3))
  | _ => []
theorem readCe_is {w : World} {A : Option Addr} {n c : Nat} {zs : List Ce} (h : Ces w A zs) (hl : zs.length = n) : readCe w (.slice A n c) = zs := by
  by_cases h0 : n = 0
  · subst h0
    obtain rfl := List.eq_nil_of_length_eq_zero hl
    cases A <;> rfl
  · obtain ⟨b, off, rfl, _, hz⟩ := h (by omega)
    unfold readCe
    apply List.ext_getElem
    · simp [hl]
    · intro j h1 h2
      obtain ⟨e0, e1, e2, e3⟩ := hz j h2
      simp only [List.getElem_map, List.getElem_range, cellI, e0, e1, e2, e3]
theorem Wce.empty (w : World) (lo hi : Nat) (A : Option Addr) : Wce w lo hi A 0 0 [] := ⟨rfl, rfl, .inl ⟨rfl, rfl⟩⟩
theorem Wce.lt {w : World} {lo hi n c : Nat} {A : Option Addr} {zs : List Ce} (h : Wce w lo hi A n c zs) (hc : 0 < c) : ∃ g o, A = some ⟨g, o, none⟩ ∧ g < hi := by
  rcases h.2.2 with ⟨_, h0⟩ | ⟨g, k, pre, hA, _, hlt, _⟩
  · omega
  · exact ⟨g, _, hA, hlt⟩
/-- A list that lies below is apart from a new one, or holds nothing. -/
theorem Wce.keptN {w w' : World} {lo hi n c lo2 hi2 : Nat} {A A' : Option Addr} {zs : List Ce} (h : Wce w lo hi A n c zs) (gr : ToV w w' lo2 hi2 38 4 A') (hd : ∀ g o, A' = some ⟨g, o, none⟩ → hi ≤ g) : Wce w' lo hi A n c zs := by
  refine ⟨h.1, h.2.1, h.2.2.imp id ?_⟩
  rintro ⟨g, k, pre, hA, hk, hlt, ho⟩
  exact ⟨g, k, pre, hA, hk, hlt, gr.apart ho fun g2 o hA2 e => by
    have := hd g2 o hA2
    simp only [Value.ownBlock, Option.some.injEq] at e
    omega⟩
/-- How a function ends whose answer is a list of cells of its own. -/
def CesOut (w : World) (q : List Ce) (e : Ending) (w' : World) : Prop := ∃ A3 c3 m3, q.length = m3 ∧ e = .returned (.slice A3 m3 c3) ∧ Wce w' w.heap.size w'.heap.size A3 m3 c3 q ∧ Below w.heap.size w w'
/-- What Fixpoint keeps. -/
structure FixSt (w wr : World) (gs : List Nd) (wk cp : Int) (A : Option Addr) (n c : Nat) (A3 : Option Addr) (m3 c3 : Nat) (best : List Ce) (A4 : Option Addr) (m4 c4 : Nat) (xs : List Ce) : Prop where
  b : Wce wr w.heap.size wr.heap.size A3 m3 c3 best
  l : Wce wr w.heap.size wr.heap.size A4 m4 c4 xs
  g : Blk wr w.heap.size 26 #[.slice A n c, .int .i64 wk, .int .i64 cp]
  bel : Below w.heap.size w wr
  n0 : Nds w A gs
section
variable {w wr w' : World} {gs : List Nd} {wk cp : Int} {A : Option Addr} {n c : Nat} {A3 : Option Addr} {m3 c3 : Nat} {best : List Ce} {A4 : Option Addr} {m4 c4 : Nat} {xs : List Ce}
theorem FixSt.fresh (h : FixSt w wr gs wk cp A n c A3 m3 c3 best A4 m4 c4 xs) (hb : Below wr.heap.size wr w') : FixSt w w' gs wk cp A n c A3 m3 c3 best A4 m4 c4 xs :=
  ⟨(h.b.below hb).bounds (Nat.le_refl _) hb.size, (h.l.below hb).bounds (Nat.le_refl _) hb.size, h.g.below hb, below_chain h.bel hb, h.n0⟩
theorem FixSt.nds (h : FixSt w wr gs wk cp A n c A3 m3 c3 best A4 m4 c4 xs) : Nds wr A gs := h.n0.below h.bel
theorem FixSt.meas (h : FixSt w wr gs wk cp A n c A3 m3 c3 best A4 m4 c4 xs) (ep : Int) : meas (readCe wr (.slice A3 m3 c3)) ep (readCe wr (.slice A4 m4 c4)) = hexes.meas best ep xs := by
  rw [readCe_is h.b.ce h.b.1, readCe_is h.l.ce h.l.1]
end
/-- What a round's call reads. -/
structure FixHeld (V : World) (g : Nat) (A : Option Addr) (n c : Nat) (wk cp : Int) (b o : Nat) (p0 p1 p2 p3 : Int) (w : World) : Prop where
  g0 : w.cell? ⟨g, 0, none⟩ = some (.slice A n c)
  g1 : w.cell? ⟨g, 1, none⟩ = some (.int .i64 wk)
  g2 : w.cell? ⟨g, 2, none⟩ = some (.int .i64 cp)
  c0 : w.cell? ⟨b, o, none⟩ = some (.int .i64 p0)
  c1 : w.cell? ⟨b, o + 1, none⟩ = some (.int .i64 p1)
  c2 : w.cell? ⟨b, o + 2, none⟩ = some (.int .i64 p2)
  c3 : w.cell? ⟨b, o + 3, none⟩ = some (.int .i64 p3)
  bel : Below V.heap.size V w
theorem FixHeld.below {V : World} {g : Nat} {A : Option Addr} {n c : Nat} {wk cp : Int} {b o : Nat} {p0 p1 p2 p3 : Int} {w w' : World} (h : FixHeld V g A n c wk cp b o p0 p1 p2 p3 w) (hb : Below w.heap.size w w') : FixHeld V g A n c wk cp b o p0 p1 p2 p3 w' :=
  ⟨below_keep hb h.g0, below_keep hb h.g1, below_keep hb h.g2, below_keep hb h.c0, below_keep hb h.c1, below_keep hb h.c2, below_keep hb h.c3, below_chain h.bel hb⟩
theorem FixSt.held {w wr : World} {gs : List Nd} {wk cp : Int} {A : Option Addr} {n c : Nat} {A3 : Option Addr} {m3 c3 : Nat} {best : List Ce} {A4 : Option Addr} {m4 c4 : Nat} {xs : List Ce} {p0 p1 p2 p3 : Int} (h : FixSt w wr gs wk cp A n c A3 m3 c3 best A4 m4 c4 ((p0, p1, p2, p3) :: xs)) : ∃ b o, A4 = some ⟨b, o, none⟩ ∧ FixHeld wr w.heap.size A n c wk cp b o p0 p1 p2 p3 wr := by
  obtain ⟨b, o, q0, q1, q2, q3, hA, hq, h0, h1, h2, h3⟩ := h.l.ce.at (k := 0) (by simp)
  simp only [List.getElem_cons_zero, Prod.mk.injEq] at hq
  obtain ⟨rfl, rfl, rfl, rfl⟩ := hq
  simp only [Nat.zero_mul, Nat.add_zero] at h0 h1 h2 h3
  exact ⟨b, o, hA, by rw [h.g.cell]; rfl, by rw [h.g.cell]; rfl, by rw [h.g.cell]; rfl, h0, h1, h2, h3, Below.refl _ _⟩
end Go.Proofs.Ytbbagpnjjjohpaa.hexes

