/-
  The reference's Adjust: the contract of spec.Adjust.
-/
import Derived.Test.YtdmbkjebagnloaaGreatDoorJ19
import Derived.Test.YtdmbkjebagnloaaGreatDoorRegD12

namespace Go.Proofs.YtdmbkjebagnloaaGreatDoor.hexes
open Go.RowKit

structure Ent3 (W : World) (b o : Nat) (p0 p1 p2 : Int) (sb : Nat) (x y : Int) (w' : World) : Prop where
  c0 : w'.cell? ⟨b, o, none⟩ = some (.int .i64 p0)
  c1 : w'.cell? ⟨b, o + 1, none⟩ = some (.int .i64 p1)
  c2 : w'.cell? ⟨b, o + 2, none⟩ = some (.int .i64 p2)
  d0 : w'.cell? ⟨sb, 0, none⟩ = some (.int .i64 x)
  d1 : w'.cell? ⟨sb, 1, none⟩ = some (.int .i64 y)
  bel : Below W.heap.size W w'
theorem Ent3.drew {W : World} {b o : Nat} {p0 p1 p2 : Int} {sb : Nat} {x y : Int} {w' : World} (h : Ent3 W b o p0 p1 p2 sb x y w') : Ent3 W b o p0 p1 p2 sb x y w'.drew := ⟨h.c0, h.c1, h.c2, h.d0, h.d1, h.bel.drew⟩
theorem Ent3.below {W : World} {b o : Nat} {p0 p1 p2 : Int} {sb : Nat} {x y : Int} {w' w2 : World} (h : Ent3 W b o p0 p1 p2 sb x y w') (hb : Below w'.heap.size w' w2) : Ent3 W b o p0 p1 p2 sb x y w2 := ⟨below_keep hb h.c0, below_keep hb h.c1, below_keep hb h.c2, below_keep hb h.d0, below_keep hb h.d1, below_chain h.bel hb⟩
theorem own_drew_ct {W : World} {B e size n : Nat} {v : Value} {xs : List Value} (h : W.ownsRow B e size v n xs) : W.drew.ownsRow B e size v n xs := h

theorem adjStep_done1 {s : Int × Int} {v : Int} {out : List Ct} (z : Ct) : adjStep s v (out, true) z = if z.1 = s then (out, true) else (out ++ [z], true) := by
  unfold adjStep
  simp
theorem adjStep_ge {s : Int × Int} {v : Int} {out : List Ct} {z : Ct} (h : ¬ltS z.1 s) : adjStep s v (out, false) z = if z.1 = s then (out ++ [(s, v)], true) else (out ++ [(s, v)] ++ [z], true) := by
  unfold adjStep
  simp [h]
theorem adjStep_lt {s : Int × Int} {v : Int} {out : List Ct} {z : Ct} (h : ltS z.1 s) : adjStep s v (out, false) z = (out ++ [z], false) := by
  unfold adjStep
  have : z.1 ≠ s := fun e => by rw [e] at h; exact ltS_irrefl _ h
  simp [h, this]

theorem adj_no {zs : List Ct} {s : Int × Int} {n : Int} (h : adjOk zs s n = false) : adjL zs s n = zs := by unfold adjL; rw [h]; rfl

/-- How Adjust ends. -/
def AdjEnd (w : World) (zs : List Ct) (s : Int × Int) (n : Int) (e : Ending) (w' : World) : Prop :=
  ∃ v, e = .returned (.tuple #[v, .bool (adjOk zs s n)]) ∧ w'.ownsRow w.heap.size 64 3 v (adjL zs s n).length (ctCells (adjL zs s n)) ∧ Below w.heap.size w w'

theorem AdjEnd.no {w w' : World} {zs : List Ct} {s : Int × Int} {nn : Int} {n : Nat} {v : Value} (h : adjOk zs s nn = false) (hz : zs.length = n) (ho : w'.ownsRow w.heap.size 64 3 v n (ctCells zs)) (hb : Below w.heap.size w w') : AdjEnd w zs s nn (.returned (.tuple #[v, .bool false])) w' :=
  ⟨v, by rw [h], by rw [adj_no h, hz]; exact ho, hb⟩
theorem adj_far {zs : List Ct} {s : Int × Int} {n : Int} (h : Table zs) (hn : -2000000 ≤ n → 2000000 < n) : adjOk zs s n = false := by
  rw [← Bool.not_eq_true, adjOk_iff]
  rintro ⟨_, _, h2⟩
  have := countAt_bd h s
  omega

set_option maxRecDepth 1000000 in
set_option maxHeartbeats 16000000 in
theorem specAdj_any (n : Nat) (zs : List Ct) (hz : zs.length = n) (A : Option Addr) (c : Nat) (hA : A = none → c = 0) (x y nn : Int) (w : World) (h1 : Cts w A zs) (hn : n ≤ 2000000) :
    Calls Tryz.prog 47 #[.slice A n c, .agg #[.int .i64 x, .int .i64 y], .int .i64 nn] w (AdjEnd w zs (x, y) nn) := by
  have HZ := Lib.hid hz
  have HA := Lib.hid hA
  have hbx := Below.alloc (Below.refl w.heap.size w) (Nat.le_refl _) (.cells #[.int .i64 x, .int .i64 y] 30)
  have hb0 := hbx.alloc (Nat.le_trans hbx.size (Nat.le_refl _)) (.cells #[] 64)
  have C1 := Lib.hid (h1.below hb0)
  have H1 := Lib.hid h1
  have HB0 := Lib.hid hb0
  have k0 : ((w.alloc (.cells #[.int .i64 x, .int .i64 y] 30)).alloc (.cells #[] 64)).cell? ⟨w.heap.size, 0, none⟩ = some (.int .i64 x) := alloc_keep (alloc_cells rfl rfl)
  have k1 : ((w.alloc (.cells #[.int .i64 x, .int .i64 y] 30)).alloc (.cells #[] 64)).cell? ⟨w.heap.size, 1, none⟩ = some (.int .i64 y) := alloc_keep (alloc_cells rfl rfl)
  have K0 := Lib.hid k0
  have K1 := Lib.hid k1
  clear h1 hz hA hbx hb0 k0 k1
  have lit := World.ownsRow_lit (base := (w.alloc (.cells #[.int .i64 x, .int .i64 y] 30)).heap.size) (e := 64) (size := 3) (w.alloc (.cells #[.int .i64 x, .int .i64 y] 30)) #[] 0 (Nat.le_refl _) (by decide) (by rfl)
  have LIT := Lib.hid lit
  clear lit
  go_enter Tryz.func47, Tryz.ntmps47
  go_wp2_with (at_builtin; refine wpList_append_ct rfl (.tmp 13) (.tmp 14) (by rfl) (w.alloc (.cells #[.int .i64 x, .int .i64 y] 30)).heap.size (.slice (some ⟨(w.alloc (.cells #[.int .i64 x, .int .i64 y] 30)).heap.size, 0, none⟩) 0 0) 0 [] (by simp [Act.eval]) LIT.out A n c zs (by rfl) HA.out HZ.out C1.out (by omega) (by simp) ?_; intro vs w2 own2 gr2)
  have hb2 := HB0.out.grown gr2 HB0.out.size (fun k hk => Nat.le_trans (by simp) (own_ge LIT.out k hk))
  have s0 := World.grownBy.cell gr2 K0.out (by simp [Value.ownBlock])
  have s1 := World.grownBy.cell gr2 K1.out (by simp [Value.ownBlock])
  rw [Nat.zero_add, List.nil_append] at own2
  have O2 := Lib.hid (own_base own2 (show w.heap.size ≤ _ by simp))
  have B2 := Lib.hid hb2
  have C2 := Lib.hid (H1.out.below hb2)
  have S0 := Lib.hid s0
  have S1 := Lib.hid s1
  clear own2 gr2 hb2 s0 s1 LIT K0 K1 C1 HB0
  have CK := specCtOk_any n zs HZ.out A c w2 C2.out (by omega)
  cases ho : okCts zs with
  | false =>
    rw [ho] at CK
    have NO := Lib.hid (show adjOk zs (x, y) nn = false by unfold adjOk; rw [ho]; rfl)
    have E1 := Lib.hid CK
    clear CK ho
    refine E1.out.mono ?_
    rintro e w3 ⟨rfl, b3⟩
    have B3 := Lib.hid (below_chain B2.out b3)
    have O3 := Lib.hid (own_below O2.out b3)
    clear b3
    go_wp2
    exact bodyPost_ret (v := .tuple #[vs, .bool false]) (by simp [results, Tryz.results47, go_sem]) rfl (AdjEnd.no NO.out HZ.out O3.out B3.out)
  | true =>
    rw [ho] at CK
    have E1 := Lib.hid CK
    have TB := Lib.hid (okCts_table ho)
    clear CK
    refine E1.out.mono ?_
    rintro e w3 ⟨rfl, b3⟩
    have B3 := Lib.hid (below_chain B2.out b3)
    have O3 := Lib.hid (own_below O2.out b3)
    have C3 := Lib.hid (C2.out.below b3)
    have s0 := below_keep b3 S0.out
    have s1 := below_keep b3 S1.out
    clear b3 C2 O2 B2 S0 S1 E1
    cases hs : okSt x y with
    | false =>
      have NO := Lib.hid (show adjOk zs (x, y) nn = false by unfold adjOk; rw [ho, hs]; rfl)
      have E2 := Lib.hid (fun W => specOkS_is hs W)
      clear ho hs
      go_wp2_with fail
      refine (E2.out _).mono ?_
      rintro e w4 ⟨rfl, b4⟩
      have B4 := Lib.hid (below_chain B3.out b4)
      have O4 := Lib.hid (own_below O3.out b4)
      clear b4
      go_wp2
      exact bodyPost_ret (v := .tuple #[vs, .bool false]) (by simp [results, Tryz.results47, go_sem]) rfl (AdjEnd.no NO.out HZ.out O4.out B4.out)
    | true =>
      have E2 := Lib.hid (fun W => specOkS_is hs W)
      go_wp2_with fail
      refine (E2.out _).mono ?_
      rintro e w4 ⟨rfl, b4⟩
      have B4 := Lib.hid (below_chain B3.out b4)
      have O4 := Lib.hid (own_below O3.out b4)
      have C4 := Lib.hid (C3.out.below b4)
      replace s0 := below_keep b4 s0
      replace s1 := below_keep b4 s1
      clear b4 B3 O3 C3 E2
      cases hi : decide (-2000000 ≤ nn ∧ nn ≤ 2000000) with
      | false =>
        have NO := Lib.hid (show adjOk zs (x, y) nn = false from adj_far TB.out (by simpa using hi))
        have E3 := Lib.hid (fun W => specIn_is hi W)
        clear ho hs hi
        go_wp2_with fail
        refine (E3.out _).mono ?_
        rintro e w5 ⟨rfl, b5⟩
        have B5 := Lib.hid (below_chain B4.out b5)
        have O5 := Lib.hid (own_below O4.out b5)
        clear b5
        go_wp2
        exact bodyPost_ret (v := .tuple #[vs, .bool false]) (by simp [results, Tryz.results47, go_sem]) rfl (AdjEnd.no NO.out HZ.out O5.out B5.out)
      | true =>
        have E3 := Lib.hid (fun W => specIn_is hi W)
        have hi' : -2000000 ≤ nn ∧ nn ≤ 2000000 := by simpa using hi
        obtain ⟨hi1, hi2⟩ := hi'
        have hcb := countAt_bd TB.out (x, y)
        obtain ⟨cv, hcv⟩ : ∃ cv, cv = countAt zs (x, y) := ⟨_, rfl⟩
        rw [← hcv] at hcb
        obtain ⟨hc1, hc2⟩ := hcb
        have HCV := Lib.hid hcv
        clear hi hcv
        go_wp2_with fail
        refine (E3.out _).mono ?_
        rintro e w5 ⟨rfl, b5⟩
        have B5 := Lib.hid (below_chain B4.out b5)
        have O5 := Lib.hid (own_below O4.out b5)
        have C5 := Lib.hid (C4.out.below b5)
        replace s0 := below_keep b5 s0
        replace s1 := below_keep b5 s1
        clear b5 B4 O4 C4 E3
        go_wp2_with fail
        refine (specCountAt_any n zs HZ.out A c x y w5 C5.out (by omega)).mono ?_
        rintro e w6 ⟨rfl, b6⟩
        rw [← HCV.out]
        have B6 := Lib.hid (below_chain B5.out b6)
        have O6 := Lib.hid (own_below O5.out b6)
        have C6 := Lib.hid (C5.out.below b6)
        replace s0 := below_keep b6 s0
        replace s1 := below_keep b6 s1
        clear b6 B5 O5 C5
        cases hr : decide (-1000000 ≤ cv + nn ∧ cv + nn ≤ 1000000) with
        | false =>
          have NO := Lib.hid (show adjOk zs (x, y) nn = false by unfold adjOk; rw [ho, hs, ← HCV.out, hr]; rfl)
          have E4 := Lib.hid (fun W => specIn_is hr W)
          clear ho hs hr
          go_wp2_with fail
          refine (E4.out _).mono ?_
          rintro e w7 ⟨rfl, b7⟩
          have B7 := Lib.hid (below_chain B6.out b7)
          have O7 := Lib.hid (own_below O6.out b7)
          clear b7
          go_wp2
          exact bodyPost_ret (v := .tuple #[vs, .bool false]) (by simp [results, Tryz.results47, go_sem]) rfl (AdjEnd.no NO.out HZ.out O7.out B7.out)
        | true =>
          have YES := Lib.hid (show adjOk zs (x, y) nn = true by unfold adjOk; rw [ho, hs, ← HCV.out, hr]; rfl)
          have E4 := Lib.hid (fun W => specIn_is hr W)
          clear ho hs hr
          go_wp2_with fail
          refine (E4.out _).mono ?_
          rintro e wb ⟨rfl, b7⟩
          have B7 := Lib.hid (below_chain B6.out b7)
          have C2 := Lib.hid (C6.out.below b7)
          have S0 := Lib.hid (below_keep b7 s0)
          have S1 := Lib.hid (below_keep b7 s1)
          clear b7 s0 s1 C6 B6 O6 E4
          obtain ⟨v, hv⟩ : ∃ v, v = cv + nn := ⟨_, rfl⟩
          have HV := Lib.hid hv
          rw [← hv]
          clear hv hi1 hi2 hc1 hc2
          go_wp2
          go_loopw [10, 11, 12] (fun o d i wr => ∃ (k m : Nat) (out : List Ct) (dd : Bool), k ≤ n ∧ m ≤ 2 * k ∧ out.length = m ∧ i = .int .i64 k ∧ d = .bool dd ∧ (out, dd) = adjScan (x, y) v (zs.take k) ∧ wr.ownsRow wb.heap.size 64 3 o m (ctCells out) ∧ Below wb.heap.size wb wr) (fun _ _ i _ => n - (intOf i).toNat)
          case atStart => exact ⟨0, 0, [], v == 0, Nat.zero_le _, Nat.zero_le _, rfl, rfl, rfl, rfl, World.ownsRow_lit wb #[] 0 (Nat.le_refl _) (by decide) rfl, (Below.refl _ _).alloc (Nat.le_refl _) _⟩
          case round =>
            obtain ⟨k, m, out, dd, hk, hm2, hml, rfl, rfl, hsc, hown, hb⟩ := hrel
            have ML := Lib.hid hml
            have SC := Lib.hid hsc
            have HO := Lib.hid hown
            have HB := Lib.hid hb
            clear hml hsc hown hb
            by_cases hlt : k < n
            · have l1 : k < zs.length := by rw [HZ.out]; exact hlt
              have i0 : (0 : Int) ≤ (k : Int) := by omega
              have i1 : (k : Int) < (n : Int) := by omega
              obtain ⟨b, off, p0, p1, p2, rfl, x1, e0, e1, e2⟩ := (C2.out.below HB.out).at l1
              have X1 := Lib.hid x1
              have T0 := Lib.hid (show Ent3 wr b (off + k * 3) p0 p1 p2 w.heap.size x y wr from ⟨e0, e1, e2, below_keep HB.out S0.out, below_keep HB.out S1.out, Below.refl _ _⟩)
              clear x1 e0 e1 e2
              cases dd with
              | true =>
                have HST := Lib.hid (show adjScan (x, y) v (zs.take (k + 1)) = (if (p0, p1) = (x, y) then (out, true) else (out ++ [((p0, p1), p2)], true)) from (adjScan_step l1).trans (by rw [← SC.out, X1.out]; exact adjStep_done1 _))
                go_wp2_with fail
                refine wp_region_held_drew (S := Ent3 wr b (off + k * 3) p0 p1 p2 w.heap.size x y) (by kernel_rfl) ?_ (fun hHeld => ?_)
                · skip
                  exact T0.out.drew
                change wpAnyH _ _ opsD12 _ _ 12 (LD12 0) _ _
                refine tD12_0 (.bool true) (fun _ _ _ h => h) (Or.inl ⟨by rfl, fun W hSw => ?_⟩) hHeld ?_
                · skip
                  unfold qD12_0
                  go_simp
                try simp only [Act.put, List.setIfInBounds_toArray, List.set_cons_zero, List.set_cons_succ]
                refine tD12_1 (.bool false) (fun _ _ _ h => h) (Or.inl ⟨by rfl, fun W hSw => ?_⟩) hHeld ?_
                · skip
                  unfold qD12_1
                  go_simp
                try simp only [Act.put, List.setIfInBounds_toArray, List.set_cons_zero, List.set_cons_succ]
                refine tD12_2 (.bool false) (fun _ _ _ h => h) (Or.inl ⟨by rfl, fun W hSw => ?_⟩) hHeld ?_
                · skip
                  unfold qD12_2
                  go_simp
                try simp only [Act.put, List.setIfInBounds_toArray, List.set_cons_zero, List.set_cons_succ]
                refine tD12_3 undef (fun _ _ _ h => h) (Or.inr ⟨by rfl, rfl⟩) hHeld ?_
                try simp only [Act.put, List.setIfInBounds_toArray, List.set_cons_zero, List.set_cons_succ]
                refine tD12_4 undef (fun _ _ _ h => h) (Or.inr ⟨by rfl, rfl⟩) hHeld ?_
                try simp only [Act.put, List.setIfInBounds_toArray, List.set_cons_zero, List.set_cons_succ]
                refine tD12_5 undef (fun _ _ _ h => h) (Or.inr ⟨by rfl, rfl⟩) hHeld ?_
                try simp only [Act.put, List.setIfInBounds_toArray, List.set_cons_zero, List.set_cons_succ]
                refine tD12_6 undef (fun _ _ _ h => h) (Or.inr ⟨by rfl, rfl⟩) hHeld ?_
                try simp only [Act.put, List.setIfInBounds_toArray, List.set_cons_zero, List.set_cons_succ]
                refine tD12_7 undef (fun _ _ _ h => h) (Or.inr ⟨by rfl, rfl⟩) hHeld ?_
                try simp only [Act.put, List.setIfInBounds_toArray, List.set_cons_zero, List.set_cons_succ]
                refine tD12_8 undef (fun _ _ _ h => h) (Or.inr ⟨by rfl, rfl⟩) hHeld ?_
                try simp only [Act.put, List.setIfInBounds_toArray, List.set_cons_zero, List.set_cons_succ]
                refine tD12_9 undef (fun _ _ _ h => h) (Or.inr ⟨by rfl, rfl⟩) hHeld ?_
                try simp only [Act.put, List.setIfInBounds_toArray, List.set_cons_zero, List.set_cons_succ]
                refine tD12_10 undef (fun _ _ _ h => h) (Or.inr ⟨by rfl, rfl⟩) hHeld ?_
                try simp only [Act.put, List.setIfInBounds_toArray, List.set_cons_zero, List.set_cons_succ]
                refine tD12_11 (Value.bool false) (fun _ _ _ h => h) (Or.inl ⟨by rfl, fun W hSw => ?_⟩) hHeld ?_
                · skip
                  unfold qD12_11
                  go_simp
                try simp only [Act.put, List.setIfInBounds_toArray, List.set_cons_zero, List.set_cons_succ]
                refine wpAnyH_done (by kernel_rfl) ?_ _
                have BV := Lib.hid (below_chain HB.out hHeld.bel)
                have OV := Lib.hid (own_drew_ct HO.out)
                clear hHeld T0
                by_cases hs : p0 = x ∧ p1 = y
                · have HS2 := Lib.hid (HST.out.trans (by rw [if_pos (Prod.ext hs.1 hs.2)]))
                  clear HST
                  have s0 := below_keep BV.out S0.out
                  have s1 := below_keep BV.out S1.out
                  obtain ⟨b', off', q0, q1, q2, hA', xq, e0, e1, e2⟩ := (C2.out.below BV.out).at l1
                  simp only [Option.some.injEq, Addr.mk.injEq, and_true] at hA'
                  obtain ⟨rfl, rfl⟩ := hA'
                  rw [X1.out] at xq
                  simp only [Prod.mk.injEq] at xq
                  obtain ⟨⟨rfl, rfl⟩, rfl⟩ := xq
                  obtain ⟨rfl, rfl⟩ := hs
                  go_wp2_with fail
                  go_region_held3 (fun w' => w'.cell? ⟨b, off + k * 3, none⟩ = some (.int .i64 p0) ∧ w'.cell? ⟨b, off + k * 3 + 1, none⟩ = some (.int .i64 p1) ∧ w'.cell? ⟨w.heap.size, 0, none⟩ = some (.int .i64 p0) ∧ w'.cell? ⟨w.heap.size, 1, none⟩ = some (.int .i64 p1))
                    (((try go_split_ands); refine ⟨?_, ?_, ?_, ?_⟩ <;> (repeat (first | with_reducible assumption | with_reducible refine drew_keep ?_))))
                    (fail)
                  have BD := Lib.hid BV.out.drew
                  have OD := Lib.hid (own_drewN OV.out 1)
                  clear e0 e1 e2 s0 s1
                  go_wp2
                  go_roundw
                  case rel => exact ⟨k + 1, m, out, true, by omega, by omega, ML.out, by go_num, rfl, HS2.out.symm, OD.out, BD.out⟩
                  case measure => simp [intOf]; omega
                · have HS2 := Lib.hid (HST.out.trans (by rw [if_neg (fun e => hs ⟨congrArg Prod.fst e, congrArg Prod.snd e⟩)]))
                  clear HST
                  by_cases hx : p0 = x
                  · have hy : ¬p1 = y := fun h => hs ⟨hx, h⟩
                    clear hs
                    have s0 := below_keep BV.out S0.out
                    have s1 := below_keep BV.out S1.out
                    obtain ⟨b', off', q0, q1, q2, hA', xq, e0, e1, e2⟩ := (C2.out.below BV.out).at l1
                    simp only [Option.some.injEq, Addr.mk.injEq, and_true] at hA'
                    obtain ⟨rfl, rfl⟩ := hA'
                    rw [X1.out] at xq
                    simp only [Prod.mk.injEq] at xq
                    obtain ⟨⟨rfl, rfl⟩, rfl⟩ := xq
                    subst hx
                    go_wp2_with fail
                    go_region_held3 (fun w' => w'.cell? ⟨b, off + k * 3, none⟩ = some (.int .i64 p0) ∧ w'.cell? ⟨b, off + k * 3 + 1, none⟩ = some (.int .i64 p1) ∧ w'.cell? ⟨w.heap.size, 0, none⟩ = some (.int .i64 p0) ∧ w'.cell? ⟨w.heap.size, 1, none⟩ = some (.int .i64 y))
                      (((try go_split_ands); refine ⟨?_, ?_, ?_, ?_⟩ <;> (repeat (first | with_reducible assumption | with_reducible refine drew_keep ?_))))
                      (fail)
                    have e0' := drew_keep e0
                    have e1' := drew_keep e1
                    have e2' := drew_keep e2
                    have BD := Lib.hid BV.out.drew
                    have OD := Lib.hid (own_drew_ct OV.out)
                    generalize hV : (wr.drew).drew = V at e0' e1' e2' BD OD ⊢
                    clear e0 e1 e2 s0 s1 hV
                    go_wp2_with (at_builtin; refine wpList_append_ct rfl (.tmp 73) (.tmp 78) (by rfl) wb.heap.size _ (m) (out) (by rfl) (OD.out.alloc _) (some ⟨V.heap.size, 0, none⟩) 1 1 [((p0, p1), p2)] (by rfl) (fun h => by cases h) rfl (ct_new V p0 p1 p2) (by omega) (Nat.le_trans BD.out.size (by simp)) ?_; intro v8 w8 own8 gr8)
                    have hb8 := (BD.out.alloc BD.out.size _).grown gr8 (Nat.le_trans BD.out.size (by simp)) (own_ge OD.out)
                    have O8 := Lib.hid own8
                    have B8 := Lib.hid hb8
                    clear own8 gr8 hb8
                    go_wp2
                    go_roundw
                    case rel => exact ⟨k + 1, m + 1, out ++ [((p0, p1), p2)], true, by omega, by omega, by simp [ML.out], by go_num, rfl, HS2.out.symm, O8.out, B8.out⟩
                    case measure => simp [intOf]; omega
                  · clear hs
                    have s0 := below_keep BV.out S0.out
                    have s1 := below_keep BV.out S1.out
                    obtain ⟨b', off', q0, q1, q2, hA', xq, e0, e1, e2⟩ := (C2.out.below BV.out).at l1
                    simp only [Option.some.injEq, Addr.mk.injEq, and_true] at hA'
                    obtain ⟨rfl, rfl⟩ := hA'
                    rw [X1.out] at xq
                    simp only [Prod.mk.injEq] at xq
                    obtain ⟨⟨rfl, rfl⟩, rfl⟩ := xq
                    go_wp2_with fail
                    go_region_held3 (fun w' => w'.cell? ⟨b, off + k * 3, none⟩ = some (.int .i64 p0) ∧ w'.cell? ⟨b, off + k * 3 + 1, none⟩ = some (.int .i64 p1) ∧ w'.cell? ⟨w.heap.size, 0, none⟩ = some (.int .i64 x) ∧ w'.cell? ⟨w.heap.size, 1, none⟩ = some (.int .i64 y))
                      (((try go_split_ands); refine ⟨?_, ?_, ?_, ?_⟩ <;> (repeat (first | with_reducible assumption | with_reducible refine drew_keep ?_))))
                      (fail)
                    have e0' := drew_keep e0
                    have e1' := drew_keep e1
                    have e2' := drew_keep e2
                    have BD := Lib.hid BV.out.drew
                    have OD := Lib.hid (own_drew_ct OV.out)
                    generalize hV : (wr.drew).drew = V at e0' e1' e2' BD OD ⊢
                    clear e0 e1 e2 s0 s1 hV
                    go_wp2_with (at_builtin; refine wpList_append_ct rfl (.tmp 73) (.tmp 78) (by rfl) wb.heap.size _ (m) (out) (by rfl) (OD.out.alloc _) (some ⟨V.heap.size, 0, none⟩) 1 1 [((p0, p1), p2)] (by rfl) (fun h => by cases h) rfl (ct_new V p0 p1 p2) (by omega) (Nat.le_trans BD.out.size (by simp)) ?_; intro v8 w8 own8 gr8)
                    have hb8 := (BD.out.alloc BD.out.size _).grown gr8 (Nat.le_trans BD.out.size (by simp)) (own_ge OD.out)
                    have O8 := Lib.hid own8
                    have B8 := Lib.hid hb8
                    clear own8 gr8 hb8
                    go_wp2
                    go_roundw
                    case rel => exact ⟨k + 1, m + 1, out ++ [((p0, p1), p2)], true, by omega, by omega, by simp [ML.out], by go_num, rfl, HS2.out.symm, O8.out, B8.out⟩
                    case measure => simp [intOf]; omega
              | false =>
                have E := Lib.hid (fun W => specOrder_any x y p0 p1 W)
                by_cases hlt2 : ltS (p0, p1) (x, y)
                · have hs : ¬(p0 = x ∧ p1 = y) := fun h => by rw [h.1, h.2] at hlt2; exact ltS_irrefl _ hlt2
                  have HST := Lib.hid (show adjScan (x, y) v (zs.take (k + 1)) = (out ++ [((p0, p1), p2)], false) from (adjScan_step l1).trans (by rw [← SC.out, X1.out]; exact adjStep_lt hlt2))
                  have q2 : decide (ordSt x y p0 p1 ≤ 0) = false := by
                    have h1 := ordSt_neg x y p0 p1
                    have h2 := (ord_lt (p0, p1) (x, y)).2 hlt2
                    simp at h2 ⊢; omega
                  clear hlt2
                  go_wp2_with fail
                  refine wp_region_held_drew (S := Ent3 wr b (off + k * 3) p0 p1 p2 w.heap.size x y) (by kernel_rfl) ?_ (fun hHeld => ?_)
                  · skip
                    exact T0.out.drew
                  change wpAnyH _ _ opsD12 _ _ 12 (LD12 0) _ _
                  refine tD12_0 (.bool false) (fun _ _ _ h => h) (Or.inl ⟨by rfl, fun W hSw => ?_⟩) hHeld ?_
                  · skip
                    unfold qD12_0
                    go_simp
                  try simp only [Act.put, List.setIfInBounds_toArray, List.set_cons_zero, List.set_cons_succ]
                  refine tD12_1 (.bool true) (fun _ _ _ h => h) (Or.inl ⟨by rfl, fun W hSw => ?_⟩) hHeld ?_
                  · skip
                    unfold qD12_1
                    go_simp
                  try simp only [Act.put, List.setIfInBounds_toArray, List.set_cons_zero, List.set_cons_succ]
                  refine tD12_2 (.bool true) (fun _ _ _ h => h) (Or.inl ⟨by rfl, fun W hSw => ?_⟩) hHeld ?_
                  · skip
                    unfold qD12_2
                    go_simp
                  try simp only [Act.put, List.setIfInBounds_toArray, List.set_cons_zero, List.set_cons_succ]
                  refine tD12_3 (.agg #[.int .i64 x, .int .i64 y]) (fun _ _ _ h => h) (Or.inl ⟨by rfl, fun W hSw => ?_⟩) hHeld ?_
                  · skip
                    unfold qD12_3
                    obtain ⟨c0, c1, c2, d0, d1, bl⟩ := hSw
                    go_simp
                  try simp only [Act.put, List.setIfInBounds_toArray, List.set_cons_zero, List.set_cons_succ]
                  refine tD12_4 (.slice (some ⟨b, off, none⟩) n c) (fun _ _ _ h => h) (Or.inl ⟨by rfl, fun W hSw => ?_⟩) hHeld ?_
                  · skip
                    unfold qD12_4
                    go_simp
                  try simp only [Act.put, List.setIfInBounds_toArray, List.set_cons_zero, List.set_cons_succ]
                  refine tD12_5 (.int .i64 (k : Int)) (fun _ _ _ h => h) (Or.inl ⟨by rfl, fun W hSw => ?_⟩) hHeld ?_
                  · skip
                    unfold qD12_5
                    go_simp
                  try simp only [Act.put, List.setIfInBounds_toArray, List.set_cons_zero, List.set_cons_succ]
                  refine tD12_6 (.pointer (some ⟨b, off + k * 3, none⟩)) (fun _ _ _ h => h) (Or.inl ⟨by rfl, fun W hSw => ?_⟩) hHeld ?_
                  · skip
                    unfold qD12_6
                    go_simp
                  try simp only [Act.put, List.setIfInBounds_toArray, List.set_cons_zero, List.set_cons_succ]
                  refine tD12_7 (.pointer (some ⟨b, off + k * 3, none⟩)) (fun _ _ _ h => h) (Or.inl ⟨by rfl, fun W hSw => ?_⟩) hHeld ?_
                  · skip
                    unfold qD12_7
                    go_simp
                  try simp only [Act.put, List.setIfInBounds_toArray, List.set_cons_zero, List.set_cons_succ]
                  refine tD12_8 (.agg #[.int .i64 p0, .int .i64 p1]) (fun _ _ _ h => h) (Or.inl ⟨by rfl, fun W hSw => ?_⟩) hHeld ?_
                  · skip
                    unfold qD12_8
                    obtain ⟨c0, c1, c2, d0, d1, bl⟩ := hSw
                    go_simp
                  try simp only [Act.put, List.setIfInBounds_toArray, List.set_cons_zero, List.set_cons_succ]
                  refine cD12_9 (fun K hK => ?_)
                  rw [if_pos (by rfl)]
                  unfold qD12_9
                  go_simp
                  with_reducible refine (E.out _).mono ?_
                  rintro e w5 ⟨rfl, hbd⟩
                  dsimp only
                  refine Shut.out hK _ _ ?_ (fun hHeld => ?_)
                  · skip
                    exact hHeld.below hbd
                  clear hK K
                  try simp only [Act.put, List.setIfInBounds_toArray, List.set_cons_zero, List.set_cons_succ]
                  refine tD12_10 (.bool false) (fun _ _ _ h => h) (Or.inl ⟨by rfl, fun W hSw => ?_⟩) hHeld ?_
                  · skip
                    unfold qD12_10
                    go_simp
                  try simp only [Act.put, List.setIfInBounds_toArray, List.set_cons_zero, List.set_cons_succ]
                  refine tD12_11 (.bool false) (fun _ _ _ h => h) (Or.inl ⟨by rfl, fun W hSw => ?_⟩) hHeld ?_
                  · skip
                    unfold qD12_11
                    go_simp
                  try simp only [Act.put, List.setIfInBounds_toArray, List.set_cons_zero, List.set_cons_succ]
                  refine wpAnyH_done (by kernel_rfl) ?_ _
                  have BV := Lib.hid (below_chain HB.out hHeld.bel)
                  have OV := Lib.hid (own_below (own_drew_ct HO.out) hbd)
                  clear hHeld T0 hbd
                  have HS2 := HST
                  by_cases hx : p0 = x
                  · have hy : ¬p1 = y := fun h => hs ⟨hx, h⟩
                    clear hs
                    have s0 := below_keep BV.out S0.out
                    have s1 := below_keep BV.out S1.out
                    obtain ⟨b', off', q0, q1, q2, hA', xq, e0, e1, e2⟩ := (C2.out.below BV.out).at l1
                    simp only [Option.some.injEq, Addr.mk.injEq, and_true] at hA'
                    obtain ⟨rfl, rfl⟩ := hA'
                    rw [X1.out] at xq
                    simp only [Prod.mk.injEq] at xq
                    obtain ⟨⟨rfl, rfl⟩, rfl⟩ := xq
                    subst hx
                    go_wp2_with fail
                    go_region_held3 (fun w' => w'.cell? ⟨b, off + k * 3, none⟩ = some (.int .i64 p0) ∧ w'.cell? ⟨b, off + k * 3 + 1, none⟩ = some (.int .i64 p1) ∧ w'.cell? ⟨w.heap.size, 0, none⟩ = some (.int .i64 p0) ∧ w'.cell? ⟨w.heap.size, 1, none⟩ = some (.int .i64 y))
                      (((try go_split_ands); refine ⟨?_, ?_, ?_, ?_⟩ <;> (repeat (first | with_reducible assumption | with_reducible refine drew_keep ?_))))
                      (fail)
                    have e0' := drew_keep e0
                    have e1' := drew_keep e1
                    have e2' := drew_keep e2
                    have BD := Lib.hid BV.out.drew
                    have OD := Lib.hid (own_drew_ct OV.out)
                    generalize hV : (w5).drew = V at e0' e1' e2' BD OD ⊢
                    clear e0 e1 e2 s0 s1 hV
                    go_wp2_with (at_builtin; refine wpList_append_ct rfl (.tmp 73) (.tmp 78) (by rfl) wb.heap.size _ (m) (out) (by rfl) (OD.out.alloc _) (some ⟨V.heap.size, 0, none⟩) 1 1 [((p0, p1), p2)] (by rfl) (fun h => by cases h) rfl (ct_new V p0 p1 p2) (by omega) (Nat.le_trans BD.out.size (by simp)) ?_; intro v8 w8 own8 gr8)
                    have hb8 := (BD.out.alloc BD.out.size _).grown gr8 (Nat.le_trans BD.out.size (by simp)) (own_ge OD.out)
                    have O8 := Lib.hid own8
                    have B8 := Lib.hid hb8
                    clear own8 gr8 hb8
                    go_wp2
                    go_roundw
                    case rel => exact ⟨k + 1, m + 1, out ++ [((p0, p1), p2)], false, by omega, by omega, by simp [ML.out], by go_num, rfl, HS2.out.symm, O8.out, B8.out⟩
                    case measure => simp [intOf]; omega
                  · clear hs
                    have s0 := below_keep BV.out S0.out
                    have s1 := below_keep BV.out S1.out
                    obtain ⟨b', off', q0, q1, q2, hA', xq, e0, e1, e2⟩ := (C2.out.below BV.out).at l1
                    simp only [Option.some.injEq, Addr.mk.injEq, and_true] at hA'
                    obtain ⟨rfl, rfl⟩ := hA'
                    rw [X1.out] at xq
                    simp only [Prod.mk.injEq] at xq
                    obtain ⟨⟨rfl, rfl⟩, rfl⟩ := xq
                    go_wp2_with fail
                    go_region_held3 (fun w' => w'.cell? ⟨b, off + k * 3, none⟩ = some (.int .i64 p0) ∧ w'.cell? ⟨b, off + k * 3 + 1, none⟩ = some (.int .i64 p1) ∧ w'.cell? ⟨w.heap.size, 0, none⟩ = some (.int .i64 x) ∧ w'.cell? ⟨w.heap.size, 1, none⟩ = some (.int .i64 y))
                      (((try go_split_ands); refine ⟨?_, ?_, ?_, ?_⟩ <;> (repeat (first | with_reducible assumption | with_reducible refine drew_keep ?_))))
                      (fail)
                    have e0' := drew_keep e0
                    have e1' := drew_keep e1
                    have e2' := drew_keep e2
                    have BD := Lib.hid BV.out.drew
                    have OD := Lib.hid (own_drew_ct OV.out)
                    generalize hV : (w5).drew = V at e0' e1' e2' BD OD ⊢
                    clear e0 e1 e2 s0 s1 hV
                    go_wp2_with (at_builtin; refine wpList_append_ct rfl (.tmp 73) (.tmp 78) (by rfl) wb.heap.size _ (m) (out) (by rfl) (OD.out.alloc _) (some ⟨V.heap.size, 0, none⟩) 1 1 [((p0, p1), p2)] (by rfl) (fun h => by cases h) rfl (ct_new V p0 p1 p2) (by omega) (Nat.le_trans BD.out.size (by simp)) ?_; intro v8 w8 own8 gr8)
                    have hb8 := (BD.out.alloc BD.out.size _).grown gr8 (Nat.le_trans BD.out.size (by simp)) (own_ge OD.out)
                    have O8 := Lib.hid own8
                    have B8 := Lib.hid hb8
                    clear own8 gr8 hb8
                    go_wp2
                    go_roundw
                    case rel => exact ⟨k + 1, m + 1, out ++ [((p0, p1), p2)], false, by omega, by omega, by simp [ML.out], by go_num, rfl, HS2.out.symm, O8.out, B8.out⟩
                    case measure => simp [intOf]; omega
                · have HST := Lib.hid (show adjScan (x, y) v (zs.take (k + 1)) = (if (p0, p1) = (x, y) then (out ++ [((x, y), v)], true) else (out ++ [((x, y), v)] ++ [((p0, p1), p2)], true)) from (adjScan_step l1).trans (by rw [← SC.out, X1.out]; exact adjStep_ge hlt2))
                  have q2 : decide (ordSt x y p0 p1 ≤ 0) = true := by
                    have h1 := ordSt_neg x y p0 p1
                    have h2 := fun h => hlt2 ((ord_lt (p0, p1) (x, y)).1 h)
                    simp at h2 ⊢; omega
                  clear hlt2
                  go_wp2_with fail
                  refine wp_region_held_drew (S := Ent3 wr b (off + k * 3) p0 p1 p2 w.heap.size x y) (by kernel_rfl) ?_ (fun hHeld => ?_)
                  · skip
                    exact T0.out.drew
                  change wpAnyH _ _ opsD12 _ _ 12 (LD12 0) _ _
                  refine tD12_0 (.bool false) (fun _ _ _ h => h) (Or.inl ⟨by rfl, fun W hSw => ?_⟩) hHeld ?_
                  · skip
                    unfold qD12_0
                    go_simp
                  try simp only [Act.put, List.setIfInBounds_toArray, List.set_cons_zero, List.set_cons_succ]
                  refine tD12_1 (.bool true) (fun _ _ _ h => h) (Or.inl ⟨by rfl, fun W hSw => ?_⟩) hHeld ?_
                  · skip
                    unfold qD12_1
                    go_simp
                  try simp only [Act.put, List.setIfInBounds_toArray, List.set_cons_zero, List.set_cons_succ]
                  refine tD12_2 (.bool true) (fun _ _ _ h => h) (Or.inl ⟨by rfl, fun W hSw => ?_⟩) hHeld ?_
                  · skip
                    unfold qD12_2
                    go_simp
                  try simp only [Act.put, List.setIfInBounds_toArray, List.set_cons_zero, List.set_cons_succ]
                  refine tD12_3 (.agg #[.int .i64 x, .int .i64 y]) (fun _ _ _ h => h) (Or.inl ⟨by rfl, fun W hSw => ?_⟩) hHeld ?_
                  · skip
                    unfold qD12_3
                    obtain ⟨c0, c1, c2, d0, d1, bl⟩ := hSw
                    go_simp
                  try simp only [Act.put, List.setIfInBounds_toArray, List.set_cons_zero, List.set_cons_succ]
                  refine tD12_4 (.slice (some ⟨b, off, none⟩) n c) (fun _ _ _ h => h) (Or.inl ⟨by rfl, fun W hSw => ?_⟩) hHeld ?_
                  · skip
                    unfold qD12_4
                    go_simp
                  try simp only [Act.put, List.setIfInBounds_toArray, List.set_cons_zero, List.set_cons_succ]
                  refine tD12_5 (.int .i64 (k : Int)) (fun _ _ _ h => h) (Or.inl ⟨by rfl, fun W hSw => ?_⟩) hHeld ?_
                  · skip
                    unfold qD12_5
                    go_simp
                  try simp only [Act.put, List.setIfInBounds_toArray, List.set_cons_zero, List.set_cons_succ]
                  refine tD12_6 (.pointer (some ⟨b, off + k * 3, none⟩)) (fun _ _ _ h => h) (Or.inl ⟨by rfl, fun W hSw => ?_⟩) hHeld ?_
                  · skip
                    unfold qD12_6
                    go_simp
                  try simp only [Act.put, List.setIfInBounds_toArray, List.set_cons_zero, List.set_cons_succ]
                  refine tD12_7 (.pointer (some ⟨b, off + k * 3, none⟩)) (fun _ _ _ h => h) (Or.inl ⟨by rfl, fun W hSw => ?_⟩) hHeld ?_
                  · skip
                    unfold qD12_7
                    go_simp
                  try simp only [Act.put, List.setIfInBounds_toArray, List.set_cons_zero, List.set_cons_succ]
                  refine tD12_8 (.agg #[.int .i64 p0, .int .i64 p1]) (fun _ _ _ h => h) (Or.inl ⟨by rfl, fun W hSw => ?_⟩) hHeld ?_
                  · skip
                    unfold qD12_8
                    obtain ⟨c0, c1, c2, d0, d1, bl⟩ := hSw
                    go_simp
                  try simp only [Act.put, List.setIfInBounds_toArray, List.set_cons_zero, List.set_cons_succ]
                  refine cD12_9 (fun K hK => ?_)
                  rw [if_pos (by rfl)]
                  unfold qD12_9
                  go_simp
                  with_reducible refine (E.out _).mono ?_
                  rintro e w5 ⟨rfl, hbd⟩
                  dsimp only
                  refine Shut.out hK _ _ ?_ (fun hHeld => ?_)
                  · skip
                    exact hHeld.below hbd
                  clear hK K
                  try simp only [Act.put, List.setIfInBounds_toArray, List.set_cons_zero, List.set_cons_succ]
                  refine tD12_10 (.bool true) (fun _ _ _ h => h) (Or.inl ⟨by rfl, fun W hSw => ?_⟩) hHeld ?_
                  · skip
                    unfold qD12_10
                    go_simp
                  try simp only [Act.put, List.setIfInBounds_toArray, List.set_cons_zero, List.set_cons_succ]
                  refine tD12_11 (.bool true) (fun _ _ _ h => h) (Or.inl ⟨by rfl, fun W hSw => ?_⟩) hHeld ?_
                  · skip
                    unfold qD12_11
                    go_simp
                  try simp only [Act.put, List.setIfInBounds_toArray, List.set_cons_zero, List.set_cons_succ]
                  refine wpAnyH_done (by kernel_rfl) ?_ _
                  have BV := Lib.hid (below_chain HB.out hHeld.bel)
                  have OV := Lib.hid (own_below (own_drew_ct HO.out) hbd)
                  have s0 := hHeld.d0
                  have s1 := hHeld.d1
                  clear hHeld T0 hbd
                  go_wp2_with (at_builtin; refine wpList_append_ct rfl (.tmp 60) (.tmp 64) (by rfl) wb.heap.size _ m out (by rfl) (OV.out.alloc _) (some ⟨w5.heap.size, 0, none⟩) 1 1 [((x, y), v)] (by rfl) (fun h => by cases h) rfl (ct_new w5 x y v) (by omega) (Nat.le_trans BV.out.size (by simp)) ?_; intro v6 w6 own6 gr6)
                  have hb6 := (BV.out.alloc BV.out.size _).grown gr6 (Nat.le_trans BV.out.size (by simp)) (own_ge OV.out)
                  have O6 := Lib.hid own6
                  have B6 := Lib.hid hb6
                  clear own6 gr6 hb6 s0 s1
                  by_cases hs : p0 = x ∧ p1 = y
                  · have HS2 := Lib.hid (HST.out.trans (by rw [if_pos (Prod.ext hs.1 hs.2)]))
                    clear HST
                    have s0 := below_keep B6.out S0.out
                    have s1 := below_keep B6.out S1.out
                    obtain ⟨b', off', q0, q1, q2, hA', xq, e0, e1, e2⟩ := (C2.out.below B6.out).at l1
                    simp only [Option.some.injEq, Addr.mk.injEq, and_true] at hA'
                    obtain ⟨rfl, rfl⟩ := hA'
                    rw [X1.out] at xq
                    simp only [Prod.mk.injEq] at xq
                    obtain ⟨⟨rfl, rfl⟩, rfl⟩ := xq
                    obtain ⟨rfl, rfl⟩ := hs
                    go_wp2_with fail
                    go_region_held3 (fun w' => w'.cell? ⟨b, off + k * 3, none⟩ = some (.int .i64 p0) ∧ w'.cell? ⟨b, off + k * 3 + 1, none⟩ = some (.int .i64 p1) ∧ w'.cell? ⟨w.heap.size, 0, none⟩ = some (.int .i64 p0) ∧ w'.cell? ⟨w.heap.size, 1, none⟩ = some (.int .i64 p1))
                      (((try go_split_ands); refine ⟨?_, ?_, ?_, ?_⟩ <;> (repeat (first | with_reducible assumption | with_reducible refine drew_keep ?_))))
                      (fail)
                    have BD := Lib.hid B6.out.drew
                    have OD := Lib.hid (own_drewN O6.out 1)
                    clear e0 e1 e2 s0 s1
                    go_wp2
                    go_roundw
                    case rel => exact ⟨k + 1, m + 1, out ++ [((p0, p1), v)], true, by omega, by omega, by simp [ML.out], by go_num, rfl, HS2.out.symm, OD.out, BD.out⟩
                    case measure => simp [intOf]; omega
                  · have HS2 := Lib.hid (HST.out.trans (by rw [if_neg (fun e => hs ⟨congrArg Prod.fst e, congrArg Prod.snd e⟩)]))
                    clear HST
                    by_cases hx : p0 = x
                    · have hy : ¬p1 = y := fun h => hs ⟨hx, h⟩
                      clear hs
                      have s0 := below_keep B6.out S0.out
                      have s1 := below_keep B6.out S1.out
                      obtain ⟨b', off', q0, q1, q2, hA', xq, e0, e1, e2⟩ := (C2.out.below B6.out).at l1
                      simp only [Option.some.injEq, Addr.mk.injEq, and_true] at hA'
                      obtain ⟨rfl, rfl⟩ := hA'
                      rw [X1.out] at xq
                      simp only [Prod.mk.injEq] at xq
                      obtain ⟨⟨rfl, rfl⟩, rfl⟩ := xq
                      subst hx
                      go_wp2_with fail
                      go_region_held3 (fun w' => w'.cell? ⟨b, off + k * 3, none⟩ = some (.int .i64 p0) ∧ w'.cell? ⟨b, off + k * 3 + 1, none⟩ = some (.int .i64 p1) ∧ w'.cell? ⟨w.heap.size, 0, none⟩ = some (.int .i64 p0) ∧ w'.cell? ⟨w.heap.size, 1, none⟩ = some (.int .i64 y))
                        (((try go_split_ands); refine ⟨?_, ?_, ?_, ?_⟩ <;> (repeat (first | with_reducible assumption | with_reducible refine drew_keep ?_))))
                        (fail)
                      have e0' := drew_keep e0
                      have e1' := drew_keep e1
                      have e2' := drew_keep e2
                      have BD := Lib.hid B6.out.drew
                      have OD := Lib.hid (own_drew_ct O6.out)
                      generalize hV : (w6).drew = V at e0' e1' e2' BD OD ⊢
                      clear e0 e1 e2 s0 s1 hV
                      go_wp2_with (at_builtin; refine wpList_append_ct rfl (.tmp 73) (.tmp 78) (by rfl) wb.heap.size _ (m + 1) (out ++ [((p0, y), v)]) (by rfl) (OD.out.alloc _) (some ⟨V.heap.size, 0, none⟩) 1 1 [((p0, p1), p2)] (by rfl) (fun h => by cases h) rfl (ct_new V p0 p1 p2) (by omega) (Nat.le_trans BD.out.size (by simp)) ?_; intro v8 w8 own8 gr8)
                      have hb8 := (BD.out.alloc BD.out.size _).grown gr8 (Nat.le_trans BD.out.size (by simp)) (own_ge OD.out)
                      have O8 := Lib.hid own8
                      have B8 := Lib.hid hb8
                      clear own8 gr8 hb8
                      go_wp2
                      go_roundw
                      case rel => exact ⟨k + 1, m + 1 + 1, out ++ [((p0, y), v)] ++ [((p0, p1), p2)], true, by omega, by omega, by simp [ML.out], by go_num, rfl, HS2.out.symm, O8.out, B8.out⟩
                      case measure => simp [intOf]; omega
                    · clear hs
                      have s0 := below_keep B6.out S0.out
                      have s1 := below_keep B6.out S1.out
                      obtain ⟨b', off', q0, q1, q2, hA', xq, e0, e1, e2⟩ := (C2.out.below B6.out).at l1
                      simp only [Option.some.injEq, Addr.mk.injEq, and_true] at hA'
                      obtain ⟨rfl, rfl⟩ := hA'
                      rw [X1.out] at xq
                      simp only [Prod.mk.injEq] at xq
                      obtain ⟨⟨rfl, rfl⟩, rfl⟩ := xq
                      go_wp2_with fail
                      go_region_held3 (fun w' => w'.cell? ⟨b, off + k * 3, none⟩ = some (.int .i64 p0) ∧ w'.cell? ⟨b, off + k * 3 + 1, none⟩ = some (.int .i64 p1) ∧ w'.cell? ⟨w.heap.size, 0, none⟩ = some (.int .i64 x) ∧ w'.cell? ⟨w.heap.size, 1, none⟩ = some (.int .i64 y))
                        (((try go_split_ands); refine ⟨?_, ?_, ?_, ?_⟩ <;> (repeat (first | with_reducible assumption | with_reducible refine drew_keep ?_))))
                        (fail)
                      have e0' := drew_keep e0
                      have e1' := drew_keep e1
                      have e2' := drew_keep e2
                      have BD := Lib.hid B6.out.drew
                      have OD := Lib.hid (own_drew_ct O6.out)
                      generalize hV : (w6).drew = V at e0' e1' e2' BD OD ⊢
                      clear e0 e1 e2 s0 s1 hV
                      go_wp2_with (at_builtin; refine wpList_append_ct rfl (.tmp 73) (.tmp 78) (by rfl) wb.heap.size _ (m + 1) (out ++ [((x, y), v)]) (by rfl) (OD.out.alloc _) (some ⟨V.heap.size, 0, none⟩) 1 1 [((p0, p1), p2)] (by rfl) (fun h => by cases h) rfl (ct_new V p0 p1 p2) (by omega) (Nat.le_trans BD.out.size (by simp)) ?_; intro v8 w8 own8 gr8)
                      have hb8 := (BD.out.alloc BD.out.size _).grown gr8 (Nat.le_trans BD.out.size (by simp)) (own_ge OD.out)
                      have O8 := Lib.hid own8
                      have B8 := Lib.hid hb8
                      clear own8 gr8 hb8
                      go_wp2
                      go_roundw
                      case rel => exact ⟨k + 1, m + 1 + 1, out ++ [((x, y), v)] ++ [((p0, p1), p2)], true, by omega, by omega, by simp [ML.out], by go_num, rfl, HS2.out.symm, O8.out, B8.out⟩
                      case measure => simp [intOf]; omega
            · have hfin : (out, dd) = adjScan (x, y) v zs := by
                have h3 := SC.out
                rw [List.take_of_length_le (by rw [HZ.out]; omega)] at h3
                exact h3
              have hend : adjEnd (x, y) v (out, dd) = adjL zs (x, y) nn := by
                rw [hfin, adjScan_put TB.out.asc, adjL_ok YES.out, HV.out, HCV.out]
              have HE := Lib.hid hend
              clear hfin hend
              cases dd with
              | true =>
                have hE : out = adjL zs (x, y) nn := HE.out
                have OF := Lib.hid (show wr.ownsRow w.heap.size 64 3 _ (adjL zs (x, y) nn).length (ctCells (adjL zs (x, y) nn)) by rw [← hE, ML.out]; exact own_base HO.out B7.out.size)
                clear hE
                go_wp2
                exact bodyPost_ret (v := .tuple #[_, .bool true]) (by simp [results, Tryz.results47, go_sem]; rfl) rfl ⟨_, by rw [YES.out], OF.out, below_chain B7.out HB.out⟩
              | false =>
                have s0 := below_keep HB.out S0.out
                have s1 := below_keep HB.out S1.out
                go_wp2_with (at_builtin; refine wpList_append_ct rfl (.tmp 82) (.tmp 86) (by rfl) wb.heap.size _ m out (by rfl) (HO.out.alloc _) (some ⟨wr.heap.size, 0, none⟩) 1 1 [((x, y), v)] (by rfl) (fun h => by cases h) rfl (ct_new wr x y v) (by omega) (Nat.le_trans HB.out.size (by simp)) ?_; intro v6 w6 own6 gr6)
                have hb6 := (HB.out.alloc HB.out.size _).grown gr6 (Nat.le_trans HB.out.size (by simp)) (own_ge HO.out)
                have hE : out ++ [((x, y), v)] = adjL zs (x, y) nn := HE.out
                have OF := Lib.hid (show w6.ownsRow w.heap.size 64 3 v6 (adjL zs (x, y) nn).length (ctCells (adjL zs (x, y) nn)) by rw [← hE, List.length_append, ML.out]; exact own_base own6 B7.out.size)
                have B6 := Lib.hid (below_chain B7.out hb6)
                clear own6 gr6 hb6 hE
                go_wp2
                exact bodyPost_ret (v := .tuple #[v6, .bool true]) (by simp [results, Tryz.results47, go_sem]) rfl ⟨_, by rw [YES.out], OF.out, B6.out⟩
end Go.Proofs.YtdmbkjebagnloaaGreatDoor.hexes

