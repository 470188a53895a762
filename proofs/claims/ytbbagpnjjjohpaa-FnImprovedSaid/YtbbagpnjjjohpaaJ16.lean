/-
  The reference's PutCell: the contract of spec.PutCell.
-/
import Derived.Test.YtbbagpnjjjohpaaJ10
import Derived.Test.YtbbagpnjjjohpaaJ14
import Derived.Test.YtbbagpnjjjohpaaJ15

namespace Go.Proofs.Ytbbagpnjjjohpaa.hexes
open Go.RowKit

theorem specHas_is {n : Nat} {zs : List Ce} (hz : zs.length = n) {A : Option Addr} {c : Nat} {x0 x1 x2 x3 : Int} {b : Bool} (h : hasC zs (x0, x1, x2, x3) = b) (hn : n ≤ 4194304) (W : World) (h1 : Ces W A zs) :
    Calls Try.prog 86 #[.slice A n c, .agg #[.int .i64 x0, .int .i64 x1, .int .i64 x2, .int .i64 x3]] W fun e w' => e = .returned (.bool b) ∧ Below W.heap.size W w' := by
  subst h; exact specHas_any n zs hz A c _ _ _ _ W h1 hn

set_option maxRecDepth 1000000 in
set_option maxHeartbeats 8000000 in
theorem specPut_any (n : Nat) (zs : List Ce) (hz : zs.length = n) (A : Option Addr) (c : Nat) (hA : A = none → c = 0) (hc : n ≤ c) (x0 x1 x2 x3 : Int) (w : World) (h1 : Ces w A zs) (hn : n ≤ 2097152) :
    Calls Try.prog 81 #[.slice A n c, .agg #[.int .i64 x0, .int .i64 x1, .int .i64 x2, .int .i64 x3]] w fun e w' => ∃ v, e = .returned v ∧ w'.ownsRow w.heap.size 38 4 v (putC zs (x0, x1, x2, x3)).length (ceCells (putC zs (x0, x1, x2, x3))) ∧ Below w.heap.size w w' := by
  have H1 := Lib.hid h1
  have HZ := Lib.hid hz
  have HA := Lib.hid hA
  have HC := Lib.hid hc
  clear h1 hz hA hc
  obtain ⟨V, hV⟩ : ∃ z, w.alloc (.cells #[.int .i64 x0, .int .i64 x1, .int .i64 x2, .int .i64 x3] 38) = z := ⟨_, rfl⟩
  have BV := Lib.hid (show Below w.heap.size w V by rw [← hV]; exact (Below.refl _ _).alloc (Nat.le_refl _) _)
  have XV := Lib.hid (show XB w.heap.size x0 x1 x2 x3 V by rw [← hV]; exact XB.new _ _ _ _ _)
  have BXV := Lib.hid (show w.heap.size + 1 ≤ V.heap.size by rw [← hV]; simp)
  have c0 := XV.out.c0
  have c1 := XV.out.c1
  have c2 := XV.out.c2
  have c3 := XV.out.c3
  cases hh : hasC zs (x0, x1, x2, x3) with
  | true =>
    have E := Lib.hid (specHas_is HZ.out (A := A) (c := c) hh (by omega) V (H1.out.below BV.out))
    have PI := Lib.hid (put_in hh)
    clear hh
    go_enter Try.func81, Try.ntmps81
    go_wp2_with fail
    clear hV c0 c1 c2 c3
    refine E.out.mono ?_
    rintro e w1 ⟨rfl, b1⟩
    have B1 := Lib.hid (below_chain BV.out b1)
    have LIT := Lib.hid (World.ownsRow_lit (base := w.heap.size) (e := 38) (size := 4) w1 #[] 0 B1.out.size (by decide) (by rfl))
    have BA := Lib.hid (B1.out.alloc B1.out.size (.cells #[] 38))
    clear b1
    go_wp2_with (at_builtin; refine wpList_append_ce rfl (.tmp 10) (.tmp 11) (by rfl) w.heap.size (.slice (some ⟨w1.heap.size, 0, none⟩) 0 0) 0 [] (by rfl) LIT.out A n c zs (by rfl) HA.out HZ.out (H1.out.below BA.out) (by omega) BA.out.size ?_; intro v2 w2 own gr)
    have hbg := BA.out.grown gr BA.out.size (own_ge LIT.out)
    rw [Nat.zero_add, List.nil_append] at own
    have OF := Lib.hid (show w2.ownsRow w.heap.size 38 4 v2 (putC zs (x0, x1, x2, x3)).length (ceCells (putC zs (x0, x1, x2, x3))) by rw [PI.out, HZ.out]; exact own)
    have BF := Lib.hid hbg
    clear own gr hbg
    go_wp2
    go_ret
    exact ⟨_, rfl, OF.out, BF.out⟩
  | false =>
    have E := Lib.hid (specHas_is HZ.out (A := A) (c := c) hh (by omega) V (H1.out.below BV.out))
    have HN := Lib.hid hh
    clear hh
    go_enter Try.func81, Try.ntmps81
    go_wp2_with fail
    clear hV c0 c1 c2 c3
    refine E.out.mono ?_
    rintro e w1 ⟨rfl, b1⟩
    have B1 := Lib.hid (below_chain BV.out b1)
    have X1 := Lib.hid (XV.out.below b1)
    have BX1 := Lib.hid (Nat.le_trans BXV.out b1.size)
    clear b1 E BV XV BXV V
    go_wp2
    go_loopw [5] (fun i wr => ∃ k : Nat, k ≤ n ∧ i = .int .i64 k ∧ (∀ z ∈ zs.take k, ltE z (x0, x1, x2, x3)) ∧ Below w.heap.size w wr ∧ XB w.heap.size x0 x1 x2 x3 wr ∧ w.heap.size + 1 ≤ wr.heap.size) (fun i _ => n - (intOf i).toNat)
    case atStart => exact ⟨0, Nat.zero_le _, rfl, (fun z hz => by simp at hz), B1.out, X1.out, BX1.out⟩
    case round =>
      obtain ⟨k, hk, rfl, hlt, hb, hx, hbx⟩ := hrel
      have HLT := Lib.hid hlt
      have HB := Lib.hid hb
      have HX := Lib.hid hx
      have HBX := Lib.hid hbx
      clear hlt hb hbx
      obtain ⟨s0, s1, s2, s3⟩ := hx
      by_cases hlt : k < n
      · have l1 : k < zs.length := by rw [HZ.out]; exact hlt
        obtain ⟨b1, o1, p0, p1, p2, p3, rfl, xz, e0, e1, e2, e3⟩ := (H1.out.below HB.out).at l1
        have i0 : (0 : Int) ≤ (k : Int) := by omega
        have i1 : (k : Int) < (n : Int) := by omega
        obtain ⟨v, hv⟩ : ∃ v, ordCe (p0, p1, p2, p3) (x0, x1, x2, x3) = v := ⟨_, rfl⟩
        have E := Lib.hid (fun W => specCeOrd_is hv W)
        by_cases hneg : v < 0
        · have d0 : decide (v < 0) = true := decide_eq_true hneg
          have HS := Lib.hid (show ∀ z ∈ zs.take (k + 1), ltE z (x0, x1, x2, x3) from fun z hz => by
            rw [List.take_succ_eq_append_getElem l1] at hz
            rcases List.mem_append.1 hz with h | h
            · exact HLT.out z h
            · obtain rfl : z = zs[k] := by simpa using h
              rw [xz]
              exact (ordCe_neg _ _).1 (by rw [hv]; exact hneg))
          clear xz hv hneg l1 HLT
          go_wp2_with fail
          go_region_held3 (fun w' => w'.cell? ⟨b1, o1 + k * 4, none⟩ = some (.int .i64 p0) ∧ w'.cell? ⟨b1, o1 + k * 4 + 1, none⟩ = some (.int .i64 p1) ∧ w'.cell? ⟨b1, o1 + k * 4 + 2, none⟩ = some (.int .i64 p2) ∧ w'.cell? ⟨b1, o1 + k * 4 + 3, none⟩ = some (.int .i64 p3) ∧ w'.cell? ⟨w.heap.size, 0, none⟩ = some (.int .i64 x0) ∧ w'.cell? ⟨w.heap.size, 1, none⟩ = some (.int .i64 x1) ∧ w'.cell? ⟨w.heap.size, 2, none⟩ = some (.int .i64 x2) ∧ w'.cell? ⟨w.heap.size, 3, none⟩ = some (.int .i64 x3))
            (((try go_split_ands); refine ⟨?_, ?_, ?_, ?_, ?_, ?_, ?_, ?_⟩ <;> (repeat (first | with_reducible assumption | with_reducible refine drew_keep ?_ | with_reducible refine below_keep hbd ?_))))
            (first | (go_at_call 108; with_reducible refine (E.out _).mono ?_; rintro e w5 ⟨rfl, hbd⟩))
          have B5 := below_chain HB.out.drew hbd
          have X5 := HX.out.drew.below hbd
          have BX5 := Nat.le_trans HBX.out hbd.size
          clear hbd
          go_wp2
          go_roundw
          case rel => exact ⟨k + 1, by omega, by go_num, HS.out, B5, X5, BX5⟩
          case measure => simp [intOf]; omega
        · have d0 : decide (v < 0) = false := decide_eq_false hneg
          have hge : ∀ h : k < zs.length, ¬ltE zs[k] (x0, x1, x2, x3) := fun h hc => hneg (by rw [← hv]; exact (ordCe_neg _ _).2 (by rw [xz] at hc; exact hc))
          clear xz hv hneg l1
          go_wp2_with fail
          go_region_held3 (fun w' => w'.cell? ⟨b1, o1 + k * 4, none⟩ = some (.int .i64 p0) ∧ w'.cell? ⟨b1, o1 + k * 4 + 1, none⟩ = some (.int .i64 p1) ∧ w'.cell? ⟨b1, o1 + k * 4 + 2, none⟩ = some (.int .i64 p2) ∧ w'.cell? ⟨b1, o1 + k * 4 + 3, none⟩ = some (.int .i64 p3) ∧ w'.cell? ⟨w.heap.size, 0, none⟩ = some (.int .i64 x0) ∧ w'.cell? ⟨w.heap.size, 1, none⟩ = some (.int .i64 x1) ∧ w'.cell? ⟨w.heap.size, 2, none⟩ = some (.int .i64 x2) ∧ w'.cell? ⟨w.heap.size, 3, none⟩ = some (.int .i64 x3))
            (((try go_split_ands); refine ⟨?_, ?_, ?_, ?_, ?_, ?_, ?_, ?_⟩ <;> (repeat (first | with_reducible assumption | with_reducible refine drew_keep ?_ | with_reducible refine below_keep hbd ?_))))
            (first | (go_at_call 108; with_reducible refine (E.out _).mono ?_; rintro e w5 ⟨rfl, hbd⟩))
          have B5 := Lib.hid (below_chain HB.out.drew hbd)
          have X5 := Lib.hid (HX.out.drew.below hbd)
          have BX5 := Lib.hid (Nat.le_trans HBX.out hbd.size)
          clear hbd E HB HX HBX e0 e1 e2 e3 s0 s1 s2 s3 i0 i1 d0 hlt
          have PE := Lib.hid (put_at HN.out (show k ≤ zs.length by rw [HZ.out]; omega) HLT.out hge)
          obtain ⟨L, qL, hL, hT⟩ := slice_to (some ⟨b1, o1, none⟩) n c k (Nat.le_trans hk HC.out) HA.out
          obtain ⟨T, qT, hTn, hD⟩ := slice_from (some ⟨b1, o1, none⟩) n c k (by omega) HC.out HA.out
          have HL := Lib.hid hL
          have HT := Lib.hid hT
          have HDN := Lib.hid hTn
          have HD := Lib.hid hD
          clear hL hT hTn hD hge HLT
          go_wp2_with fail
          obtain ⟨W, hW⟩ : ∃ z, (w5).drew = z := ⟨_, rfl⟩
          have BW := Lib.hid (show Below w.heap.size w W by rw [← hW]; exact B5.out.drew)
          have XW := Lib.hid (show XB w.heap.size x0 x1 x2 x3 W by rw [← hW]; exact X5.out.drew)
          have BXW := Lib.hid (show w.heap.size + 1 ≤ W.heap.size by rw [← hW]; exact BX5.out)
          refine wp_region_held_drew (S := XB w.heap.size x0 x1 x2 x3) (by kernel_rfl) ?_ (fun hHeld => ?_)
          · rw [hW]; exact XW.out
          change wpAnyH _ _ opsP6 _ _ 9 (#[false, false, false, false, false, false, false, false, false] : Array Bool) _ _
          rw [hW] at hHeld ⊢
          clear hW
          refine regY tP6_e_1 (.slice (some ⟨b1, o1, none⟩) n c) (fun W hSw => by unfold qP6_1; go_simp) hHeld ?_
          try simp only [pt, List.set]
          refine regY tP6_1_2 (.int .i64 (k : Int)) (fun W hSw => by unfold qP6_2; go_simp) hHeld ?_
          try simp only [pt, List.set]
          refine regY tP6_12_3 (.slice L k c) (fun W hSw => by unfold qP6_3; go_simp) hHeld ?_
          try simp only [pt, List.set]
          refine regY tP6_123_5 (.agg #[.int .i64 x0, .int .i64 x1, .int .i64 x2, .int .i64 x3]) (fun W hSw => by unfold qP6_5; obtain ⟨c0, c1, c2, c3⟩ := hSw; go_simp) hHeld ?_
          try simp only [pt, List.set]
          refine cP6_1235_06 (fun K hK => ?_) (fun K hK => ?_)
          · rw [if_pos (by rfl)]
            unfold qP6_0
            go_simp
            generalize hV : World.alloc _ _ = v1
            have hbv : Below W.heap.size W v1 := by rw [← hV]; exact (Below.refl _ _).alloc (Nat.le_refl _) _
            have Bv1 := Lib.hid (below_chain BW.out hbv)
            have Xv1 := Lib.hid (XW.out.below hbv)
            have Ov1 := Lib.hid (show v1.ownsRow (w.heap.size + 1) 38 4 (.slice (some ⟨W.heap.size, 0, none⟩) 0 0) 0 (ceCells []) by rw [← hV]; exact World.ownsRow_lit W #[] 0 BXW.out (by decide) rfl)
            have BXv1 := Lib.hid (Nat.le_trans BXW.out hbv.size)
            have SZv1 := Lib.hid (show W.heap.size < v1.heap.size by rw [← hV]; simp)
            clear hbv hV
            refine Shut.out hK _ _ ?_ (fun hHeld => ?_)
            · exact Xv1.out
            clear hK K
            try simp only [pt, List.set]
            refine cP6_01235_46 (fun K hK => ?_) (fun K hK => ?_)
            · refine step_append_ce rfl (.tmp 28) (.tmp 31) (by rfl) (w.heap.size + 1) (.slice (some ⟨W.heap.size, 0, none⟩) 0 0) 0 [] (by rfl) Ov1.out L k c (zs.take k) (by rfl) HL.out (by rw [List.length_take, HZ.out]; omega) (HT.out _ _ (H1.out.below Bv1.out)) (by omega) BXv1.out ?_
              intro va v2 own gr
              have hbg := Bv1.out.grown gr Bv1.out.size (fun j hj => Nat.le_trans (Nat.le_succ _) (own_ge Ov1.out j hj))
              rw [Nat.zero_add, List.nil_append] at own
              have Bv2 := Lib.hid hbg
              have Xv2 := Lib.hid (Xv1.out.grown gr (fun hj => by have := own_ge Ov1.out _ hj; omega))
              have BXv2 := Lib.hid (Nat.le_trans BXv1.out gr.size)
              have Ov2 := Lib.hid own
              clear own gr hbg
              refine Shut.out hK _ _ ?_ (fun hHeld => ?_)
              · exact Xv2.out
              clear hK K
              simp only [qP6_4, Act.put, List.setIfInBounds_toArray, List.set_cons_zero, List.set_cons_succ]
              refine cP6_012345_6 (fun K hK => ?_)
              rw [if_pos (by rfl)]
              unfold qP6_6
              go_simp
              generalize hV : World.alloc _ _ = v3
              have hbv : Below v2.heap.size v2 v3 := by rw [← hV]; exact (Below.refl _ _).alloc (Nat.le_refl _) _
              have Bv3 := Lib.hid (below_chain Bv2.out hbv)
              have Xv3 := Lib.hid (Xv2.out.below hbv)
              have Ov3 := Lib.hid (own_below Ov2.out hbv)
              have Nv3 := Lib.hid (show Ces v3 (some ⟨v2.heap.size, 0, none⟩) [(x0, x1, x2, x3)] by rw [← hV]; exact ce_new v2 x0 x1 x2 x3)
              have BXv3 := Lib.hid (Nat.le_trans BXv2.out hbv.size)
              have SZv3 := Lib.hid (show v2.heap.size < v3.heap.size by rw [← hV]; simp)
              clear hbv hV
              refine Shut.out hK _ _ ?_ (fun hHeld => ?_)
              · exact Xv3.out
              clear hK K
              try simp only [pt, List.set]
              refine cP6_0123456_7 (fun K hK => ?_)
              refine step_append_ce rfl (.tmp 32) (.tmp 34) (by rfl) (w.heap.size + 1) va k (zs.take k) (by rfl) Ov3.out (some ⟨v2.heap.size, 0, none⟩) 1 1 [(x0, x1, x2, x3)] (by rfl) (fun h => by cases h) rfl Nv3.out (by omega) BXv3.out ?_
              intro vb v4 own gr
              have hbg := Bv3.out.grown gr Bv3.out.size (fun j hj => Nat.le_trans (Nat.le_succ _) (own_ge Ov3.out j hj))
              have Bv4 := Lib.hid hbg
              have Xv4 := Lib.hid (Xv3.out.grown gr (fun hj => by have := own_ge Ov3.out _ hj; omega))
              have BXv4 := Lib.hid (Nat.le_trans BXv3.out gr.size)
              have Ov4 := Lib.hid own
              clear own gr hbg
              refine Shut.out hK _ _ ?_ (fun hHeld => ?_)
              · exact Xv4.out
              clear hK K
              simp only [qP6_7, Act.put, List.setIfInBounds_toArray, List.set_cons_zero, List.set_cons_succ]
              refine regY tP6_01234567_8 (vb) (fun W hSw => by unfold qP6_8; go_simp) hHeld ?_
              try simp only [pt, List.set]
              refine wpAnyH_done (by kernel_rfl) ?_ _
              clear hHeld
              have D := HD.out _ _ HZ.out (H1.out.below Bv4.out)
              go_wp2_with (at_builtin; refine wpList_append_ce rfl (.tmp 36) (.tmp 39) (by rfl) (w.heap.size + 1) vb (k + 1) (zs.take k ++ [(x0, x1, x2, x3)]) (by rfl) Ov4.out T (n - k) (c - k) (zs.drop k) (by rfl) HDN.out (by rw [List.length_drop, HZ.out]) D (by omega) BXv4.out ?_; intro vc wz own gr)
              have hbg := Bv4.out.grown gr Bv4.out.size (fun j hj => Nat.le_trans (Nat.le_succ _) (own_ge Ov4.out j hj))
              have OF := Lib.hid (show wz.ownsRow w.heap.size 38 4 vc (putC zs (x0, x1, x2, x3)).length (ceCells (putC zs (x0, x1, x2, x3))) by
                have e1 := PE.out
                have e2 : (putC zs (x0, x1, x2, x3)).length = k + 1 + (n - k) := by rw [e1, List.length_append, List.length_cons, List.length_take, List.length_drop, HZ.out]; omega
                rw [e2, e1]
                rw [List.append_assoc] at own
                exact own_base own (Nat.le_succ _))
              have BF := Lib.hid hbg
              clear own gr hbg D
              go_wp2
              go_ret
              exact ⟨_, rfl, OF.out, BF.out⟩
            · rw [if_pos (by rfl)]
              unfold qP6_6
              go_simp
              generalize hV : World.alloc _ _ = v5
              have hbv : Below v1.heap.size v1 v5 := by rw [← hV]; exact (Below.refl _ _).alloc (Nat.le_refl _) _
              have Bv5 := Lib.hid (below_chain Bv1.out hbv)
              have Xv5 := Lib.hid (Xv1.out.below hbv)
              have Ov5 := Lib.hid (own_below Ov1.out hbv)
              have Nv5 := Lib.hid (show Ces v5 (some ⟨v1.heap.size, 0, none⟩) [(x0, x1, x2, x3)] by rw [← hV]; exact ce_new v1 x0 x1 x2 x3)
              have BXv5 := Lib.hid (Nat.le_trans BXv1.out hbv.size)
              have SZv5 := Lib.hid (show v1.heap.size < v5.heap.size by rw [← hV]; simp)
              clear hbv hV
              refine Shut.out hK _ _ ?_ (fun hHeld => ?_)
              · exact Xv5.out
              clear hK K
              try simp only [pt, List.set]
              refine cP6_012356_4 (fun K hK => ?_)
              refine step_append_ce rfl (.tmp 28) (.tmp 31) (by rfl) (w.heap.size + 1) (.slice (some ⟨W.heap.size, 0, none⟩) 0 0) 0 [] (by rfl) Ov5.out L k c (zs.take k) (by rfl) HL.out (by rw [List.length_take, HZ.out]; omega) (HT.out _ _ (H1.out.below Bv5.out)) (by omega) BXv5.out ?_
              intro va v6 own gr
              have hbg := Bv5.out.grown gr Bv5.out.size (fun j hj => Nat.le_trans (Nat.le_succ _) (own_ge Ov5.out j hj))
              rw [Nat.zero_add, List.nil_append] at own
              have Bv6 := Lib.hid hbg
              have Xv6 := Lib.hid (Xv5.out.grown gr (fun hj => by have := own_ge Ov5.out _ hj; omega))
              have BXv6 := Lib.hid (Nat.le_trans BXv5.out gr.size)
              have Nv6 := Lib.hid (ces_grown Nv5.out gr (by simp only [Value.ownBlock, ne_eq, Option.some.injEq]; have := SZv1.out; have := SZv5.out; omega))
              have Ov6 := Lib.hid own
              clear own gr hbg
              refine Shut.out hK _ _ ?_ (fun hHeld => ?_)
              · exact Xv6.out
              clear hK K
              simp only [qP6_4, Act.put, List.setIfInBounds_toArray, List.set_cons_zero, List.set_cons_succ]
              refine cP6_0123456_7 (fun K hK => ?_)
              refine step_append_ce rfl (.tmp 32) (.tmp 34) (by rfl) (w.heap.size + 1) va k (zs.take k) (by rfl) Ov6.out (some ⟨v1.heap.size, 0, none⟩) 1 1 [(x0, x1, x2, x3)] (by rfl) (fun h => by cases h) rfl Nv6.out (by omega) BXv6.out ?_
              intro vb v7 own gr
              have hbg := Bv6.out.grown gr Bv6.out.size (fun j hj => Nat.le_trans (Nat.le_succ _) (own_ge Ov6.out j hj))
              have Bv7 := Lib.hid hbg
              have Xv7 := Lib.hid (Xv6.out.grown gr (fun hj => by have := own_ge Ov6.out _ hj; omega))
              have BXv7 := Lib.hid (Nat.le_trans BXv6.out gr.size)
              have Ov7 := Lib.hid own
              clear own gr hbg
              refine Shut.out hK _ _ ?_ (fun hHeld => ?_)
              · exact Xv7.out
              clear hK K
              simp only [qP6_7, Act.put, List.setIfInBounds_toArray, List.set_cons_zero, List.set_cons_succ]
              refine regY tP6_01234567_8 (vb) (fun W hSw => by unfold qP6_8; go_simp) hHeld ?_
              try simp only [pt, List.set]
              refine wpAnyH_done (by kernel_rfl) ?_ _
              clear hHeld
              have D := HD.out _ _ HZ.out (H1.out.below Bv7.out)
              go_wp2_with (at_builtin; refine wpList_append_ce rfl (.tmp 36) (.tmp 39) (by rfl) (w.heap.size + 1) vb (k + 1) (zs.take k ++ [(x0, x1, x2, x3)]) (by rfl) Ov7.out T (n - k) (c - k) (zs.drop k) (by rfl) HDN.out (by rw [List.length_drop, HZ.out]) D (by omega) BXv7.out ?_; intro vc wz own gr)
              have hbg := Bv7.out.grown gr Bv7.out.size (fun j hj => Nat.le_trans (Nat.le_succ _) (own_ge Ov7.out j hj))
              have OF := Lib.hid (show wz.ownsRow w.heap.size 38 4 vc (putC zs (x0, x1, x2, x3)).length (ceCells (putC zs (x0, x1, x2, x3))) by
                have e1 := PE.out
                have e2 : (putC zs (x0, x1, x2, x3)).length = k + 1 + (n - k) := by rw [e1, List.length_append, List.length_cons, List.length_take, List.length_drop, HZ.out]; omega
                rw [e2, e1]
                rw [List.append_assoc] at own
                exact own_base own (Nat.le_succ _))
              have BF := Lib.hid hbg
              clear own gr hbg D
              go_wp2
              go_ret
              exact ⟨_, rfl, OF.out, BF.out⟩
          · rw [if_pos (by rfl)]
            unfold qP6_6
            go_simp
            generalize hV : World.alloc _ _ = v8
            have hbv : Below W.heap.size W v8 := by rw [← hV]; exact (Below.refl _ _).alloc (Nat.le_refl _) _
            have Bv8 := Lib.hid (below_chain BW.out hbv)
            have Xv8 := Lib.hid (XW.out.below hbv)
            have Nv8 := Lib.hid (show Ces v8 (some ⟨W.heap.size, 0, none⟩) [(x0, x1, x2, x3)] by rw [← hV]; exact ce_new W x0 x1 x2 x3)
            have BXv8 := Lib.hid (Nat.le_trans BXW.out hbv.size)
            have SZv8 := Lib.hid (show W.heap.size < v8.heap.size by rw [← hV]; simp)
            clear hbv hV
            refine Shut.out hK _ _ ?_ (fun hHeld => ?_)
            · exact Xv8.out
            clear hK K
            try simp only [pt, List.set]
            refine cP6_12356_0 (fun K hK => ?_)
            rw [if_pos (by rfl)]
            unfold qP6_0
            go_simp
            generalize hV : World.alloc _ _ = v9
            have hbv : Below v8.heap.size v8 v9 := by rw [← hV]; exact (Below.refl _ _).alloc (Nat.le_refl _) _
            have Bv9 := Lib.hid (below_chain Bv8.out hbv)
            have Xv9 := Lib.hid (Xv8.out.below hbv)
            have Nv9 := Lib.hid (Nv8.out.below hbv)
            have Ov9 := Lib.hid (show v9.ownsRow (w.heap.size + 1) 38 4 (.slice (some ⟨v8.heap.size, 0, none⟩) 0 0) 0 (ceCells []) by rw [← hV]; exact World.ownsRow_lit v8 #[] 0 BXv8.out (by decide) rfl)
            have BXv9 := Lib.hid (Nat.le_trans BXv8.out hbv.size)
            have SZv9 := Lib.hid (show v8.heap.size < v9.heap.size by rw [← hV]; simp)
            clear hbv hV
            refine Shut.out hK _ _ ?_ (fun hHeld => ?_)
            · exact Xv9.out
            clear hK K
            try simp only [pt, List.set]
            refine cP6_012356_4 (fun K hK => ?_)
            refine step_append_ce rfl (.tmp 28) (.tmp 31) (by rfl) (w.heap.size + 1) (.slice (some ⟨v8.heap.size, 0, none⟩) 0 0) 0 [] (by rfl) Ov9.out L k c (zs.take k) (by rfl) HL.out (by rw [List.length_take, HZ.out]; omega) (HT.out _ _ (H1.out.below Bv9.out)) (by omega) BXv9.out ?_
            intro va v10 own gr
            have hbg := Bv9.out.grown gr Bv9.out.size (fun j hj => Nat.le_trans (Nat.le_succ _) (own_ge Ov9.out j hj))
            rw [Nat.zero_add, List.nil_append] at own
            have Bv10 := Lib.hid hbg
            have Xv10 := Lib.hid (Xv9.out.grown gr (fun hj => by have := own_ge Ov9.out _ hj; omega))
            have BXv10 := Lib.hid (Nat.le_trans BXv9.out gr.size)
            have Nv10 := Lib.hid (ces_grown Nv9.out gr (by simp only [Value.ownBlock, ne_eq, Option.some.injEq]; have := SZv8.out; have := SZv9.out; omega))
            have Ov10 := Lib.hid own
            clear own gr hbg
            refine Shut.out hK _ _ ?_ (fun hHeld => ?_)
            · exact Xv10.out
            clear hK K
            simp only [qP6_4, Act.put, List.setIfInBounds_toArray, List.set_cons_zero, List.set_cons_succ]
            refine cP6_0123456_7 (fun K hK => ?_)
            refine step_append_ce rfl (.tmp 32) (.tmp 34) (by rfl) (w.heap.size + 1) va k (zs.take k) (by rfl) Ov10.out (some ⟨W.heap.size, 0, none⟩) 1 1 [(x0, x1, x2, x3)] (by rfl) (fun h => by cases h) rfl Nv10.out (by omega) BXv10.out ?_
            intro vb v11 own gr
            have hbg := Bv10.out.grown gr Bv10.out.size (fun j hj => Nat.le_trans (Nat.le_succ _) (own_ge Ov10.out j hj))
            have Bv11 := Lib.hid hbg
            have Xv11 := Lib.hid (Xv10.out.grown gr (fun hj => by have := own_ge Ov10.out _ hj; omega))
            have BXv11 := Lib.hid (Nat.le_trans BXv10.out gr.size)
            have Ov11 := Lib.hid own
            clear own gr hbg
            refine Shut.out hK _ _ ?_ (fun hHeld => ?_)
            · exact Xv11.out
            clear hK K
            simp only [qP6_7, Act.put, List.setIfInBounds_toArray, List.set_cons_zero, List.set_cons_succ]
            refine regY tP6_01234567_8 (vb) (fun W hSw => by unfold qP6_8; go_simp) hHeld ?_
            try simp only [pt, List.set]
            refine wpAnyH_done (by kernel_rfl) ?_ _
            clear hHeld
            have D := HD.out _ _ HZ.out (H1.out.below Bv11.out)
            go_wp2_with (at_builtin; refine wpList_append_ce rfl (.tmp 36) (.tmp 39) (by rfl) (w.heap.size + 1) vb (k + 1) (zs.take k ++ [(x0, x1, x2, x3)]) (by rfl) Ov11.out T (n - k) (c - k) (zs.drop k) (by rfl) HDN.out (by rw [List.length_drop, HZ.out]) D (by omega) BXv11.out ?_; intro vc wz own gr)
            have hbg := Bv11.out.grown gr Bv11.out.size (fun j hj => Nat.le_trans (Nat.le_succ _) (own_ge Ov11.out j hj))
            have OF := Lib.hid (show wz.ownsRow w.heap.size 38 4 vc (putC zs (x0, x1, x2, x3)).length (ceCells (putC zs (x0, x1, x2, x3))) by
              have e1 := PE.out
              have e2 : (putC zs (x0, x1, x2, x3)).length = k + 1 + (n - k) := by rw [e1, List.length_append, List.length_cons, List.length_take, List.length_drop, HZ.out]; omega
              rw [e2, e1]
              rw [List.append_assoc] at own
              exact own_base own (Nat.le_succ _))
            have BF := Lib.hid hbg
            clear own gr hbg D
            go_wp2
            go_ret
            exact ⟨_, rfl, OF.out, BF.out⟩
      · have hkn : k = n := by omega
        have hge : ∀ h : k < zs.length, ¬ltE zs[k] (x0, x1, x2, x3) := fun h => absurd h (by rw [HZ.out]; omega)
        have hlt2 : decide ((k : Int) < (k : Int)) = false := by simp
        subst hkn
        clear hlt
        go_wp2_with fail
        refine wp_region_held_drew (S := fun _ => True) (by kernel_rfl) ?_ (fun hHeld => ?_)
        · skip
          exact trivial
        change wpAnyH _ _ opsP4 _ _ 13 (LP4 0) _ _
        refine regY tP4_0 (.int .i64 (k : Int)) (fun W hSw => by unfold qP4_0; go_simp) hHeld ?_
        try simp only [pt, List.set]
        refine regY tP4_1 (.slice A k c) (fun W hSw => by unfold qP4_1; go_simp) hHeld ?_
        try simp only [pt, List.set]
        refine regY tP4_2 (.int .i64 (k : Int)) (fun W hSw => by unfold qP4_2; go_simp) hHeld ?_
        try simp only [pt, List.set]
        refine regY tP4_3 (.bool false) (fun W hSw => by unfold qP4_3; go_simp) hHeld ?_
        try simp only [pt, List.set]
        refine regY tP4_4 (.bool false) (fun W hSw => by unfold qP4_4; go_simp) hHeld ?_
        try simp only [pt, List.set]
        refine regU tP4_5 hHeld ?_
        try simp only [pt, List.set]
        refine regU tP4_6 hHeld ?_
        try simp only [pt, List.set]
        refine regU tP4_7 hHeld ?_
        try simp only [pt, List.set]
        refine regU tP4_8 hHeld ?_
        try simp only [pt, List.set]
        refine regU tP4_9 hHeld ?_
        try simp only [pt, List.set]
        refine regU tP4_10 hHeld ?_
        try simp only [pt, List.set]
        refine regU tP4_11 hHeld ?_
        try simp only [pt, List.set]
        refine regY tP4_12 (Value.bool false) (fun W hSw => by unfold qP4_12; go_simp) hHeld ?_
        try simp only [pt, List.set]
        refine wpAnyH_done (by kernel_rfl) ?_ _
        clear hHeld
        have B5 := Lib.hid HB.out.drew
        have X5 := Lib.hid HX.out.drew
        have BX5 := HBX
        clear HB HX HBX s0 s1 s2 s3 hlt2
        have PE := Lib.hid (put_at HN.out (show k ≤ zs.length by rw [HZ.out]; omega) HLT.out hge)
        obtain ⟨L, qL, hL, hT⟩ := slice_to A k c k (Nat.le_trans hk HC.out) HA.out
        obtain ⟨T, qT, hTn, hD⟩ := slice_from A k c k (by omega) HC.out HA.out
        have HL := Lib.hid hL
        have HT := Lib.hid hT
        have HDN := Lib.hid hTn
        have HD := Lib.hid hD
        clear hL hT hTn hD hge HLT
        go_wp2_with fail
        obtain ⟨W, hW⟩ : ∃ z, (wr.drew).drew = z := ⟨_, rfl⟩
        have BW := Lib.hid (show Below w.heap.size w W by rw [← hW]; exact B5.out.drew)
        have XW := Lib.hid (show XB w.heap.size x0 x1 x2 x3 W by rw [← hW]; exact X5.out.drew)
        have BXW := Lib.hid (show w.heap.size + 1 ≤ W.heap.size by rw [← hW]; exact BX5.out)
        refine wp_region_held_drew (S := XB w.heap.size x0 x1 x2 x3) (by kernel_rfl) ?_ (fun hHeld => ?_)
        · rw [hW]; exact XW.out
        change wpAnyH _ _ opsP6 _ _ 9 (#[false, false, false, false, false, false, false, false, false] : Array Bool) _ _
        rw [hW] at hHeld ⊢
        clear hW
        refine regY tP6_e_1 (.slice A k c) (fun W hSw => by unfold qP6_1; go_simp) hHeld ?_
        try simp only [pt, List.set]
        refine regY tP6_1_2 (.int .i64 (k : Int)) (fun W hSw => by unfold qP6_2; go_simp) hHeld ?_
        try simp only [pt, List.set]
        refine regY tP6_12_3 (.slice L k c) (fun W hSw => by unfold qP6_3; go_simp) hHeld ?_
        try simp only [pt, List.set]
        refine regY tP6_123_5 (.agg #[.int .i64 x0, .int .i64 x1, .int .i64 x2, .int .i64 x3]) (fun W hSw => by unfold qP6_5; obtain ⟨c0, c1, c2, c3⟩ := hSw; go_simp) hHeld ?_
        try simp only [pt, List.set]
        refine cP6_1235_06 (fun K hK => ?_) (fun K hK => ?_)
        · rw [if_pos (by rfl)]
          unfold qP6_0
          go_simp
          generalize hV : World.alloc _ _ = v1
          have hbv : Below W.heap.size W v1 := by rw [← hV]; exact (Below.refl _ _).alloc (Nat.le_refl _) _
          have Bv1 := Lib.hid (below_chain BW.out hbv)
          have Xv1 := Lib.hid (XW.out.below hbv)
          have Ov1 := Lib.hid (show v1.ownsRow (w.heap.size + 1) 38 4 (.slice (some ⟨W.heap.size, 0, none⟩) 0 0) 0 (ceCells []) by rw [← hV]; exact World.ownsRow_lit W #[] 0 BXW.out (by decide) rfl)
          have BXv1 := Lib.hid (Nat.le_trans BXW.out hbv.size)
          have SZv1 := Lib.hid (show W.heap.size < v1.heap.size by rw [← hV]; simp)
          clear hbv hV
          refine Shut.out hK _ _ ?_ (fun hHeld => ?_)
          · exact Xv1.out
          clear hK K
          try simp only [pt, List.set]
          refine cP6_01235_46 (fun K hK => ?_) (fun K hK => ?_)
          · refine step_append_ce rfl (.tmp 28) (.tmp 31) (by rfl) (w.heap.size + 1) (.slice (some ⟨W.heap.size, 0, none⟩) 0 0) 0 [] (by rfl) Ov1.out L k c (zs.take k) (by rfl) HL.out (by rw [List.length_take, HZ.out]; omega) (HT.out _ _ (H1.out.below Bv1.out)) (by omega) BXv1.out ?_
            intro va v2 own gr
            have hbg := Bv1.out.grown gr Bv1.out.size (fun j hj => Nat.le_trans (Nat.le_succ _) (own_ge Ov1.out j hj))
            rw [Nat.zero_add, List.nil_append] at own
            have Bv2 := Lib.hid hbg
            have Xv2 := Lib.hid (Xv1.out.grown gr (fun hj => by have := own_ge Ov1.out _ hj; omega))
            have BXv2 := Lib.hid (Nat.le_trans BXv1.out gr.size)
            have Ov2 := Lib.hid own
            clear own gr hbg
            refine Shut.out hK _ _ ?_ (fun hHeld => ?_)
            · exact Xv2.out
            clear hK K
            simp only [qP6_4, Act.put, List.setIfInBounds_toArray, List.set_cons_zero, List.set_cons_succ]
            refine cP6_012345_6 (fun K hK => ?_)
            rw [if_pos (by rfl)]
            unfold qP6_6
            go_simp
            generalize hV : World.alloc _ _ = v3
            have hbv : Below v2.heap.size v2 v3 := by rw [← hV]; exact (Below.refl _ _).alloc (Nat.le_refl _) _
            have Bv3 := Lib.hid (below_chain Bv2.out hbv)
            have Xv3 := Lib.hid (Xv2.out.below hbv)
            have Ov3 := Lib.hid (own_below Ov2.out hbv)
            have Nv3 := Lib.hid (show Ces v3 (some ⟨v2.heap.size, 0, none⟩) [(x0, x1, x2, x3)] by rw [← hV]; exact ce_new v2 x0 x1 x2 x3)
            have BXv3 := Lib.hid (Nat.le_trans BXv2.out hbv.size)
            have SZv3 := Lib.hid (show v2.heap.size < v3.heap.size by rw [← hV]; simp)
            clear hbv hV
            refine Shut.out hK _ _ ?_ (fun hHeld => ?_)
            · exact Xv3.out
            clear hK K
            try simp only [pt, List.set]
            refine cP6_0123456_7 (fun K hK => ?_)
            refine step_append_ce rfl (.tmp 32) (.tmp 34) (by rfl) (w.heap.size + 1) va k (zs.take k) (by rfl) Ov3.out (some ⟨v2.heap.size, 0, none⟩) 1 1 [(x0, x1, x2, x3)] (by rfl) (fun h => by cases h) rfl Nv3.out (by omega) BXv3.out ?_
            intro vb v4 own gr
            have hbg := Bv3.out.grown gr Bv3.out.size (fun j hj => Nat.le_trans (Nat.le_succ _) (own_ge Ov3.out j hj))
            have Bv4 := Lib.hid hbg
            have Xv4 := Lib.hid (Xv3.out.grown gr (fun hj => by have := own_ge Ov3.out _ hj; omega))
            have BXv4 := Lib.hid (Nat.le_trans BXv3.out gr.size)
            have Ov4 := Lib.hid own
            clear own gr hbg
            refine Shut.out hK _ _ ?_ (fun hHeld => ?_)
            · exact Xv4.out
            clear hK K
            simp only [qP6_7, Act.put, List.setIfInBounds_toArray, List.set_cons_zero, List.set_cons_succ]
            refine regY tP6_01234567_8 (vb) (fun W hSw => by unfold qP6_8; go_simp) hHeld ?_
            try simp only [pt, List.set]
            refine wpAnyH_done (by kernel_rfl) ?_ _
            clear hHeld
            have D := HD.out _ _ HZ.out (H1.out.below Bv4.out)
            go_wp2_with (at_builtin; refine wpList_append_ce rfl (.tmp 36) (.tmp 39) (by rfl) (w.heap.size + 1) vb (k + 1) (zs.take k ++ [(x0, x1, x2, x3)]) (by rfl) Ov4.out T 0 (c - k) (zs.drop k) (by rfl) HDN.out (by rw [List.length_drop, HZ.out]; omega) D (by omega) BXv4.out ?_; intro vc wz own gr)
            have hbg := Bv4.out.grown gr Bv4.out.size (fun j hj => Nat.le_trans (Nat.le_succ _) (own_ge Ov4.out j hj))
            have OF := Lib.hid (show wz.ownsRow w.heap.size 38 4 vc (putC zs (x0, x1, x2, x3)).length (ceCells (putC zs (x0, x1, x2, x3))) by
              have e1 := PE.out
              have e2 : (putC zs (x0, x1, x2, x3)).length = k + 1 + 0 := by rw [e1, List.length_append, List.length_cons, List.length_take, List.length_drop, HZ.out]; omega
              rw [e2, e1]
              rw [List.append_assoc] at own
              exact own_base own (Nat.le_succ _))
            have BF := Lib.hid hbg
            clear own gr hbg D
            go_wp2
            go_ret
            exact ⟨_, rfl, OF.out, BF.out⟩
          · rw [if_pos (by rfl)]
            unfold qP6_6
            go_simp
            generalize hV : World.alloc _ _ = v5
            have hbv : Below v1.heap.size v1 v5 := by rw [← hV]; exact (Below.refl _ _).alloc (Nat.le_refl _) _
            have Bv5 := Lib.hid (below_chain Bv1.out hbv)
            have Xv5 := Lib.hid (Xv1.out.below hbv)
            have Ov5 := Lib.hid (own_below Ov1.out hbv)
            have Nv5 := Lib.hid (show Ces v5 (some ⟨v1.heap.size, 0, none⟩) [(x0, x1, x2, x3)] by rw [← hV]; exact ce_new v1 x0 x1 x2 x3)
            have BXv5 := Lib.hid (Nat.le_trans BXv1.out hbv.size)
            have SZv5 := Lib.hid (show v1.heap.size < v5.heap.size by rw [← hV]; simp)
            clear hbv hV
            refine Shut.out hK _ _ ?_ (fun hHeld => ?_)
            · exact Xv5.out
            clear hK K
            try simp only [pt, List.set]
            refine cP6_012356_4 (fun K hK => ?_)
            refine step_append_ce rfl (.tmp 28) (.tmp 31) (by rfl) (w.heap.size + 1) (.slice (some ⟨W.heap.size, 0, none⟩) 0 0) 0 [] (by rfl) Ov5.out L k c (zs.take k) (by rfl) HL.out (by rw [List.length_take, HZ.out]; omega) (HT.out _ _ (H1.out.below Bv5.out)) (by omega) BXv5.out ?_
            intro va v6 own gr
            have hbg := Bv5.out.grown gr Bv5.out.size (fun j hj => Nat.le_trans (Nat.le_succ _) (own_ge Ov5.out j hj))
            rw [Nat.zero_add, List.nil_append] at own
            have Bv6 := Lib.hid hbg
            have Xv6 := Lib.hid (Xv5.out.grown gr (fun hj => by have := own_ge Ov5.out _ hj; omega))
            have BXv6 := Lib.hid (Nat.le_trans BXv5.out gr.size)
            have Nv6 := Lib.hid (ces_grown Nv5.out gr (by simp only [Value.ownBlock, ne_eq, Option.some.injEq]; have := SZv1.out; have := SZv5.out; omega))
            have Ov6 := Lib.hid own
            clear own gr hbg
            refine Shut.out hK _ _ ?_ (fun hHeld => ?_)
            · exact Xv6.out
            clear hK K
            simp only [qP6_4, Act.put, List.setIfInBounds_toArray, List.set_cons_zero, List.set_cons_succ]
            refine cP6_0123456_7 (fun K hK => ?_)
            refine step_append_ce rfl (.tmp 32) (.tmp 34) (by rfl) (w.heap.size + 1) va k (zs.take k) (by rfl) Ov6.out (some ⟨v1.heap.size, 0, none⟩) 1 1 [(x0, x1, x2, x3)] (by rfl) (fun h => by cases h) rfl Nv6.out (by omega) BXv6.out ?_
            intro vb v7 own gr
            have hbg := Bv6.out.grown gr Bv6.out.size (fun j hj => Nat.le_trans (Nat.le_succ _) (own_ge Ov6.out j hj))
            have Bv7 := Lib.hid hbg
            have Xv7 := Lib.hid (Xv6.out.grown gr (fun hj => by have := own_ge Ov6.out _ hj; omega))
            have BXv7 := Lib.hid (Nat.le_trans BXv6.out gr.size)
            have Ov7 := Lib.hid own
            clear own gr hbg
            refine Shut.out hK _ _ ?_ (fun hHeld => ?_)
            · exact Xv7.out
            clear hK K
            simp only [qP6_7, Act.put, List.setIfInBounds_toArray, List.set_cons_zero, List.set_cons_succ]
            refine regY tP6_01234567_8 (vb) (fun W hSw => by unfold qP6_8; go_simp) hHeld ?_
            try simp only [pt, List.set]
            refine wpAnyH_done (by kernel_rfl) ?_ _
            clear hHeld
            have D := HD.out _ _ HZ.out (H1.out.below Bv7.out)
            go_wp2_with (at_builtin; refine wpList_append_ce rfl (.tmp 36) (.tmp 39) (by rfl) (w.heap.size + 1) vb (k + 1) (zs.take k ++ [(x0, x1, x2, x3)]) (by rfl) Ov7.out T 0 (c - k) (zs.drop k) (by rfl) HDN.out (by rw [List.length_drop, HZ.out]; omega) D (by omega) BXv7.out ?_; intro vc wz own gr)
            have hbg := Bv7.out.grown gr Bv7.out.size (fun j hj => Nat.le_trans (Nat.le_succ _) (own_ge Ov7.out j hj))
            have OF := Lib.hid (show wz.ownsRow w.heap.size 38 4 vc (putC zs (x0, x1, x2, x3)).length (ceCells (putC zs (x0, x1, x2, x3))) by
              have e1 := PE.out
              have e2 : (putC zs (x0, x1, x2, x3)).length = k + 1 + 0 := by rw [e1, List.length_append, List.length_cons, List.length_take, List.length_drop, HZ.out]; omega
              rw [e2, e1]
              rw [List.append_assoc] at own
              exact own_base own (Nat.le_succ _))
            have BF := Lib.hid hbg
            clear own gr hbg D
            go_wp2
            go_ret
            exact ⟨_, rfl, OF.out, BF.out⟩
        · rw [if_pos (by rfl)]
          unfold qP6_6
          go_simp
          generalize hV : World.alloc _ _ = v8
          have hbv : Below W.heap.size W v8 := by rw [← hV]; exact (Below.refl _ _).alloc (Nat.le_refl _) _
          have Bv8 := Lib.hid (below_chain BW.out hbv)
          have Xv8 := Lib.hid (XW.out.below hbv)
          have Nv8 := Lib.hid (show Ces v8 (some ⟨W.heap.size, 0, none⟩) [(x0, x1, x2, x3)] by rw [← hV]; exact ce_new W x0 x1 x2 x3)
          have BXv8 := Lib.hid (Nat.le_trans BXW.out hbv.size)
          have SZv8 := Lib.hid (show W.heap.size < v8.heap.size by rw [← hV]; simp)
          clear hbv hV
          refine Shut.out hK _ _ ?_ (fun hHeld => ?_)
          · exact Xv8.out
          clear hK K
          try simp only [pt, List.set]
          refine cP6_12356_0 (fun K hK => ?_)
          rw [if_pos (by rfl)]
          unfold qP6_0
          go_simp
          generalize hV : World.alloc _ _ = v9
          have hbv : Below v8.heap.size v8 v9 := by rw [← hV]; exact (Below.refl _ _).alloc (Nat.le_refl _) _
          have Bv9 := Lib.hid (below_chain Bv8.out hbv)
          have Xv9 := Lib.hid (Xv8.out.below hbv)
          have Nv9 := Lib.hid (Nv8.out.below hbv)
          have Ov9 := Lib.hid (show v9.ownsRow (w.heap.size + 1) 38 4 (.slice (some ⟨v8.heap.size, 0, none⟩) 0 0) 0 (ceCells []) by rw [← hV]; exact World.ownsRow_lit v8 #[] 0 BXv8.out (by decide) rfl)
          have BXv9 := Lib.hid (Nat.le_trans BXv8.out hbv.size)
          have SZv9 := Lib.hid (show v8.heap.size < v9.heap.size by rw [← hV]; simp)
          clear hbv hV
          refine Shut.out hK _ _ ?_ (fun hHeld => ?_)
          · exact Xv9.out
          clear hK K
          try simp only [pt, List.set]
          refine cP6_012356_4 (fun K hK => ?_)
          refine step_append_ce rfl (.tmp 28) (.tmp 31) (by rfl) (w.heap.size + 1) (.slice (some ⟨v8.heap.size, 0, none⟩) 0 0) 0 [] (by rfl) Ov9.out L k c (zs.take k) (by rfl) HL.out (by rw [List.length_take, HZ.out]; omega) (HT.out _ _ (H1.out.below Bv9.out)) (by omega) BXv9.out ?_
          intro va v10 own gr
          have hbg := Bv9.out.grown gr Bv9.out.size (fun j hj => Nat.le_trans (Nat.le_succ _) (own_ge Ov9.out j hj))
          rw [Nat.zero_add, List.nil_append] at own
          have Bv10 := Lib.hid hbg
          have Xv10 := Lib.hid (Xv9.out.grown gr (fun hj => by have := own_ge Ov9.out _ hj; omega))
          have BXv10 := Lib.hid (Nat.le_trans BXv9.out gr.size)
          have Nv10 := Lib.hid (ces_grown Nv9.out gr (by simp only [Value.ownBlock, ne_eq, Option.some.injEq]; have := SZv8.out; have := SZv9.out; omega))
          have Ov10 := Lib.hid own
          clear own gr hbg
          refine Shut.out hK _ _ ?_ (fun hHeld => ?_)
          · exact Xv10.out
          clear hK K
          simp only [qP6_4, Act.put, List.setIfInBounds_toArray, List.set_cons_zero, List.set_cons_succ]
          refine cP6_0123456_7 (fun K hK => ?_)
          refine step_append_ce rfl (.tmp 32) (.tmp 34) (by rfl) (w.heap.size + 1) va k (zs.take k) (by rfl) Ov10.out (some ⟨W.heap.size, 0, none⟩) 1 1 [(x0, x1, x2, x3)] (by rfl) (fun h => by cases h) rfl Nv10.out (by omega) BXv10.out ?_
          intro vb v11 own gr
          have hbg := Bv10.out.grown gr Bv10.out.size (fun j hj => Nat.le_trans (Nat.le_succ _) (own_ge Ov10.out j hj))
          have Bv11 := Lib.hid hbg
          have Xv11 := Lib.hid (Xv10.out.grown gr (fun hj => by have := own_ge Ov10.out _ hj; omega))
          have BXv11 := Lib.hid (Nat.le_trans BXv10.out gr.size)
          have Ov11 := Lib.hid own
          clear own gr hbg
          refine Shut.out hK _ _ ?_ (fun hHeld => ?_)
          · exact Xv11.out
          clear hK K
          simp only [qP6_7, Act.put, List.setIfInBounds_toArray, List.set_cons_zero, List.set_cons_succ]
          refine regY tP6_01234567_8 (vb) (fun W hSw => by unfold qP6_8; go_simp) hHeld ?_
          try simp only [pt, List.set]
          refine wpAnyH_done (by kernel_rfl) ?_ _
          clear hHeld
          have D := HD.out _ _ HZ.out (H1.out.below Bv11.out)
          go_wp2_with (at_builtin; refine wpList_append_ce rfl (.tmp 36) (.tmp 39) (by rfl) (w.heap.size + 1) vb (k + 1) (zs.take k ++ [(x0, x1, x2, x3)]) (by rfl) Ov11.out T 0 (c - k) (zs.drop k) (by rfl) HDN.out (by rw [List.length_drop, HZ.out]; omega) D (by omega) BXv11.out ?_; intro vc wz own gr)
          have hbg := Bv11.out.grown gr Bv11.out.size (fun j hj => Nat.le_trans (Nat.le_succ _) (own_ge Ov11.out j hj))
          have OF := Lib.hid (show wz.ownsRow w.heap.size 38 4 vc (putC zs (x0, x1, x2, x3)).length (ceCells (putC zs (x0, x1, x2, x3))) by
            have e1 := PE.out
            have e2 : (putC zs (x0, x1, x2, x3)).length = k + 1 + 0 := by rw [e1, List.length_append, List.length_cons, List.length_take, List.length_drop, HZ.out]; omega
            rw [e2, e1]
            rw [List.append_assoc] at own
            exact own_base own (Nat.le_succ _))
          have BF := Lib.hid hbg
          clear own gr hbg D
          go_wp2
          go_ret
          exact ⟨_, rfl, OF.out, BF.out⟩
end Go.Proofs.Ytbbagpnjjjohpaa.hexes

