/-
  The reference's Recall: the contract of spec.Recall.
-/
import Derived.Test.YtbbagpnjjjohpaaJ16
import Derived.Test.YtbbagpnjjjohpaaJ17

namespace Go.Proofs.Ytbbagpnjjjohpaa.hexes
open Go.RowKit

structure PX (b o : Nat) (p0 p1 p2 : Int) (xb : Nat) (x0 x1 x2 : Int) (w : World) : Prop where
  c0 : w.cell? ⟨b, o, none⟩ = some (.int .i64 p0)
  c1 : w.cell? ⟨b, o + 1, none⟩ = some (.int .i64 p1)
  c2 : w.cell? ⟨b, o + 2, none⟩ = some (.int .i64 p2)
  d0 : w.cell? ⟨xb, 0, none⟩ = some (.int .i64 x0)
  d1 : w.cell? ⟨xb, 1, none⟩ = some (.int .i64 x1)
  d2 : w.cell? ⟨xb, 2, none⟩ = some (.int .i64 x2)
theorem PX.drew {b o : Nat} {p0 p1 p2 : Int} {xb : Nat} {x0 x1 x2 : Int} {w : World} (h : PX b o p0 p1 p2 xb x0 x1 x2 w) : PX b o p0 p1 p2 xb x0 x1 x2 w.drew := ⟨h.c0, h.c1, h.c2, h.d0, h.d1, h.d2⟩

theorem specLeast_is {n : Nat} {zs : List Ce} (hz : zs.length = n) {A : Option Addr} {c : Nat} {o ep ky m : Int} {b : Bool} (h : leastC zs o ep ky = (m, b)) (hn : n ≤ 4194304) (W : World) (h1 : Ces W A zs) :
    Calls Try.prog 31 #[.slice A n c, .int .i64 o, .int .i64 ep, .int .i64 ky] W fun e w' => e = .returned (.tuple #[.int .i64 m, .bool b]) ∧ Below W.heap.size W w' := by
  have := specLeast_any n zs hz A c o ep ky W h1 hn
  rwa [h] at this

set_option maxRecDepth 1000000 in
set_option maxHeartbeats 32000000 in
theorem specRec58_any (kd : Int) (hk : kd = 5 ∨ kd = 8) (n : Nat) (zs : List Ce) (hz : zs.length = n) (A : Option Addr) (c : Nat) (hA : A = none → c = 0) (hc : n ≤ c) (x0 x1 x2 x3 : Int) (w : World) (h1 : Ces w A zs) (hn : n ≤ 2000000) :
    Calls Try.prog 58 #[.int .i64 kd, .slice A n c, .agg #[.int .i64 x0, .int .i64 x1, .int .i64 x2, .int .i64 x3]] w fun e w' => ∃ v, e = .returned (.tuple #[v, .bool (recC kd zs (x0, x1, x2, x3)).2]) ∧ w'.ownsRow w.heap.size 38 4 v (recC kd zs (x0, x1, x2, x3)).1.length (ceCells (recC kd zs (x0, x1, x2, x3)).1) ∧ Below w.heap.size w w' := by
  obtain ⟨rq, hrq⟩ : ∃ q, recC kd zs (x0, x1, x2, x3) = q := ⟨_, rfl⟩
  have RQ := Lib.hid (show rq = recL zs (x0, x1, x2, x3) by rw [← hrq]; rcases hk with rfl | rfl <;> simp [recC])
  rw [hrq]
  clear hrq
  have H1 := Lib.hid h1
  have HZ := Lib.hid hz
  have HA := Lib.hid hA
  have HC := Lib.hid hc
  clear h1 hz hA hc
  obtain ⟨V, hV⟩ : ∃ z, w.alloc (.cells #[.int .i64 x0, .int .i64 x1, .int .i64 x2, .int .i64 x3] 38) = z := ⟨_, rfl⟩
  have BV := Lib.hid (show Below w.heap.size w V by rw [← hV]; exact (Below.refl _ _).alloc (Nat.le_refl _) _)
  have XV := Lib.hid (show XB w.heap.size x0 x1 x2 x3 V by rw [← hV]; exact XB.new _ _ _ _ _)
  have BXV := Lib.hid (show w.heap.size + 1 ≤ V.heap.size by rw [← hV]; simp)
  have c0 := XV.out.c0
  have c1 := XV.out.c1
  have c2 := XV.out.c2
  have c3 := XV.out.c3
  have LIT := Lib.hid (World.ownsRow_lit (base := w.heap.size + 1) (e := 38) (size := 4) V #[] 0 BXV.out (by decide) (by rfl))
  have BA := Lib.hid (BV.out.alloc BV.out.size (.cells #[] 38))
  have BA2 := Lib.hid (show w.heap.size + 1 ≤ (V.alloc (.cells #[] 38)).heap.size by have := BXV.out; simp; omega)
  obtain ⟨m, sm, hL⟩ : ∃ m sm, leastC zs x0 x1 x2 = (m, sm) := ⟨_, _, rfl⟩
  have HL := Lib.hid hL
  clear hL
  rcases hk with rfl | rfl
  all_goals
    go_enter Try.func58, Try.ntmps58
    go_wp2_with (at_builtin; refine wpList_append_ce rfl (.tmp 13) (.tmp 14) (by rfl) (w.heap.size + 1) (.slice (some ⟨V.heap.size, 0, none⟩) 0 0) 0 [] (by rfl) LIT.out A n c zs (by rfl) HA.out HZ.out (H1.out.below BA.out) (by omega) BA2.out ?_; intro vs w2 own gr; generalize hG : wpList _ _ _ _ _ _ = G)
    have hbg := BA.out.grown gr BA.out.size (fun j hj => Nat.le_trans (Nat.le_succ _) (own_ge LIT.out j hj))
    rw [Nat.zero_add, List.nil_append] at own
    have B2 := Lib.hid hbg
    have X2 := Lib.hid ((XV.out.below ((Below.refl _ _).alloc (Nat.le_refl _) (.cells #[] 38))).grown gr (fun hj => by have := own_ge LIT.out _ hj; omega))
    have BX2 := Lib.hid (show w.heap.size + 1 ≤ w2.heap.size by have h1 := gr.size; have h2 := BXV.out; simp at h1; omega)
    have O2 := Lib.hid own
    clear own gr hbg LIT BA BA2 hV c0 c1 c2 c3 XV BXV BV
    have c0 := X2.out.c0
    have c1 := X2.out.c1
    have c2 := X2.out.c2
    have c3 := X2.out.c3
    subst hG
    have E := Lib.hid (fun W (h : Ces W A zs) => specLeast_is (c := c) HZ.out HL.out (by omega) W h)
    go_wp2_with fail
    refine (E.out _ (H1.out.below B2.out)).mono ?_
    rintro e w3 ⟨rfl, b3⟩
    have B3 := Lib.hid (below_chain B2.out b3)
    have X3 := Lib.hid (X2.out.below b3)
    have O3 := Lib.hid (own_below O2.out b3)
    have BX3 := Lib.hid (Nat.le_trans BX2.out b3.size)
    clear b3 E c0 c1 c2 c3 X2 O2 BX2 B2
    have c3 := X3.out.c3
    by_cases hs : sm = true ∧ m ≤ x3
    · obtain ⟨rfl, hm⟩ := hs
      have d3 : decide (m ≤ x3) = true := decide_eq_true hm
      have HF := Lib.hid (show rq = (zs, false) by
        have h := HL.out
        rw [RQ.out]
        simp [recL, h, hm])
      clear hm
      go_wp2
      exact bodyPost_ret (v := .tuple #[vs, .bool false]) (by simp [results, Try.results58, go_sem]) rfl ⟨vs, by rw [HF.out], by rw [HF.out]; simp only [HZ.out]; exact own_base O3.out (Nat.le_succ _), B3.out⟩
    · have HF := Lib.hid (show rq = (putC (delC zs (x0, x1, x2, x3)) (x0, x1, x2, x3), true) by
        have h := HL.out
        rw [RQ.out]
        unfold recL
        rw [h, if_neg hs])
      have hsd : sm = false ∨ (sm = true ∧ decide (m ≤ x3) = false) := by
        cases sm with
        | false => exact .inl rfl
        | true => exact .inr ⟨rfl, decide_eq_false (fun h => hs ⟨rfl, h⟩)⟩
      clear hs
      rcases hsd with rfl | ⟨rfl, d3⟩
      all_goals
        go_wp2_with fail
        clear c3
        go_loopw [11, 12] (fun v i wr => ∃ (k m : Nat) (out : List Ce), k ≤ n ∧ out.length = m ∧ out = delC (zs.take k) (x0, x1, x2, x3) ∧ i = .int .i64 k ∧ wr.ownsRow (w.heap.size + 1) 38 4 v m (ceCells out) ∧ Below w.heap.size w wr ∧ XB w.heap.size x0 x1 x2 x3 wr ∧ w.heap.size + 1 ≤ wr.heap.size) (fun _ i _ => n - (intOf i).toNat)
        case atStart => exact ⟨0, 0, [], Nat.zero_le _, rfl, rfl, rfl, World.ownsRow_lit w3 #[] 0 BX3.out (by decide) rfl, B3.out.alloc B3.out.size _, X3.out.below ((Below.refl _ _).alloc (Nat.le_refl _) _), by simp; have := BX3.out; omega⟩
        case round =>
          obtain ⟨k, m, out, hk, hml, hout, rfl, hown, hb, hx, hbx⟩ := hrel
          have ML := Lib.hid hml
          have HU := Lib.hid hout
          have HO := Lib.hid hown
          have HB := Lib.hid hb
          have HX := Lib.hid hx
          have HBX := Lib.hid hbx
          have hmn : m ≤ n := by
            have := del_len (zs.take k) (x0, x1, x2, x3)
            rw [← HU.out, ML.out, List.length_take] at this
            omega
          clear hml hout hown hb hx hbx
          by_cases hlt : k < n
          · have l1 : k < zs.length := by rw [HZ.out]; exact hlt
            obtain ⟨b1, o1, p0, p1, p2, p3, rfl, xz, e0, e1, e2, e3⟩ := (H1.out.below HB.out).at l1
            have i0 : (0 : Int) ≤ (k : Int) := by omega
            have i1 : (k : Int) < (n : Int) := by omega
            have ST := Lib.hid (show delC (zs.take (k + 1)) (x0, x1, x2, x3) = out ++ (if keyC x0 x1 x2 (p0, p1, p2, p3) = true then [] else [(p0, p1, p2, p3)]) by rw [del_step l1, ← HU.out, xz])
            have PXR := Lib.hid (show PX b1 (o1 + k * 4) p0 p1 p2 w.heap.size x0 x1 x2 wr from ⟨e0, e1, e2, HX.out.c0, HX.out.c1, HX.out.c2⟩)
            clear xz l1 HU O3 B3 X3 BX3
            by_cases h0 : p0 = x0
            rotate_left
            · have HS := Lib.hid (show out ++ [(p0, p1, p2, p3)] = delC (zs.take (k + 1)) (x0, x1, x2, x3) by rw [ST.out]; simp [keyC, h0])
              have d0 : (p0 != x0) = true := by simpa using h0
              clear ST h0
              go_wp2_with fail
              refine wp_region_held_drew (S := PX b1 (o1 + k * 4) p0 p1 p2 w.heap.size x0 x1 x2) (by kernel_rfl) ?_ (fun hHeld => ?_)
              · skip
                exact PXR.out.drew
              change wpAnyH _ _ opsR16 _ _ 28 (LR16 0) _ _
              refine regY tR16_0 (.slice (some ⟨b1, o1, none⟩) n c) (fun W hSw => by unfold qR16_0; go_simp) hHeld ?_
              try simp only [pt, List.set]
              refine regY tR16_1 (.int .i64 (k : Int)) (fun W hSw => by unfold qR16_1; go_simp) hHeld ?_
              try simp only [pt, List.set]
              refine regY tR16_2 (.pointer (some ⟨b1, o1 + k * 4, none⟩)) (fun W hSw => by unfold qR16_2; go_simp) hHeld ?_
              try simp only [pt, List.set]
              refine regY tR16_3 (.pointer (some ⟨b1, o1 + k * 4, none⟩)) (fun W hSw => by unfold qR16_3; go_simp) hHeld ?_
              try simp only [pt, List.set]
              refine regY tR16_4 (.int .i64 p0) (fun W hSw => by unfold qR16_4; obtain ⟨c0, c1, c2, d0, d1, d2⟩ := hSw; go_simp) hHeld ?_
              try simp only [pt, List.set]
              refine regY tR16_5 (.pointer (some ⟨w.heap.size, 0, none⟩)) (fun W hSw => by unfold qR16_5; go_simp) hHeld ?_
              try simp only [pt, List.set]
              refine regY tR16_6 (.int .i64 x0) (fun W hSw => by unfold qR16_6; obtain ⟨c0, c1, c2, d0, d1, d2⟩ := hSw; go_simp) hHeld ?_
              try simp only [pt, List.set]
              refine regY tR16_7 (.bool true) (fun W hSw => by unfold qR16_7; go_simp) hHeld ?_
              try simp only [pt, List.set]
              refine regY tR16_8 (.bool true) (fun W hSw => by unfold qR16_8; go_simp) hHeld ?_
              try simp only [pt, List.set]
              refine regU tR16_9 hHeld ?_
              try simp only [pt, List.set]
              refine regU tR16_10 hHeld ?_
              try simp only [pt, List.set]
              refine regU tR16_11 hHeld ?_
              try simp only [pt, List.set]
              refine regU tR16_12 hHeld ?_
              try simp only [pt, List.set]
              refine regU tR16_13 hHeld ?_
              try simp only [pt, List.set]
              refine regU tR16_14 hHeld ?_
              try simp only [pt, List.set]
              refine regU tR16_15 hHeld ?_
              try simp only [pt, List.set]
              refine regU tR16_16 hHeld ?_
              try simp only [pt, List.set]
              refine regY tR16_17 (Value.bool true) (fun W hSw => by unfold qR16_17; go_simp) hHeld ?_
              try simp only [pt, List.set]
              refine regY tR16_18 (Value.bool true) (fun W hSw => by unfold qR16_18; go_simp) hHeld ?_
              try simp only [pt, List.set]
              refine regU tR16_19 hHeld ?_
              try simp only [pt, List.set]
              refine regU tR16_20 hHeld ?_
              try simp only [pt, List.set]
              refine regU tR16_21 hHeld ?_
              try simp only [pt, List.set]
              refine regU tR16_22 hHeld ?_
              try simp only [pt, List.set]
              refine regU tR16_23 hHeld ?_
              try simp only [pt, List.set]
              refine regU tR16_24 hHeld ?_
              try simp only [pt, List.set]
              refine regU tR16_25 hHeld ?_
              try simp only [pt, List.set]
              refine regU tR16_26 hHeld ?_
              try simp only [pt, List.set]
              refine regY tR16_27 (Value.bool true) (fun W hSw => by unfold qR16_27; go_simp) hHeld ?_
              try simp only [pt, List.set]
              refine wpAnyH_done (by kernel_rfl) ?_ _
              clear d0
              have BD := Lib.hid HB.out.drew
              have OD := Lib.hid (own_drewN HO.out 1)
              have XD := Lib.hid HX.out.drew
              have BXD := Lib.hid (show w.heap.size + 1 ≤ wr.drew.heap.size from HBX.out)
              have e0' := drew_keep e0
              have e1' := drew_keep e1
              have e2' := drew_keep e2
              have e3' := drew_keep e3
              obtain ⟨V, hV⟩ : ∃ z, wr.drew = z := ⟨_, rfl⟩
              rw [show wr.drewN 1 = wr.drew from rfl] at OD
              rw [hV] at BD OD XD BXD e0' e1' e2' e3' ⊢
              clear e0 e1 e2 e3 hV hHeld PXR HO HB HX
              go_wp2_with (at_builtin; refine wpList_append_ce rfl (.tmp 83) (.tmp 88) (by rfl) (w.heap.size + 1) _ m out (by rfl) (OD.out.alloc _) (some ⟨V.heap.size, 0, none⟩) 1 1 [(p0, p1, p2, p3)] (by rfl) (fun h => by cases h) rfl (ce_new V p0 p1 p2 p3) (by omega) (by have h2 := BXD.out; simp; omega) ?_; intro v8 w8 own8 gr8)
              have hb8 := (BD.out.alloc BD.out.size _).grown gr8 (Nat.le_trans BD.out.size (by simp)) (fun j hj => Nat.le_trans (Nat.le_succ _) (own_ge OD.out j hj))
              have X8 := Lib.hid ((XD.out.below ((Below.refl _ _).alloc (Nat.le_refl _) _)).grown gr8 (fun hj => by have := own_ge OD.out _ hj; omega))
              have BX8 := Lib.hid (show w.heap.size + 1 ≤ w8.heap.size by have h1 := gr8.size; have h2 := BXD.out; simp at h1; omega)
              have O8 := Lib.hid own8
              have B8 := Lib.hid hb8
              clear own8 gr8 hb8
              go_wp2
              go_roundw
              case rel => exact ⟨k + 1, m + 1, out ++ [(p0, p1, p2, p3)], by omega, by simp [ML.out], HS.out, by go_num, O8.out, B8.out, X8.out, BX8.out⟩
              case measure => simp [intOf]; omega
            subst h0
            by_cases h1 : p1 = x1
            rotate_left
            · have HS := Lib.hid (show out ++ [(p0, p1, p2, p3)] = delC (zs.take (k + 1)) (p0, x1, x2, x3) by rw [ST.out]; simp [keyC, h1])
              have d1 : (p1 != x1) = true := by simpa using h1
              clear ST h1
              go_wp2_with fail
              refine wp_region_held_drew (S := PX b1 (o1 + k * 4) p0 p1 p2 w.heap.size p0 x1 x2) (by kernel_rfl) ?_ (fun hHeld => ?_)
              · skip
                exact PXR.out.drew
              change wpAnyH _ _ opsR16 _ _ 28 (LR16 0) _ _
              refine regY tR16_0 (.slice (some ⟨b1, o1, none⟩) n c) (fun W hSw => by unfold qR16_0; go_simp) hHeld ?_
              try simp only [pt, List.set]
              refine regY tR16_1 (.int .i64 (k : Int)) (fun W hSw => by unfold qR16_1; go_simp) hHeld ?_
              try simp only [pt, List.set]
              refine regY tR16_2 (.pointer (some ⟨b1, o1 + k * 4, none⟩)) (fun W hSw => by unfold qR16_2; go_simp) hHeld ?_
              try simp only [pt, List.set]
              refine regY tR16_3 (.pointer (some ⟨b1, o1 + k * 4, none⟩)) (fun W hSw => by unfold qR16_3; go_simp) hHeld ?_
              try simp only [pt, List.set]
              refine regY tR16_4 (.int .i64 p0) (fun W hSw => by unfold qR16_4; obtain ⟨c0, c1, c2, d0, d1, d2⟩ := hSw; go_simp) hHeld ?_
              try simp only [pt, List.set]
              refine regY tR16_5 (.pointer (some ⟨w.heap.size, 0, none⟩)) (fun W hSw => by unfold qR16_5; go_simp) hHeld ?_
              try simp only [pt, List.set]
              refine regY tR16_6 (.int .i64 p0) (fun W hSw => by unfold qR16_6; obtain ⟨c0, c1, c2, d0, d1, d2⟩ := hSw; go_simp) hHeld ?_
              try simp only [pt, List.set]
              refine regY tR16_7 (.bool false) (fun W hSw => by unfold qR16_7; go_simp) hHeld ?_
              try simp only [pt, List.set]
              refine regY tR16_8 (.bool false) (fun W hSw => by unfold qR16_8; go_simp) hHeld ?_
              try simp only [pt, List.set]
              refine regY tR16_9 (.slice (some ⟨b1, o1, none⟩) n c) (fun W hSw => by unfold qR16_9; go_simp) hHeld ?_
              try simp only [pt, List.set]
              refine regY tR16_10 (.int .i64 (k : Int)) (fun W hSw => by unfold qR16_10; go_simp) hHeld ?_
              try simp only [pt, List.set]
              refine regY tR16_11 (.pointer (some ⟨b1, o1 + k * 4, none⟩)) (fun W hSw => by unfold qR16_11; go_simp) hHeld ?_
              try simp only [pt, List.set]
              refine regY tR16_12 (.pointer (some ⟨b1, o1 + k * 4 + 1, none⟩)) (fun W hSw => by unfold qR16_12; go_simp) hHeld ?_
              try simp only [pt, List.set]
              refine regY tR16_13 (.int .i64 p1) (fun W hSw => by unfold qR16_13; obtain ⟨c0, c1, c2, d0, d1, d2⟩ := hSw; go_simp) hHeld ?_
              try simp only [pt, List.set]
              refine regY tR16_14 (.pointer (some ⟨w.heap.size, 1, none⟩)) (fun W hSw => by unfold qR16_14; go_simp) hHeld ?_
              try simp only [pt, List.set]
              refine regY tR16_15 (.int .i64 x1) (fun W hSw => by unfold qR16_15; obtain ⟨c0, c1, c2, d0, d1, d2⟩ := hSw; go_simp) hHeld ?_
              try simp only [pt, List.set]
              refine regY tR16_16 (.bool true) (fun W hSw => by unfold qR16_16; go_simp) hHeld ?_
              try simp only [pt, List.set]
              refine regY tR16_17 (.bool true) (fun W hSw => by unfold qR16_17; go_simp) hHeld ?_
              try simp only [pt, List.set]
              refine regY tR16_18 (.bool true) (fun W hSw => by unfold qR16_18; go_simp) hHeld ?_
              try simp only [pt, List.set]
              refine regU tR16_19 hHeld ?_
              try simp only [pt, List.set]
              refine regU tR16_20 hHeld ?_
              try simp only [pt, List.set]
              refine regU tR16_21 hHeld ?_
              try simp only [pt, List.set]
              refine regU tR16_22 hHeld ?_
              try simp only [pt, List.set]
              refine regU tR16_23 hHeld ?_
              try simp only [pt, List.set]
              refine regU tR16_24 hHeld ?_
              try simp only [pt, List.set]
              refine regU tR16_25 hHeld ?_
              try simp only [pt, List.set]
              refine regU tR16_26 hHeld ?_
              try simp only [pt, List.set]
              refine regY tR16_27 (Value.bool true) (fun W hSw => by unfold qR16_27; go_simp) hHeld ?_
              try simp only [pt, List.set]
              refine wpAnyH_done (by kernel_rfl) ?_ _
              clear d1
              have BD := Lib.hid HB.out.drew
              have OD := Lib.hid (own_drewN HO.out 1)
              have XD := Lib.hid HX.out.drew
              have BXD := Lib.hid (show w.heap.size + 1 ≤ wr.drew.heap.size from HBX.out)
              have e0' := drew_keep e0
              have e1' := drew_keep e1
              have e2' := drew_keep e2
              have e3' := drew_keep e3
              obtain ⟨V, hV⟩ : ∃ z, wr.drew = z := ⟨_, rfl⟩
              rw [show wr.drewN 1 = wr.drew from rfl] at OD
              rw [hV] at BD OD XD BXD e0' e1' e2' e3' ⊢
              clear e0 e1 e2 e3 hV hHeld PXR HO HB HX
              go_wp2_with (at_builtin; refine wpList_append_ce rfl (.tmp 83) (.tmp 88) (by rfl) (w.heap.size + 1) _ m out (by rfl) (OD.out.alloc _) (some ⟨V.heap.size, 0, none⟩) 1 1 [(p0, p1, p2, p3)] (by rfl) (fun h => by cases h) rfl (ce_new V p0 p1 p2 p3) (by omega) (by have h2 := BXD.out; simp; omega) ?_; intro v8 w8 own8 gr8)
              have hb8 := (BD.out.alloc BD.out.size _).grown gr8 (Nat.le_trans BD.out.size (by simp)) (fun j hj => Nat.le_trans (Nat.le_succ _) (own_ge OD.out j hj))
              have X8 := Lib.hid ((XD.out.below ((Below.refl _ _).alloc (Nat.le_refl _) _)).grown gr8 (fun hj => by have := own_ge OD.out _ hj; omega))
              have BX8 := Lib.hid (show w.heap.size + 1 ≤ w8.heap.size by have h1 := gr8.size; have h2 := BXD.out; simp at h1; omega)
              have O8 := Lib.hid own8
              have B8 := Lib.hid hb8
              clear own8 gr8 hb8
              go_wp2
              go_roundw
              case rel => exact ⟨k + 1, m + 1, out ++ [(p0, p1, p2, p3)], by omega, by simp [ML.out], HS.out, by go_num, O8.out, B8.out, X8.out, BX8.out⟩
              case measure => simp [intOf]; omega
            subst h1
            by_cases h2 : p2 = x2
            rotate_left
            · have HS := Lib.hid (show out ++ [(p0, p1, p2, p3)] = delC (zs.take (k + 1)) (p0, p1, x2, x3) by rw [ST.out]; simp [keyC, h2])
              have d2 : (p2 != x2) = true := by simpa using h2
              clear ST h2
              go_wp2_with fail
              refine wp_region_held_drew (S := PX b1 (o1 + k * 4) p0 p1 p2 w.heap.size p0 p1 x2) (by kernel_rfl) ?_ (fun hHeld => ?_)
              · skip
                exact PXR.out.drew
              change wpAnyH _ _ opsR16 _ _ 28 (LR16 0) _ _
              refine regY tR16_0 (.slice (some ⟨b1, o1, none⟩) n c) (fun W hSw => by unfold qR16_0; go_simp) hHeld ?_
              try simp only [pt, List.set]
              refine regY tR16_1 (.int .i64 (k : Int)) (fun W hSw => by unfold qR16_1; go_simp) hHeld ?_
              try simp only [pt, List.set]
              refine regY tR16_2 (.pointer (some ⟨b1, o1 + k * 4, none⟩)) (fun W hSw => by unfold qR16_2; go_simp) hHeld ?_
              try simp only [pt, List.set]
              refine regY tR16_3 (.pointer (some ⟨b1, o1 + k * 4, none⟩)) (fun W hSw => by unfold qR16_3; go_simp) hHeld ?_
              try simp only [pt, List.set]
              refine regY tR16_4 (.int .i64 p0) (fun W hSw => by unfold qR16_4; obtain ⟨c0, c1, c2, d0, d1, d2⟩ := hSw; go_simp) hHeld ?_
              try simp only [pt, List.set]
              refine regY tR16_5 (.pointer (some ⟨w.heap.size, 0, none⟩)) (fun W hSw => by unfold qR16_5; go_simp) hHeld ?_
              try simp only [pt, List.set]
              refine regY tR16_6 (.int .i64 p0) (fun W hSw => by unfold qR16_6; obtain ⟨c0, c1, c2, d0, d1, d2⟩ := hSw; go_simp) hHeld ?_
              try simp only [pt, List.set]
              refine regY tR16_7 (.bool false) (fun W hSw => by unfold qR16_7; go_simp) hHeld ?_
              try simp only [pt, List.set]
              refine regY tR16_8 (.bool false) (fun W hSw => by unfold qR16_8; go_simp) hHeld ?_
              try simp only [pt, List.set]
              refine regY tR16_9 (.slice (some ⟨b1, o1, none⟩) n c) (fun W hSw => by unfold qR16_9; go_simp) hHeld ?_
              try simp only [pt, List.set]
              refine regY tR16_10 (.int .i64 (k : Int)) (fun W hSw => by unfold qR16_10; go_simp) hHeld ?_
              try simp only [pt, List.set]
              refine regY tR16_11 (.pointer (some ⟨b1, o1 + k * 4, none⟩)) (fun W hSw => by unfold qR16_11; go_simp) hHeld ?_
              try simp only [pt, List.set]
              refine regY tR16_12 (.pointer (some ⟨b1, o1 + k * 4 + 1, none⟩)) (fun W hSw => by unfold qR16_12; go_simp) hHeld ?_
              try simp only [pt, List.set]
              refine regY tR16_13 (.int .i64 p1) (fun W hSw => by unfold qR16_13; obtain ⟨c0, c1, c2, d0, d1, d2⟩ := hSw; go_simp) hHeld ?_
              try simp only [pt, List.set]
              refine regY tR16_14 (.pointer (some ⟨w.heap.size, 1, none⟩)) (fun W hSw => by unfold qR16_14; go_simp) hHeld ?_
              try simp only [pt, List.set]
              refine regY tR16_15 (.int .i64 p1) (fun W hSw => by unfold qR16_15; obtain ⟨c0, c1, c2, d0, d1, d2⟩ := hSw; go_simp) hHeld ?_
              try simp only [pt, List.set]
              refine regY tR16_16 (.bool false) (fun W hSw => by unfold qR16_16; go_simp) hHeld ?_
              try simp only [pt, List.set]
              refine regY tR16_17 (.bool false) (fun W hSw => by unfold qR16_17; go_simp) hHeld ?_
              try simp only [pt, List.set]
              refine regY tR16_18 (.bool false) (fun W hSw => by unfold qR16_18; go_simp) hHeld ?_
              try simp only [pt, List.set]
              refine regY tR16_19 (.slice (some ⟨b1, o1, none⟩) n c) (fun W hSw => by unfold qR16_19; go_simp) hHeld ?_
              try simp only [pt, List.set]
              refine regY tR16_20 (.int .i64 (k : Int)) (fun W hSw => by unfold qR16_20; go_simp) hHeld ?_
              try simp only [pt, List.set]
              refine regY tR16_21 (.pointer (some ⟨b1, o1 + k * 4, none⟩)) (fun W hSw => by unfold qR16_21; go_simp) hHeld ?_
              try simp only [pt, List.set]
              refine regY tR16_22 (.pointer (some ⟨b1, o1 + k * 4 + 2, none⟩)) (fun W hSw => by unfold qR16_22; go_simp) hHeld ?_
              try simp only [pt, List.set]
              refine regY tR16_23 (.int .i64 p2) (fun W hSw => by unfold qR16_23; obtain ⟨c0, c1, c2, d0, d1, d2⟩ := hSw; go_simp) hHeld ?_
              try simp only [pt, List.set]
              refine regY tR16_24 (.pointer (some ⟨w.heap.size, 2, none⟩)) (fun W hSw => by unfold qR16_24; go_simp) hHeld ?_
              try simp only [pt, List.set]
              refine regY tR16_25 (.int .i64 x2) (fun W hSw => by unfold qR16_25; obtain ⟨c0, c1, c2, d0, d1, d2⟩ := hSw; go_simp) hHeld ?_
              try simp only [pt, List.set]
              refine regY tR16_26 (.bool true) (fun W hSw => by unfold qR16_26; go_simp) hHeld ?_
              try simp only [pt, List.set]
              refine regY tR16_27 (.bool true) (fun W hSw => by unfold qR16_27; go_simp) hHeld ?_
              try simp only [pt, List.set]
              refine wpAnyH_done (by kernel_rfl) ?_ _
              clear d2
              have BD := Lib.hid HB.out.drew
              have OD := Lib.hid (own_drewN HO.out 1)
              have XD := Lib.hid HX.out.drew
              have BXD := Lib.hid (show w.heap.size + 1 ≤ wr.drew.heap.size from HBX.out)
              have e0' := drew_keep e0
              have e1' := drew_keep e1
              have e2' := drew_keep e2
              have e3' := drew_keep e3
              obtain ⟨V, hV⟩ : ∃ z, wr.drew = z := ⟨_, rfl⟩
              rw [show wr.drewN 1 = wr.drew from rfl] at OD
              rw [hV] at BD OD XD BXD e0' e1' e2' e3' ⊢
              clear e0 e1 e2 e3 hV hHeld PXR HO HB HX
              go_wp2_with (at_builtin; refine wpList_append_ce rfl (.tmp 83) (.tmp 88) (by rfl) (w.heap.size + 1) _ m out (by rfl) (OD.out.alloc _) (some ⟨V.heap.size, 0, none⟩) 1 1 [(p0, p1, p2, p3)] (by rfl) (fun h => by cases h) rfl (ce_new V p0 p1 p2 p3) (by omega) (by have h2 := BXD.out; simp; omega) ?_; intro v8 w8 own8 gr8)
              have hb8 := (BD.out.alloc BD.out.size _).grown gr8 (Nat.le_trans BD.out.size (by simp)) (fun j hj => Nat.le_trans (Nat.le_succ _) (own_ge OD.out j hj))
              have X8 := Lib.hid ((XD.out.below ((Below.refl _ _).alloc (Nat.le_refl _) _)).grown gr8 (fun hj => by have := own_ge OD.out _ hj; omega))
              have BX8 := Lib.hid (show w.heap.size + 1 ≤ w8.heap.size by have h1 := gr8.size; have h2 := BXD.out; simp at h1; omega)
              have O8 := Lib.hid own8
              have B8 := Lib.hid hb8
              clear own8 gr8 hb8
              go_wp2
              go_roundw
              case rel => exact ⟨k + 1, m + 1, out ++ [(p0, p1, p2, p3)], by omega, by simp [ML.out], HS.out, by go_num, O8.out, B8.out, X8.out, BX8.out⟩
              case measure => simp [intOf]; omega
            subst h2
            have HS := Lib.hid (show out = delC (zs.take (k + 1)) (p0, p1, p2, x3) by rw [ST.out]; simp [keyC])
            clear ST
            go_wp2_with fail
            refine wp_region_held_drew (S := PX b1 (o1 + k * 4) p0 p1 p2 w.heap.size p0 p1 p2) (by kernel_rfl) ?_ (fun hHeld => ?_)
            · skip
              exact PXR.out.drew
            change wpAnyH _ _ opsR16 _ _ 28 (LR16 0) _ _
            refine regY tR16_0 (.slice (some ⟨b1, o1, none⟩) n c) (fun W hSw => by unfold qR16_0; go_simp) hHeld ?_
            try simp only [pt, List.set]
            refine regY tR16_1 (.int .i64 (k : Int)) (fun W hSw => by unfold qR16_1; go_simp) hHeld ?_
            try simp only [pt, List.set]
            refine regY tR16_2 (.pointer (some ⟨b1, o1 + k * 4, none⟩)) (fun W hSw => by unfold qR16_2; go_simp) hHeld ?_
            try simp only [pt, List.set]
            refine regY tR16_3 (.pointer (some ⟨b1, o1 + k * 4, none⟩)) (fun W hSw => by unfold qR16_3; go_simp) hHeld ?_
            try simp only [pt, List.set]
            refine regY tR16_4 (.int .i64 p0) (fun W hSw => by unfold qR16_4; obtain ⟨c0, c1, c2, d0, d1, d2⟩ := hSw; go_simp) hHeld ?_
            try simp only [pt, List.set]
            refine regY tR16_5 (.pointer (some ⟨w.heap.size, 0, none⟩)) (fun W hSw => by unfold qR16_5; go_simp) hHeld ?_
            try simp only [pt, List.set]
            refine regY tR16_6 (.int .i64 p0) (fun W hSw => by unfold qR16_6; obtain ⟨c0, c1, c2, d0, d1, d2⟩ := hSw; go_simp) hHeld ?_
            try simp only [pt, List.set]
            refine regY tR16_7 (.bool false) (fun W hSw => by unfold qR16_7; go_simp) hHeld ?_
            try simp only [pt, List.set]
            refine regY tR16_8 (.bool false) (fun W hSw => by unfold qR16_8; go_simp) hHeld ?_
            try simp only [pt, List.set]
            refine regY tR16_9 (.slice (some ⟨b1, o1, none⟩) n c) (fun W hSw => by unfold qR16_9; go_simp) hHeld ?_
            try simp only [pt, List.set]
            refine regY tR16_10 (.int .i64 (k : Int)) (fun W hSw => by unfold qR16_10; go_simp) hHeld ?_
            try simp only [pt, List.set]
            refine regY tR16_11 (.pointer (some ⟨b1, o1 + k * 4, none⟩)) (fun W hSw => by unfold qR16_11; go_simp) hHeld ?_
            try simp only [pt, List.set]
            refine regY tR16_12 (.pointer (some ⟨b1, o1 + k * 4 + 1, none⟩)) (fun W hSw => by unfold qR16_12; go_simp) hHeld ?_
            try simp only [pt, List.set]
            refine regY tR16_13 (.int .i64 p1) (fun W hSw => by unfold qR16_13; obtain ⟨c0, c1, c2, d0, d1, d2⟩ := hSw; go_simp) hHeld ?_
            try simp only [pt, List.set]
            refine regY tR16_14 (.pointer (some ⟨w.heap.size, 1, none⟩)) (fun W hSw => by unfold qR16_14; go_simp) hHeld ?_
            try simp only [pt, List.set]
            refine regY tR16_15 (.int .i64 p1) (fun W hSw => by unfold qR16_15; obtain ⟨c0, c1, c2, d0, d1, d2⟩ := hSw; go_simp) hHeld ?_
            try simp only [pt, List.set]
            refine regY tR16_16 (.bool false) (fun W hSw => by unfold qR16_16; go_simp) hHeld ?_
            try simp only [pt, List.set]
            refine regY tR16_17 (.bool false) (fun W hSw => by unfold qR16_17; go_simp) hHeld ?_
            try simp only [pt, List.set]
            refine regY tR16_18 (.bool false) (fun W hSw => by unfold qR16_18; go_simp) hHeld ?_
            try simp only [pt, List.set]
            refine regY tR16_19 (.slice (some ⟨b1, o1, none⟩) n c) (fun W hSw => by unfold qR16_19; go_simp) hHeld ?_
            try simp only [pt, List.set]
            refine regY tR16_20 (.int .i64 (k : Int)) (fun W hSw => by unfold qR16_20; go_simp) hHeld ?_
            try simp only [pt, List.set]
            refine regY tR16_21 (.pointer (some ⟨b1, o1 + k * 4, none⟩)) (fun W hSw => by unfold qR16_21; go_simp) hHeld ?_
            try simp only [pt, List.set]
            refine regY tR16_22 (.pointer (some ⟨b1, o1 + k * 4 + 2, none⟩)) (fun W hSw => by unfold qR16_22; go_simp) hHeld ?_
            try simp only [pt, List.set]
            refine regY tR16_23 (.int .i64 p2) (fun W hSw => by unfold qR16_23; obtain ⟨c0, c1, c2, d0, d1, d2⟩ := hSw; go_simp) hHeld ?_
            try simp only [pt, List.set]
            refine regY tR16_24 (.pointer (some ⟨w.heap.size, 2, none⟩)) (fun W hSw => by unfold qR16_24; go_simp) hHeld ?_
            try simp only [pt, List.set]
            refine regY tR16_25 (.int .i64 p2) (fun W hSw => by unfold qR16_25; obtain ⟨c0, c1, c2, d0, d1, d2⟩ := hSw; go_simp) hHeld ?_
            try simp only [pt, List.set]
            refine regY tR16_26 (.bool false) (fun W hSw => by unfold qR16_26; go_simp) hHeld ?_
            try simp only [pt, List.set]
            refine regY tR16_27 (.bool false) (fun W hSw => by unfold qR16_27; go_simp) hHeld ?_
            try simp only [pt, List.set]
            refine wpAnyH_done (by kernel_rfl) ?_ _
            have BD := Lib.hid HB.out.drew
            have OD := Lib.hid (own_drewN HO.out 1)
            have XD := Lib.hid HX.out.drew
            clear hHeld PXR HO HB HX e0 e1 e2 e3
            go_wp2
            go_roundw
            case rel => exact ⟨k + 1, m, out, by omega, ML.out, HS.out, by go_num, OD.out, BD.out, XD.out, HBX.out⟩
            case measure => simp [intOf]; omega
          · have hfin : out = delC zs (x0, x1, x2, x3) := by
              have h3 := HU.out
              rw [List.take_of_length_le (by rw [HZ.out]; omega)] at h3
              exact h3
            obtain ⟨A3, c4, rfl, hl3, s3⟩ := Ces.of_own HO.out
            have N3 := own_nil HO.out
            have C3 := own_capS HO.out
            have S3 := Lib.hid s3
            have C := Lib.hid (specPut_any m out ML.out A3 c4 N3 C3 x0 x1 x2 x3 wr s3 (by omega))
            have HE := Lib.hid hfin
            have c0 := HX.out.c0
            have c1 := HX.out.c1
            have c2 := HX.out.c2
            have c3 := HX.out.c3
            clear hfin hl3 s3 N3 C3 HU
            go_wp2_with fail
            refine C.out.mono ?_
            rintro e w5 ⟨v5, rfl, o5, b5⟩
            rw [HE.out] at o5
            have O5 := Lib.hid (own_base o5 HB.out.size)
            have B5 := Lib.hid (below_chain HB.out b5)
            clear o5 b5 c0 c1 c2 c3 C
            go_wp2
            exact bodyPost_ret (v := .tuple #[v5, .bool true]) (by simp [results, Try.results58, go_sem]) rfl ⟨v5, by rw [HF.out], by rw [HF.out]; exact O5.out, B5.out⟩

set_option maxRecDepth 1000000 in
set_option maxHeartbeats 16000000 in
theorem specRec6_any (n : Nat) (zs : List Ce) (hz : zs.length = n) (A : Option Addr) (c : Nat) (hA : A = none → c = 0) (hc : n ≤ c) (x0 x1 x2 x3 : Int) (w : World) (h1 : Ces w A zs) (hn : n ≤ 2000000) :
    Calls Try.prog 58 #[.int .i64 6, .slice A n c, .agg #[.int .i64 x0, .int .i64 x1, .int .i64 x2, .int .i64 x3]] w fun e w' => ∃ v, e = .returned (.tuple #[v, .bool (recC 6 zs (x0, x1, x2, x3)).2]) ∧ w'.ownsRow w.heap.size 38 4 v (recC 6 zs (x0, x1, x2, x3)).1.length (ceCells (recC 6 zs (x0, x1, x2, x3)).1) ∧ Below w.heap.size w w' := by
  have H1 := Lib.hid h1
  have HZ := Lib.hid hz
  have HA := Lib.hid hA
  have HC := Lib.hid hc
  clear h1 hz hA hc
  obtain ⟨V, hV⟩ : ∃ z, w.alloc (.cells #[.int .i64 x0, .int .i64 x1, .int .i64 x2, .int .i64 x3] 38) = z := ⟨_, rfl⟩
  have BV := Lib.hid (show Below w.heap.size w V by rw [← hV]; exact (Below.refl _ _).alloc (Nat.le_refl _) _)
  have XV := Lib.hid (show XB w.heap.size x0 x1 x2 x3 V by rw [← hV]; exact XB.new _ _ _ _ _)
  have BXV := Lib.hid (show w.heap.size + 1 ≤ V.heap.size by rw [← hV]; simp)
  have c0 := XV.out.c0
  have c1 := XV.out.c1
  have c2 := XV.out.c2
  have c3 := XV.out.c3
  have LIT := Lib.hid (World.ownsRow_lit (base := w.heap.size + 1) (e := 38) (size := 4) V #[] 0 BXV.out (by decide) (by rfl))
  have BA := Lib.hid (BV.out.alloc BV.out.size (.cells #[] 38))
  have BA2 := Lib.hid (show w.heap.size + 1 ≤ (V.alloc (.cells #[] 38)).heap.size by have := BXV.out; simp; omega)
  cases hh : hasC zs (x0, x1, x2, x3) with
  | true =>
    have E := Lib.hid (fun W (h : Ces W A zs) => specHas_is (c := c) HZ.out hh (by omega) W h)
    have HF := Lib.hid (show recC 6 zs (x0, x1, x2, x3) = (zs, false) by simp [recC, hh])
    clear hh
    go_enter Try.func58, Try.ntmps58
    go_wp2_with (at_builtin; refine wpList_append_ce rfl (.tmp 13) (.tmp 14) (by rfl) (w.heap.size + 1) (.slice (some ⟨V.heap.size, 0, none⟩) 0 0) 0 [] (by rfl) LIT.out A n c zs (by rfl) HA.out HZ.out (H1.out.below BA.out) (by omega) BA2.out ?_; intro vs w2 own gr; generalize hG : wpList _ _ _ _ _ _ = G)
    have hbg := BA.out.grown gr BA.out.size (fun j hj => Nat.le_trans (Nat.le_succ _) (own_ge LIT.out j hj))
    rw [Nat.zero_add, List.nil_append] at own
    have B2 := Lib.hid hbg
    have X2 := Lib.hid ((XV.out.below ((Below.refl _ _).alloc (Nat.le_refl _) (.cells #[] 38))).grown gr (fun hj => by have := own_ge LIT.out _ hj; omega))
    have BX2 := Lib.hid (show w.heap.size + 1 ≤ w2.heap.size by have h1 := gr.size; have h2 := BXV.out; simp at h1; omega)
    have O2 := Lib.hid own
    clear own gr hbg LIT BA BA2 hV c0 c1 c2 c3 XV BXV BV
    have c0 := X2.out.c0
    have c1 := X2.out.c1
    have c2 := X2.out.c2
    have c3 := X2.out.c3
    subst hG
    go_wp2_with fail
    refine (E.out _ (H1.out.below B2.out)).mono ?_
    rintro e w3 ⟨rfl, b3⟩
    have B3 := Lib.hid (below_chain B2.out b3)
    have O3 := Lib.hid (own_below O2.out b3)
    clear b3 E c0 c1 c2 c3
    go_wp2
    exact bodyPost_ret (v := .tuple #[vs, .bool false]) (by simp [results, Try.results58, go_sem]) rfl ⟨vs, by rw [HF.out], by rw [HF.out]; simp only [HZ.out]; exact own_base O3.out (Nat.le_succ _), B3.out⟩
  | false =>
    have E := Lib.hid (fun W (h : Ces W A zs) => specHas_is (c := c) HZ.out hh (by omega) W h)
    have HF := Lib.hid (show recC 6 zs (x0, x1, x2, x3) = (putC zs (x0, x1, x2, x3), true) by simp [recC, hh])
    clear hh
    go_enter Try.func58, Try.ntmps58
    go_wp2_with (at_builtin; refine wpList_append_ce rfl (.tmp 13) (.tmp 14) (by rfl) (w.heap.size + 1) (.slice (some ⟨V.heap.size, 0, none⟩) 0 0) 0 [] (by rfl) LIT.out A n c zs (by rfl) HA.out HZ.out (H1.out.below BA.out) (by omega) BA2.out ?_; intro vs w2 own gr; generalize hG : wpList _ _ _ _ _ _ = G)
    have hbg := BA.out.grown gr BA.out.size (fun j hj => Nat.le_trans (Nat.le_succ _) (own_ge LIT.out j hj))
    rw [Nat.zero_add, List.nil_append] at own
    have B2 := Lib.hid hbg
    have X2 := Lib.hid ((XV.out.below ((Below.refl _ _).alloc (Nat.le_refl _) (.cells #[] 38))).grown gr (fun hj => by have := own_ge LIT.out _ hj; omega))
    have BX2 := Lib.hid (show w.heap.size + 1 ≤ w2.heap.size by have h1 := gr.size; have h2 := BXV.out; simp at h1; omega)
    have O2 := Lib.hid own
    clear own gr hbg LIT BA BA2 hV c0 c1 c2 c3 XV BXV BV
    have c0 := X2.out.c0
    have c1 := X2.out.c1
    have c2 := X2.out.c2
    have c3 := X2.out.c3
    subst hG
    go_wp2_with fail
    refine (E.out _ (H1.out.below B2.out)).mono ?_
    rintro e w3 ⟨rfl, b3⟩
    have B3 := Lib.hid (below_chain B2.out b3)
    have X3 := Lib.hid (X2.out.below b3)
    clear b3 E c0 c1 c2 c3
    have c0 := X3.out.c0
    have c1 := X3.out.c1
    have c2 := X3.out.c2
    have c3 := X3.out.c3
    go_wp2_with fail
    refine (specPut_any n zs HZ.out A c HA.out HC.out x0 x1 x2 x3 w3 (H1.out.below B3.out) (by omega)).mono ?_
    rintro e w5 ⟨v5, rfl, o5, b5⟩
    have O5 := Lib.hid (own_base o5 B3.out.size)
    have B5 := Lib.hid (below_chain B3.out b5)
    clear o5 b5 c0 c1 c2 c3
    go_wp2
    exact bodyPost_ret (v := .tuple #[v5, .bool true]) (by simp [results, Try.results58, go_sem]) rfl ⟨v5, by rw [HF.out], by rw [HF.out]; exact O5.out, B5.out⟩

set_option maxRecDepth 1000000 in
set_option maxHeartbeats 16000000 in
theorem specRec_any (kd : Int) (n : Nat) (zs : List Ce) (hz : zs.length = n) (A : Option Addr) (c : Nat) (hA : A = none → c = 0) (hc : n ≤ c) (x0 x1 x2 x3 : Int) (w : World) (h1 : Ces w A zs) (hn : n ≤ 2000000) :
    Calls Try.prog 58 #[.int .i64 kd, .slice A n c, .agg #[.int .i64 x0, .int .i64 x1, .int .i64 x2, .int .i64 x3]] w fun e w' => ∃ v, e = .returned (.tuple #[v, .bool (recC kd zs (x0, x1, x2, x3)).2]) ∧ w'.ownsRow w.heap.size 38 4 v (recC kd zs (x0, x1, x2, x3)).1.length (ceCells (recC kd zs (x0, x1, x2, x3)).1) ∧ Below w.heap.size w w' := by
  by_cases k6 : kd = 6
  · subst k6; exact specRec6_any n zs hz A c hA hc x0 x1 x2 x3 w h1 hn
  by_cases k5 : kd = 5
  · subst k5; exact specRec58_any 5 (.inl rfl) n zs hz A c hA hc x0 x1 x2 x3 w h1 hn
  by_cases k8 : kd = 8
  · subst k8; exact specRec58_any 8 (.inr rfl) n zs hz A c hA hc x0 x1 x2 x3 w h1 hn
  have HF := Lib.hid (show recC kd zs (x0, x1, x2, x3) = (zs, true) by simp [recC, k6, k5, k8])
  have d6 : (kd == 6) = false := by simpa using k6
  have d5 : (kd == 5) = false := by simpa using k5
  have d8 : (kd == 8) = false := by simpa using k8
  clear k6 k5 k8
  have H1 := Lib.hid h1
  have HZ := Lib.hid hz
  have HA := Lib.hid hA
  have HC := Lib.hid hc
  clear h1 hz hA hc
  obtain ⟨V, hV⟩ : ∃ z, w.alloc (.cells #[.int .i64 x0, .int .i64 x1, .int .i64 x2, .int .i64 x3] 38) = z := ⟨_, rfl⟩
  have BV := Lib.hid (show Below w.heap.size w V by rw [← hV]; exact (Below.refl _ _).alloc (Nat.le_refl _) _)
  have XV := Lib.hid (show XB w.heap.size x0 x1 x2 x3 V by rw [← hV]; exact XB.new _ _ _ _ _)
  have BXV := Lib.hid (show w.heap.size + 1 ≤ V.heap.size by rw [← hV]; simp)
  have c0 := XV.out.c0
  have c1 := XV.out.c1
  have c2 := XV.out.c2
  have c3 := XV.out.c3
  have LIT := Lib.hid (World.ownsRow_lit (base := w.heap.size + 1) (e := 38) (size := 4) V #[] 0 BXV.out (by decide) (by rfl))
  have BA := Lib.hid (BV.out.alloc BV.out.size (.cells #[] 38))
  have BA2 := Lib.hid (show w.heap.size + 1 ≤ (V.alloc (.cells #[] 38)).heap.size by have := BXV.out; simp; omega)
  go_enter Try.func58, Try.ntmps58
  go_wp2_with (at_builtin; refine wpList_append_ce rfl (.tmp 13) (.tmp 14) (by rfl) (w.heap.size + 1) (.slice (some ⟨V.heap.size, 0, none⟩) 0 0) 0 [] (by rfl) LIT.out A n c zs (by rfl) HA.out HZ.out (H1.out.below BA.out) (by omega) BA2.out ?_; intro vs w2 own gr; generalize hG : wpList _ _ _ _ _ _ = G)
  have hbg := BA.out.grown gr BA.out.size (fun j hj => Nat.le_trans (Nat.le_succ _) (own_ge LIT.out j hj))
  rw [Nat.zero_add, List.nil_append] at own
  have B2 := Lib.hid hbg
  have X2 := Lib.hid ((XV.out.below ((Below.refl _ _).alloc (Nat.le_refl _) (.cells #[] 38))).grown gr (fun hj => by have := own_ge LIT.out _ hj; omega))
  have BX2 := Lib.hid (show w.heap.size + 1 ≤ w2.heap.size by have h1 := gr.size; have h2 := BXV.out; simp at h1; omega)
  have O2 := Lib.hid own
  clear own gr hbg LIT BA BA2 hV c0 c1 c2 c3 XV BXV BV
  have c0 := X2.out.c0
  have c1 := X2.out.c1
  have c2 := X2.out.c2
  have c3 := X2.out.c3
  subst hG
  clear c0 c1 c2 c3
  go_wp2
  exact bodyPost_ret (v := .tuple #[vs, .bool true]) (by simp [results, Try.results58, go_sem]) rfl ⟨vs, by rw [HF.out], by rw [HF.out]; simp only [HZ.out]; exact own_base O2.out (Nat.le_succ _), B2.out⟩
end Go.Proofs.Ytbbagpnjjjohpaa.hexes

