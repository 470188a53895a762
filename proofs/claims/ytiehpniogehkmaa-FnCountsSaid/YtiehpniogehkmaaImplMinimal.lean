/-
  The program's Minimal: the contracts of impl.minimalOf and impl.Minimal.
-/
import Derived.Test.YtiehpniogehkmaaSortSt
import Derived.Test.YtiehpniogehkmaaImplFront
import Derived.Test.YtiehpniogehkmaaDrawFrontBase
import Derived.Test.YtiehpniogehkmaaRegN7
namespace Go.Proofs.Ytiehpniogehkmaa.hexes
open Go.RowKit

structure One (b : Nat) (p q : Int) (w' : World) : Prop where
  c0 : w'.cell? ⟨b, 0, none⟩ = some (.int .i64 p)
  c1 : w'.cell? ⟨b, 1, none⟩ = some (.int .i64 q)
theorem One.drew {b : Nat} {p q : Int} {w' : World} (h : One b p q w') : One b p q w'.drew := ⟨h.c0, h.c1⟩

theorem own_drew {W : World} {B e size n : Nat} {v : Value} {xs : List Value} (h : W.ownsRow B e size v n xs) : W.drew.ownsRow B e size v n xs := h

theorem scanStep_nil (z : Int × Int) : scanStep [] z = [] ++ [z] := rfl
theorem scanStep_at {out : List (Int × Int)} {j : Nat} {r s : Int} (hj : out.length = j + 1) (h : out[j]'(by omega) = (r, s)) (z : Int × Int) : scanStep out z = if leqSt r s z.1 z.2 = true then out else out ++ [z] := by
  have : out.getLast? = some (r, s) := by rw [List.getLast?_eq_getElem?, hj, Nat.add_sub_cancel, List.getElem?_eq_getElem (by omega), h]
  unfold scanStep
  rw [this]

set_option maxRecDepth 1000000 in
set_option maxHeartbeats 4000000 in
theorem implMinOf_any (n : Nat) (zs : List (Int × Int)) (hz : zs.length = n) (A : Option Addr) (c : Nat) (hA : A = none → c = 0) (w : World) (h1 : Sts w A zs) (hn : n ≤ 4194304) :
    Calls Try.prog 67 #[.slice A n c] w fun e w' => ∃ v, e = .returned v ∧ w'.ownsRow w.heap.size 26 2 v (minL zs).length (stCells (minL zs)) ∧ Below w.heap.size w w' := by
  have H1 := Lib.hid h1
  have HZ := Lib.hid hz
  have HA := Lib.hid hA
  clear h1 hz hA
  go_enter Try.func67, Try.ntmps67
  go_wp2_with fail
  refine (clone_any n zs HZ.out A c HA.out w H1.out hn).mono ?_
  rintro e w1 ⟨v1, rfl, o1, b1⟩
  have O1 := Lib.hid o1
  have B1 := Lib.hid b1
  clear o1 b1 HA H1
  go_wp2_with fail
  refine (sortSt_own n zs HZ.out hn _ v1 w1 O1.out).mono ?_
  rintro e w2 ⟨rfl, ys, A2, c2, rfl, hyl, hmem, hasc, s2, g2⟩
  have B2 := Lib.hid (B1.out.grown g2 B1.out.size (own_ge O1.out))
  have YL := Lib.hid hyl
  have HM := Lib.hid hmem
  have HS := Lib.hid hasc
  have S2 := Lib.hid s2
  clear hyl hmem hasc s2 g2 B1 O1
  go_wp2
  go_loopw [4, 14] (fun v i wr => ∃ (k m : Nat) (out : List (Int × Int)) (g c3 : Nat), k ≤ n ∧ out.length = m ∧ i = .int .i64 k ∧ v = .slice (some ⟨g, 0, none⟩) m c3 ∧ out = (ys.take k).foldl scanStep [] ∧ wr.ownsRow w2.heap.size 26 2 (.slice (some ⟨g, 0, none⟩) m c3) m (stCells out) ∧ Below w2.heap.size w2 wr) (fun _ i _ => n - (intOf i).toNat)
  case atStart => exact ⟨0, 0, [], w2.heap.size, 0, Nat.zero_le _, rfl, rfl, rfl, rfl, World.ownsRow_lit w2 #[] 0 (Nat.le_refl _) (by decide) rfl, (Below.refl _ _).alloc (Nat.le_refl _) _⟩
  case round =>
    obtain ⟨k, m, out, g, c3, hk, hml, rfl, rfl, hout, hown, hb⟩ := hrel
    have HO := Lib.hid hown
    have HB := Lib.hid hb
    have HU := Lib.hid hout
    have ML := Lib.hid hml
    clear hown hb hout hml
    by_cases hlt : k < n
    · have l1 : k < ys.length := by rw [YL.out]; exact hlt
      obtain ⟨b, off, p, q, rfl, x1, e1, e2⟩ := (S2.out.below HB.out).at l1
      have hmk : m ≤ k := by
        have := scan_length (ys.take k) []
        rw [← HU.out, ML.out] at this
        simp only [List.length_nil, List.length_take] at this
        omega
      have X1 := Lib.hid x1
      have k0 : (0 : Int) ≤ (k : Int) := by omega
      have k1 : (k : Int) < (n : Int) := by omega
      have hstep : scanStep out (p, q) = (ys.take (k + 1)).foldl scanStep [] := by rw [scan_step l1, ← HU.out, X1.out]
      have BA := Lib.hid (HB.out.alloc HB.out.size (.cells #[.int .i64 p, .int .i64 q] 26))
      have OA := Lib.hid (HO.out.alloc (.cells #[.int .i64 p, .int .i64 q] 26))
      have a0 : (wr.alloc (.cells #[.int .i64 p, .int .i64 q] 26)).cell? ⟨wr.heap.size, 0, none⟩ = some (.int .i64 p) := alloc_cells rfl rfl
      have a1 : (wr.alloc (.cells #[.int .i64 p, .int .i64 q] 26)).cell? ⟨wr.heap.size, 1, none⟩ = some (.int .i64 q) := alloc_cells rfl rfl
      have O1 := Lib.hid (show One wr.heap.size p q (wr.alloc (.cells #[.int .i64 p, .int .i64 q] 26)) from ⟨a0, a1⟩)
      clear x1 X1
      by_cases hm0 : m = 0
      · have hd : ((m : Int) == 0) = true := by simp; omega
        have hst : out ++ [(p, q)] = (ys.take (k + 1)).foldl scanStep [] := by
          obtain rfl := List.eq_nil_of_length_eq_zero (ML.out.trans hm0)
          exact hstep
        have HST := Lib.hid hst
        clear hstep hst a0 a1 l1 hm0
        go_wp2_with fail
        refine wp_region_held_drew (S := One wr.heap.size p q) (by kernel_rfl) ?_ (fun hHeld => ?_)
        · skip
          exact O1.out.drew
        change wpAnyH _ _ opsN7 _ _ 14 (LN7 0) _ _
        refine tN7_0 (.slice (some ⟨g, 0, none⟩) m c3) (fun _ _ _ h => h) (Or.inl ⟨by rfl, fun W hSw => ?_⟩) hHeld ?_
        · skip
          unfold qN7_0
          go_simp
        try simp only [Act.put, List.setIfInBounds_toArray, List.set_cons_zero, List.set_cons_succ]
        refine tN7_1 (.int .i64 (m : Int)) (fun _ _ _ h => h) (Or.inl ⟨by rfl, fun W hSw => ?_⟩) hHeld ?_
        · skip
          unfold qN7_1
          go_simp
        try simp only [Act.put, List.setIfInBounds_toArray, List.set_cons_zero, List.set_cons_succ]
        refine tN7_2 (.bool true) (fun _ _ _ h => h) (Or.inl ⟨by rfl, fun W hSw => ?_⟩) hHeld ?_
        · skip
          unfold qN7_2
          go_simp
        try simp only [Act.put, List.setIfInBounds_toArray, List.set_cons_zero, List.set_cons_succ]
        refine tN7_3 (.bool true) (fun _ _ _ h => h) (Or.inl ⟨by rfl, fun W hSw => ?_⟩) hHeld ?_
        · skip
          unfold qN7_3
          go_simp
        try simp only [Act.put, List.setIfInBounds_toArray, List.set_cons_zero, List.set_cons_succ]
        refine tN7_4 undef (fun _ _ _ h => h) (Or.inr ⟨by rfl, rfl⟩) hHeld ?_
        try simp only [Act.put, List.setIfInBounds_toArray, List.set_cons_zero, List.set_cons_succ]
        refine tN7_5 undef (fun _ _ _ h => h) (Or.inr ⟨by rfl, rfl⟩) hHeld ?_
        try simp only [Act.put, List.setIfInBounds_toArray, List.set_cons_zero, List.set_cons_succ]
        refine tN7_6 undef (fun _ _ _ h => h) (Or.inr ⟨by rfl, rfl⟩) hHeld ?_
        try simp only [Act.put, List.setIfInBounds_toArray, List.set_cons_zero, List.set_cons_succ]
        refine tN7_7 undef (fun _ _ _ h => h) (Or.inr ⟨by rfl, rfl⟩) hHeld ?_
        try simp only [Act.put, List.setIfInBounds_toArray, List.set_cons_zero, List.set_cons_succ]
        refine tN7_8 undef (fun _ _ _ h => h) (Or.inr ⟨by rfl, rfl⟩) hHeld ?_
        try simp only [Act.put, List.setIfInBounds_toArray, List.set_cons_zero, List.set_cons_succ]
        refine tN7_9 undef (fun _ _ _ h => h) (Or.inr ⟨by rfl, rfl⟩) hHeld ?_
        try simp only [Act.put, List.setIfInBounds_toArray, List.set_cons_zero, List.set_cons_succ]
        refine tN7_10 undef (fun _ _ _ h => h) (Or.inr ⟨by rfl, rfl⟩) hHeld ?_
        try simp only [Act.put, List.setIfInBounds_toArray, List.set_cons_zero, List.set_cons_succ]
        refine tN7_11 undef (fun _ _ _ h => h) (Or.inr ⟨by rfl, rfl⟩) hHeld ?_
        try simp only [Act.put, List.setIfInBounds_toArray, List.set_cons_zero, List.set_cons_succ]
        refine tN7_12 undef (fun _ _ _ h => h) (Or.inr ⟨by rfl, rfl⟩) hHeld ?_
        try simp only [Act.put, List.setIfInBounds_toArray, List.set_cons_zero, List.set_cons_succ]
        refine tN7_13 (Value.bool true) (fun _ _ _ h => h) (Or.inl ⟨by rfl, fun W hSw => ?_⟩) hHeld ?_
        · skip
          unfold qN7_13
          go_simp
        try simp only [Act.put, List.setIfInBounds_toArray, List.set_cons_zero, List.set_cons_succ]
        refine wpAnyH_done (by kernel_rfl) ?_ _
        have B5 := Lib.hid BA.out.drew
        have O5 := Lib.hid (own_drew OA.out)
        have a0 : (wr.alloc (.cells #[.int .i64 p, .int .i64 q] 26)).drew.cell? ⟨wr.heap.size, 0, none⟩ = some (.int .i64 p) := O1.out.drew.c0
        have a1 : (wr.alloc (.cells #[.int .i64 p, .int .i64 q] 26)).drew.cell? ⟨wr.heap.size, 1, none⟩ = some (.int .i64 q) := O1.out.drew.c1
        generalize (wr.alloc (.cells #[.int .i64 p, .int .i64 q] 26)).drew = V at B5 O5 a0 a1 ⊢
        clear hd e1 e2 O1 OA BA
        go_wp2_with (at_builtin; refine wpList_append_sts rfl (.tmp 32) (.tmp 34) (by rfl) w2.heap.size (.slice (some ⟨g, 0, none⟩) m c3) m out (by rfl) (O5.out.alloc _) (some ⟨V.heap.size, 0, none⟩) 1 1 [(p, q)] (by rfl) (fun h => by cases h) rfl (sts_new V p q) (by omega) (Nat.le_trans B5.out.size (by simp)) ?_; intro v8 w8 own8 gr8)
        have hb8 := (B5.out.alloc B5.out.size _).grown gr8 (Nat.le_trans B5.out.size (by simp)) (own_ge O5.out)
        obtain ⟨A8, c8, rfl, hA8⟩ := own_form own8
        obtain ⟨g8, rfl⟩ := hA8 (by omega)
        have O8 := Lib.hid own8
        have B8 := Lib.hid hb8
        clear own8 gr8 hb8 hA8
        go_wp2
        go_roundw
        case rel => exact ⟨k + 1, m + 1, out ++ [(p, q)], g8, c8, by omega, by simp [ML.out], by go_num, rfl, HST.out, O8.out, B8.out⟩
        case measure => simp [intOf]; omega
      · obtain ⟨j, hj⟩ : ∃ j, m = j + 1 := ⟨m - 1, by omega⟩
        have hd : ((m : Int) == 0) = false := by simp; omega
        have hsub : (m : Int) - 1 = (j : Int) := by omega
        have hwr : IntKind.i64.wrap (j : Int) = (j : Int) := IntWalk.i64_in _ (by omega)
        obtain ⟨r, s, xj, d0, d1⟩ := own_at2 HO.out (j := j) (by rw [ML.out]; omega)
        rw [scanStep_at (ML.out.trans hj) xj] at hstep
        have T1 := Lib.hid (show Two g (j * 2) r s wr.heap.size 0 p q (wr.alloc (.cells #[.int .i64 p, .int .i64 q] 26)) from ⟨alloc_keep d0, alloc_keep d1, a0, a1⟩)
        have j0 : (0 : Int) ≤ (j : Int) := by omega
        have j1 : (j : Int) < (m : Int) := by omega
        clear d0 d1 xj a0 a1 l1 hm0 hj
        cases hq : leqSt r s p q with
        | true =>
          rw [if_pos hq] at hstep
          have HST := Lib.hid hstep
          have E := Lib.hid (fun W => implLeq_is hq W)
          clear hstep hq
          go_wp2_with fail
          refine wp_region_held_drew (S := Two g (j * 2) r s wr.heap.size 0 p q) (by kernel_rfl) ?_ (fun hHeld => ?_)
          · skip
            exact T1.out.drew
          change wpAnyH _ _ opsN7 _ _ 14 (LN7 0) _ _
          refine tN7_0 (.slice (some ⟨g, 0, none⟩) m c3) (fun _ _ _ h => h) (Or.inl ⟨by rfl, fun W hSw => ?_⟩) hHeld ?_
          · skip
            unfold qN7_0
            go_simp
          try simp only [Act.put, List.setIfInBounds_toArray, List.set_cons_zero, List.set_cons_succ]
          refine tN7_1 (.int .i64 (m : Int)) (fun _ _ _ h => h) (Or.inl ⟨by rfl, fun W hSw => ?_⟩) hHeld ?_
          · skip
            unfold qN7_1
            go_simp
          try simp only [Act.put, List.setIfInBounds_toArray, List.set_cons_zero, List.set_cons_succ]
          refine tN7_2 (.bool false) (fun _ _ _ h => h) (Or.inl ⟨by rfl, fun W hSw => ?_⟩) hHeld ?_
          · skip
            unfold qN7_2
            go_simp
          try simp only [Act.put, List.setIfInBounds_toArray, List.set_cons_zero, List.set_cons_succ]
          refine tN7_3 (.bool false) (fun _ _ _ h => h) (Or.inl ⟨by rfl, fun W hSw => ?_⟩) hHeld ?_
          · skip
            unfold qN7_3
            go_simp
          try simp only [Act.put, List.setIfInBounds_toArray, List.set_cons_zero, List.set_cons_succ]
          refine tN7_4 (.slice (some ⟨g, 0, none⟩) m c3) (fun _ _ _ h => h) (Or.inl ⟨by rfl, fun W hSw => ?_⟩) hHeld ?_
          · skip
            unfold qN7_4
            go_simp
          try simp only [Act.put, List.setIfInBounds_toArray, List.set_cons_zero, List.set_cons_succ]
          refine tN7_5 (.slice (some ⟨g, 0, none⟩) m c3) (fun _ _ _ h => h) (Or.inl ⟨by rfl, fun W hSw => ?_⟩) hHeld ?_
          · skip
            unfold qN7_5
            go_simp
          try simp only [Act.put, List.setIfInBounds_toArray, List.set_cons_zero, List.set_cons_succ]
          refine tN7_6 (.int .i64 (m : Int)) (fun _ _ _ h => h) (Or.inl ⟨by rfl, fun W hSw => ?_⟩) hHeld ?_
          · skip
            unfold qN7_6
            go_simp
          try simp only [Act.put, List.setIfInBounds_toArray, List.set_cons_zero, List.set_cons_succ]
          refine tN7_7 (.int .i64 (j : Int)) (fun _ _ _ h => h) (Or.inl ⟨by rfl, fun W hSw => ?_⟩) hHeld ?_
          · skip
            unfold qN7_7
            go_simp
          try simp only [Act.put, List.setIfInBounds_toArray, List.set_cons_zero, List.set_cons_succ]
          refine tN7_8 (.pointer (some ⟨g, j * 2, none⟩)) (fun _ _ _ h => h) (Or.inl ⟨by rfl, fun W hSw => ?_⟩) hHeld ?_
          · skip
            unfold qN7_8
            go_simp
          try simp only [Act.put, List.setIfInBounds_toArray, List.set_cons_zero, List.set_cons_succ]
          refine tN7_9 (.agg #[.int .i64 r, .int .i64 s]) (fun _ _ _ h => h) (Or.inl ⟨by rfl, fun W hSw => ?_⟩) hHeld ?_
          · skip
            unfold qN7_9
            obtain ⟨c0, c1, c2, c3⟩ := hSw
            go_simp
          try simp only [Act.put, List.setIfInBounds_toArray, List.set_cons_zero, List.set_cons_succ]
          refine tN7_10 (.agg #[.int .i64 p, .int .i64 q]) (fun _ _ _ h => h) (Or.inl ⟨by rfl, fun W hSw => ?_⟩) hHeld ?_
          · skip
            unfold qN7_10
            obtain ⟨c0, c1, c2, c3⟩ := hSw
            go_simp
          try simp only [Act.put, List.setIfInBounds_toArray, List.set_cons_zero, List.set_cons_succ]
          refine cN7_11 (fun K hK => ?_)
          rw [if_pos (by rfl)]
          unfold qN7_11
          go_simp
          with_reducible refine (E.out _).mono ?_
          rintro e w5 ⟨rfl, hbd⟩
          dsimp only
          refine Shut.out hK _ _ ?_ (fun hHeld => ?_)
          · skip
            exact hHeld.below hbd
          clear hK K
          try simp only [Act.put, List.setIfInBounds_toArray, List.set_cons_zero, List.set_cons_succ]
          refine tN7_12 (.bool false) (fun _ _ _ h => h) (Or.inl ⟨by rfl, fun W hSw => ?_⟩) hHeld ?_
          · skip
            unfold qN7_12
            go_simp
          try simp only [Act.put, List.setIfInBounds_toArray, List.set_cons_zero, List.set_cons_succ]
          refine tN7_13 (.bool false) (fun _ _ _ h => h) (Or.inl ⟨by rfl, fun W hSw => ?_⟩) hHeld ?_
          · skip
            unfold qN7_13
            go_simp
          try simp only [Act.put, List.setIfInBounds_toArray, List.set_cons_zero, List.set_cons_succ]
          refine wpAnyH_done (by kernel_rfl) ?_ _
          have B5 := Lib.hid (below_chain BA.out.drew hbd)
          have O5 := Lib.hid (own_below (own_drew OA.out) hbd)
          clear hbd
          go_wp2
          go_roundw
          case rel => exact ⟨k + 1, m, out, g, c3, by omega, ML.out, by go_num, rfl, HST.out, O5.out, B5.out⟩
          case measure => simp [intOf]; omega
        | false =>
          rw [if_neg (by rw [hq]; decide)] at hstep
          have HST := Lib.hid hstep
          have E := Lib.hid (fun W => implLeq_is hq W)
          clear hstep hq
          go_wp2_with fail
          refine wp_region_held_drew (S := Two g (j * 2) r s wr.heap.size 0 p q) (by kernel_rfl) ?_ (fun hHeld => ?_)
          · skip
            exact T1.out.drew
          change wpAnyH _ _ opsN7 _ _ 14 (LN7 0) _ _
          refine tN7_0 (.slice (some ⟨g, 0, none⟩) m c3) (fun _ _ _ h => h) (Or.inl ⟨by rfl, fun W hSw => ?_⟩) hHeld ?_
          · skip
            unfold qN7_0
            go_simp
          try simp only [Act.put, List.setIfInBounds_toArray, List.set_cons_zero, List.set_cons_succ]
          refine tN7_1 (.int .i64 (m : Int)) (fun _ _ _ h => h) (Or.inl ⟨by rfl, fun W hSw => ?_⟩) hHeld ?_
          · skip
            unfold qN7_1
            go_simp
          try simp only [Act.put, List.setIfInBounds_toArray, List.set_cons_zero, List.set_cons_succ]
          refine tN7_2 (.bool false) (fun _ _ _ h => h) (Or.inl ⟨by rfl, fun W hSw => ?_⟩) hHeld ?_
          · skip
            unfold qN7_2
            go_simp
          try simp only [Act.put, List.setIfInBounds_toArray, List.set_cons_zero, List.set_cons_succ]
          refine tN7_3 (.bool false) (fun _ _ _ h => h) (Or.inl ⟨by rfl, fun W hSw => ?_⟩) hHeld ?_
          · skip
            unfold qN7_3
            go_simp
          try simp only [Act.put, List.setIfInBounds_toArray, List.set_cons_zero, List.set_cons_succ]
          refine tN7_4 (.slice (some ⟨g, 0, none⟩) m c3) (fun _ _ _ h => h) (Or.inl ⟨by rfl, fun W hSw => ?_⟩) hHeld ?_
          · skip
            unfold qN7_4
            go_simp
          try simp only [Act.put, List.setIfInBounds_toArray, List.set_cons_zero, List.set_cons_succ]
          refine tN7_5 (.slice (some ⟨g, 0, none⟩) m c3) (fun _ _ _ h => h) (Or.inl ⟨by rfl, fun W hSw => ?_⟩) hHeld ?_
          · skip
            unfold qN7_5
            go_simp
          try simp only [Act.put, List.setIfInBounds_toArray, List.set_cons_zero, List.set_cons_succ]
          refine tN7_6 (.int .i64 (m : Int)) (fun _ _ _ h => h) (Or.inl ⟨by rfl, fun W hSw => ?_⟩) hHeld ?_
          · skip
            unfold qN7_6
            go_simp
          try simp only [Act.put, List.setIfInBounds_toArray, List.set_cons_zero, List.set_cons_succ]
          refine tN7_7 (.int .i64 (j : Int)) (fun _ _ _ h => h) (Or.inl ⟨by rfl, fun W hSw => ?_⟩) hHeld ?_
          · skip
            unfold qN7_7
            go_simp
          try simp only [Act.put, List.setIfInBounds_toArray, List.set_cons_zero, List.set_cons_succ]
          refine tN7_8 (.pointer (some ⟨g, j * 2, none⟩)) (fun _ _ _ h => h) (Or.inl ⟨by rfl, fun W hSw => ?_⟩) hHeld ?_
          · skip
            unfold qN7_8
            go_simp
          try simp only [Act.put, List.setIfInBounds_toArray, List.set_cons_zero, List.set_cons_succ]
          refine tN7_9 (.agg #[.int .i64 r, .int .i64 s]) (fun _ _ _ h => h) (Or.inl ⟨by rfl, fun W hSw => ?_⟩) hHeld ?_
          · skip
            unfold qN7_9
            obtain ⟨c0, c1, c2, c3⟩ := hSw
            go_simp
          try simp only [Act.put, List.setIfInBounds_toArray, List.set_cons_zero, List.set_cons_succ]
          refine tN7_10 (.agg #[.int .i64 p, .int .i64 q]) (fun _ _ _ h => h) (Or.inl ⟨by rfl, fun W hSw => ?_⟩) hHeld ?_
          · skip
            unfold qN7_10
            obtain ⟨c0, c1, c2, c3⟩ := hSw
            go_simp
          try simp only [Act.put, List.setIfInBounds_toArray, List.set_cons_zero, List.set_cons_succ]
          refine cN7_11 (fun K hK => ?_)
          rw [if_pos (by rfl)]
          unfold qN7_11
          go_simp
          with_reducible refine (E.out _).mono ?_
          rintro e w5 ⟨rfl, hbd⟩
          dsimp only
          refine Shut.out hK _ _ ?_ (fun hHeld => ?_)
          · skip
            exact hHeld.below hbd
          clear hK K
          try simp only [Act.put, List.setIfInBounds_toArray, List.set_cons_zero, List.set_cons_succ]
          refine tN7_12 (.bool true) (fun _ _ _ h => h) (Or.inl ⟨by rfl, fun W hSw => ?_⟩) hHeld ?_
          · skip
            unfold qN7_12
            go_simp
          try simp only [Act.put, List.setIfInBounds_toArray, List.set_cons_zero, List.set_cons_succ]
          refine tN7_13 (.bool true) (fun _ _ _ h => h) (Or.inl ⟨by rfl, fun W hSw => ?_⟩) hHeld ?_
          · skip
            unfold qN7_13
            go_simp
          try simp only [Act.put, List.setIfInBounds_toArray, List.set_cons_zero, List.set_cons_succ]
          refine wpAnyH_done (by kernel_rfl) ?_ _
          have B5 := Lib.hid (below_chain BA.out.drew hbd)
          have O5 := Lib.hid (own_below (own_drew OA.out) hbd)
          have a0 := hHeld.c2
          have a1 := hHeld.c3
          clear hbd hHeld
          go_wp2_with (at_builtin; refine wpList_append_sts rfl (.tmp 32) (.tmp 34) (by rfl) w2.heap.size (.slice (some ⟨g, 0, none⟩) m c3) m out (by rfl) (O5.out.alloc _) (some ⟨w5.heap.size, 0, none⟩) 1 1 [(p, q)] (by rfl) (fun h => by cases h) rfl (sts_new w5 p q) (by omega) (Nat.le_trans B5.out.size (by simp)) ?_; intro v8 w8 own8 gr8)
          have hb8 := (B5.out.alloc B5.out.size _).grown gr8 (Nat.le_trans B5.out.size (by simp)) (own_ge O5.out)
          obtain ⟨A8, c8, rfl, hA8⟩ := own_form own8
          obtain ⟨g8, rfl⟩ := hA8 (by omega)
          have O8 := Lib.hid own8
          have B8 := Lib.hid hb8
          clear own8 gr8 hb8 hA8
          go_wp2
          go_roundw
          case rel => exact ⟨k + 1, m + 1, out ++ [(p, q)], g8, c8, by omega, by simp [ML.out], by go_num, rfl, HST.out, O8.out, B8.out⟩
          case measure => simp [intOf]; omega
    · have hfin : out = scanL ys := by
        have h3 := HU.out
        rw [List.take_of_length_le (by rw [YL.out]; omega)] at h3
        exact h3
      have hfin2 : out = minL zs := hfin.trans (scan_min HS.out HM.out)
      have O := HO.out
      rw [hfin2] at O
      have hmm : m = (minL zs).length := by rw [← ML.out, hfin2]
      subst hmm
      have OF := Lib.hid (own_base O B2.out.size)
      have BF := Lib.hid (below_chain B2.out HB.out)
      clear O hfin hfin2
      go_wp2
      go_ret
      exact ⟨_, rfl, OF.out, BF.out⟩

set_option maxRecDepth 100000 in
theorem implMin_any (n : Nat) (zs : List (Int × Int)) (hz : zs.length = n) (A : Option Addr) (c : Nat) (hA : A = none → c = 0) (w : World) (h1 : Sts w A zs) (hn : n ≤ 4194304) :
    Calls Try.prog 56 #[.slice A n c] w fun e w' => ∃ v, e = .returned v ∧ w'.ownsRow w.heap.size 26 2 v (minL zs).length (stCells (minL zs)) ∧ Below w.heap.size w w' := by
  have C := Lib.hid (implMinOf_any n zs hz A c hA w h1 hn)
  clear h1 hz hA
  go_enter Try.func56, Try.ntmps56
  go_wp2_with fail
  refine C.out.mono ?_
  rintro e w1 ⟨v, rfl, o, b⟩
  have O := Lib.hid o
  have B := Lib.hid b
  clear o b
  go_wp2
  go_ret
  exact ⟨_, rfl, O.out, B.out⟩
end Go.Proofs.Ytiehpniogehkmaa.hexes
