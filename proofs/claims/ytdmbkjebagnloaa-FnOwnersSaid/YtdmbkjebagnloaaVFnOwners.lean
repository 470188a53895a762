/-
  The walk of FnOwners, given the contract of impl.OwnerOf.
-/
import Derived.Test.YtdmbkjebagnloaaSpecRc1
import Derived.Test.YtdmbkjebagnloaaCame
import Derived.Test.YtdmbkjebagnloaaPlaces
import Derived.Test.YtdmbkjebagnloaaDrawOwner
import Derived.Test.YtdmbkjebagnloaaRegW7
import Derived.WalkArith
namespace Go.Proofs.Ytdmbkjebagnloaa.fnOwners
open Go.RowKit Go.Proofs.Ytdmbkjebagnloaa.hexes

structure OwnS (W : World) (g : Nat) (x1 : Int) (w' : World) : Prop where
  c1 : w'.cell? ⟨g, 1, none⟩ = some (.int .i64 x1)
  bel : Below W.heap.size W w'
theorem OwnS.drew {W : World} {g : Nat} {x1 : Int} {w' : World} (h : OwnS W g x1 w') : OwnS W g x1 w'.drew := ⟨h.c1, h.bel.drew⟩
theorem OwnS.below {W : World} {g : Nat} {x1 : Int} {w' w2 : World} (h : OwnS W g x1 w') (hb : Below w'.heap.size w' w2) : OwnS W g x1 w2 := ⟨below_keep hb h.c1, below_chain h.bel hb⟩
theorem ownR_nonneg (a b : Int) : 0 ≤ ownR a b := by
  unfold ownR
  split
  · omega
  · exact Int.emod_nonneg _ (by omega)
theorem ownR_lt (a b : Int) (h : ¬b < 1) : ownR a b < b := by
  unfold ownR
  rw [if_neg h]
  exact Int.emod_lt_of_pos _ (by omega)

set_option maxRecDepth 1000000 in
set_option maxHeartbeats 4000000 in
theorem walk_of (I0 : ∀ a b : Int, (Lit.int .i64 a).wf = true → (Lit.int .i64 b).wf = true → ∀ W : World, Calls Try.prog 13 #[.int .i64 a, .int .i64 b] W fun e w' => e = .returned (.int .i64 (ownR a b)) ∧ Below W.heap.size W w')
    (a0 : Option Addr) (len0 cap0 : Nat) (z0 : List Int) (w : World) (w0 : IsRow .u8 w a0 len0 cap0 z0) :
    Calls Try.prog 3 #[.slice a0 len0 cap0] w fun e w' => e = .returned (.bool true) ∧ Below w.heap.size w w' := by
  have hcame := came_of_row w0
  have HG := Lib.hid (fun W => big_any a0 len0 cap0 W)
  have I := Lib.hid I0
  clear I0
  by_cases h1 : 1048576 < len0
  · have hd : decide (1048576 < (len0 : Int)) = true := by simp; omega
    clear hcame w0
    go_enter Try.func3, Try.ntmps3
    go_wp2_with (go_at_call 11; refine (HG.out _).mono ?_; rintro e w1 ⟨rfl, rfl⟩)
    go_ret
    exact ⟨rfl, Below.refl _ _⟩
  have hd : decide (1048576 < (len0 : Int)) = false := by simp; omega
  have HC := Lib.hid hcame
  clear hcame w0
  go_enter Try.func3, Try.ntmps3
  go_wp2_with (go_at_call 11; refine (HG.out _).mono ?_; rintro e w1 ⟨rfl, rfl⟩)
  refine (drawOwner_any _ a0 len0 cap0 (by omega) HC.out).mono ?_
  rintro e w1 ⟨a, b, rfl, wa, wb, b1⟩
  have WA := Lib.hid wa
  have WB := Lib.hid wb
  have B1 := Lib.hid b1
  have HC1 := Lib.hid (HC.out.below b1)
  obtain ⟨r, hr⟩ : ∃ r, ownR a b = r := ⟨_, rfl⟩
  have HR := Lib.hid hr
  clear wa wb b1 HC hr
  go_wp2_with fail
  refine (I.out a b WA.out WB.out _).mono ?_
  rintro e w2 ⟨rfl, b2⟩
  rw [HR.out]
  have B2 := Lib.hid (below_chain B1.out b2)
  have HC2 := Lib.hid (HC1.out.below b2)
  clear b2 B1 HC1
  go_wp2_with fail
  refine (places_any _ a0 len0 cap0 (by omega) HC2.out).mono ?_
  rintro e w3 ⟨v, xs, hxl, hxs, rfl, hown, b3⟩
  obtain ⟨A3, cp, rfl, hf⟩ := own_form hown
  obtain ⟨gp, rfl⟩ := hf (by omega)
  have hx0 : xs[0]? = some xs[0] := List.getElem?_eq_getElem (by omega)
  have hx1 : xs[1]? = some xs[1] := List.getElem?_eq_getElem (by omega)
  have l0 := hxs xs[0] (List.getElem_mem (by omega))
  have l1 := hxs xs[1] (List.getElem_mem (by omega))
  have c0 : w3.cell? ⟨gp, 0, none⟩ = some (.int .i64 (xs[0] : Nat)) := by rw [hown.cellAt 0 (by omega)]; simp [nums, hx0]
  have c1 : w3.cell? ⟨gp, 1, none⟩ = some (.int .i64 (xs[1] : Nat)) := by rw [hown.cellAt 1 (by omega)]; simp [nums, hx1]
  obtain ⟨y0, hy0⟩ : ∃ y : Nat, xs[0] = y := ⟨_, rfl⟩
  obtain ⟨y1, hy1⟩ : ∃ y : Nat, xs[1] = y := ⟨_, rfl⟩
  rw [hy0] at c0 l0
  rw [hy1] at c1 l1
  have B4 := Lib.hid (below_chain B2.out b3)
  clear hown hf hxl hxs b3 HC2 hx0 hx1 hy0 hy1 B2
  obtain ⟨x1, hx1⟩ : ∃ x : Int, (y1 : Int) = x := ⟨_, rfl⟩
  obtain ⟨k, hk⟩ : ∃ k : Int, 1 + (y0 : Int) % 4 = k := ⟨_, rfl⟩
  have m1 : (y0 : Int).tmod 4 = (y0 : Int) % 4 := Int.tmod_eq_emod_of_nonneg (by omega)
  have m2 : IntKind.i64.wrap ((y0 : Int) % 4) = (y0 : Int) % 4 := IntWalk.i64_in _ (by omega)
  have m3 : IntKind.i64.wrap k = k := IntWalk.i64_in _ (by omega)
  have hk1 : 1 ≤ k := by omega
  have hk4 : k ≤ 4 := by omega
  rw [hx1] at c1
  obtain ⟨t, ht⟩ : ∃ t, x1.tmod k = t := ⟨_, rfl⟩
  have hxp : 0 ≤ x1 := by omega
  have hte : x1 % k = t := by rw [← ht]; exact (Int.tmod_eq_emod_of_nonneg hxp).symm
  have htb := tmod_bd x1 k (by omega)
  rw [ht] at htb
  have m4 : IntKind.i64.wrap t = t := IntWalk.i64_in _ (by omega)
  have hk0 : ¬k = 0 := by omega
  have E1 := Lib.hid (fun W => (specOwner_any a b WB.out W).mono (R' := fun e w' => e = .returned (.int .i64 r) ∧ Below W.heap.size W w') fun _ _ ⟨he, hw⟩ => ⟨by rw [he, HR.out], hw ▸ Below.refl _ _⟩)
  have E2 := Lib.hid (fun W => (I.out x1 k (WalkArith.wf_i64 (by omega)) (WalkArith.wf_i64 (by omega)) W).mono (R' := fun e w' => e = .returned (.int .i64 t) ∧ Below W.heap.size W w') fun _ _ ⟨he, hw⟩ => ⟨by rw [he]; unfold ownR; rw [if_neg (by omega), hte], hw⟩)
  have E3 := Lib.hid (fun W => (I.out (-1) 3 rfl rfl W).mono (R' := fun e w' => e = .returned (.int .i64 2) ∧ Below W.heap.size W w') fun _ _ ⟨he, hw⟩ => ⟨by rw [he]; rfl, hw⟩)
  have r0 : decide (r ≥ 0) = true := decide_eq_true (by rw [← HR.out]; exact ownR_nonneg a b)
  have rr : (r == r) = true := by simp
  have tt : (t == t) = true := by simp
  clear hte htb hxp hx1 l0 l1
  go_wp2_with fail
  clear hk m1 m2 m3
  obtain ⟨w4, hw4⟩ : ∃ w4, w4 = w3 := ⟨_, rfl⟩
  subst hw4
  have T0 := Lib.hid (show OwnS w4 gp x1 w4 from ⟨c1, Below.refl _ _⟩)
  by_cases hb1 : b < 1
  · have qb : decide (b < 1) = true := decide_eq_true hb1
    clear c0 c1 hb1
    refine wp_region_held_drew (S := OwnS w4 gp x1) (by kernel_rfl) ?_ (fun hHeld => ?_)
    · skip
      exact T0.out.drew
    change wpAnyH _ _ opsW7 _ _ 36 (LW7 0) _ _
    refine tW7_0 (.int .i64 r) (fun _ _ _ h => h) (Or.inl ⟨by rfl, fun W hSw => ?_⟩) hHeld ?_
    · skip
      unfold qW7_0
      go_simp
    try simp only [Act.put, List.setIfInBounds_toArray, List.set_cons_zero, List.set_cons_succ]
    refine tW7_1 (.int .i64 a) (fun _ _ _ h => h) (Or.inl ⟨by rfl, fun W hSw => ?_⟩) hHeld ?_
    · skip
      unfold qW7_1
      go_simp
    try simp only [Act.put, List.setIfInBounds_toArray, List.set_cons_zero, List.set_cons_succ]
    refine tW7_2 (.int .i64 b) (fun _ _ _ h => h) (Or.inl ⟨by rfl, fun W hSw => ?_⟩) hHeld ?_
    · skip
      unfold qW7_2
      go_simp
    try simp only [Act.put, List.setIfInBounds_toArray, List.set_cons_zero, List.set_cons_succ]
    refine cW7_3 (fun K hK => ?_)
    rw [if_pos (by rfl)]
    unfold qW7_3
    go_simp
    with_reducible refine (E1.out _).mono ?_
    rintro e w5 ⟨rfl, hbd⟩
    dsimp only
    refine Shut.out hK _ _ ?_ (fun hHeld => ?_)
    · skip
      exact hHeld.below hbd
    clear hK K
    try simp only [Act.put, List.setIfInBounds_toArray, List.set_cons_zero, List.set_cons_succ]
    refine tW7_4 (.bool true) (fun _ _ _ h => h) (Or.inl ⟨by rfl, fun W hSw => ?_⟩) hHeld ?_
    · skip
      unfold qW7_4
      go_simp
    try simp only [Act.put, List.setIfInBounds_toArray, List.set_cons_zero, List.set_cons_succ]
    refine tW7_5 (.bool true) (fun _ _ _ h => h) (Or.inl ⟨by rfl, fun W hSw => ?_⟩) hHeld ?_
    · skip
      unfold qW7_5
      go_simp
    try simp only [Act.put, List.setIfInBounds_toArray, List.set_cons_zero, List.set_cons_succ]
    refine tW7_6 (.int .i64 r) (fun _ _ _ h => h) (Or.inl ⟨by rfl, fun W hSw => ?_⟩) hHeld ?_
    · skip
      unfold qW7_6
      go_simp
    try simp only [Act.put, List.setIfInBounds_toArray, List.set_cons_zero, List.set_cons_succ]
    refine tW7_7 (.bool true) (fun _ _ _ h => h) (Or.inl ⟨by rfl, fun W hSw => ?_⟩) hHeld ?_
    · skip
      unfold qW7_7
      go_simp
    try simp only [Act.put, List.setIfInBounds_toArray, List.set_cons_zero, List.set_cons_succ]
    refine tW7_8 (.bool true) (fun _ _ _ h => h) (Or.inl ⟨by rfl, fun W hSw => ?_⟩) hHeld ?_
    · skip
      unfold qW7_8
      go_simp
    try simp only [Act.put, List.setIfInBounds_toArray, List.set_cons_zero, List.set_cons_succ]
    refine tW7_9 (.bool true) (fun _ _ _ h => h) (Or.inl ⟨by rfl, fun W hSw => ?_⟩) hHeld ?_
    · skip
      unfold qW7_9
      go_simp
    try simp only [Act.put, List.setIfInBounds_toArray, List.set_cons_zero, List.set_cons_succ]
    refine tW7_10 (.int .i64 b) (fun _ _ _ h => h) (Or.inl ⟨by rfl, fun W hSw => ?_⟩) hHeld ?_
    · skip
      unfold qW7_10
      go_simp
    try simp only [Act.put, List.setIfInBounds_toArray, List.set_cons_zero, List.set_cons_succ]
    refine tW7_11 (.bool true) (fun _ _ _ h => h) (Or.inl ⟨by rfl, fun W hSw => ?_⟩) hHeld ?_
    · skip
      unfold qW7_11
      go_simp
    try simp only [Act.put, List.setIfInBounds_toArray, List.set_cons_zero, List.set_cons_succ]
    refine tW7_12 (.bool true) (fun _ _ _ h => h) (Or.inl ⟨by rfl, fun W hSw => ?_⟩) hHeld ?_
    · skip
      unfold qW7_12
      go_simp
    try simp only [Act.put, List.setIfInBounds_toArray, List.set_cons_zero, List.set_cons_succ]
    refine tW7_13 undef (fun _ _ _ h => h) (Or.inr ⟨by rfl, rfl⟩) hHeld ?_
    try simp only [Act.put, List.setIfInBounds_toArray, List.set_cons_zero, List.set_cons_succ]
    refine tW7_14 undef (fun _ _ _ h => h) (Or.inr ⟨by rfl, rfl⟩) hHeld ?_
    try simp only [Act.put, List.setIfInBounds_toArray, List.set_cons_zero, List.set_cons_succ]
    refine tW7_15 undef (fun _ _ _ h => h) (Or.inr ⟨by rfl, rfl⟩) hHeld ?_
    try simp only [Act.put, List.setIfInBounds_toArray, List.set_cons_zero, List.set_cons_succ]
    refine tW7_16 (Value.bool true) (fun _ _ _ h => h) (Or.inl ⟨by rfl, fun W hSw => ?_⟩) hHeld ?_
    · skip
      unfold qW7_16
      go_simp
    try simp only [Act.put, List.setIfInBounds_toArray, List.set_cons_zero, List.set_cons_succ]
    refine tW7_17 (Value.bool true) (fun _ _ _ h => h) (Or.inl ⟨by rfl, fun W hSw => ?_⟩) hHeld ?_
    · skip
      unfold qW7_17
      go_simp
    try simp only [Act.put, List.setIfInBounds_toArray, List.set_cons_zero, List.set_cons_succ]
    refine tW7_18 (Value.bool true) (fun _ _ _ h => h) (Or.inl ⟨by rfl, fun W hSw => ?_⟩) hHeld ?_
    · skip
      unfold qW7_18
      go_simp
    try simp only [Act.put, List.setIfInBounds_toArray, List.set_cons_zero, List.set_cons_succ]
    refine tW7_19 (.slice (some ⟨gp, 0, none⟩) 12 cp) (fun _ _ _ h => h) (Or.inl ⟨by rfl, fun W hSw => ?_⟩) hHeld ?_
    · skip
      unfold qW7_19
      go_simp
    try simp only [Act.put, List.setIfInBounds_toArray, List.set_cons_zero, List.set_cons_succ]
    refine tW7_20 (.pointer (some ⟨gp, 1, none⟩)) (fun _ _ _ h => h) (Or.inl ⟨by rfl, fun W hSw => ?_⟩) hHeld ?_
    · skip
      unfold qW7_20
      go_simp
    try simp only [Act.put, List.setIfInBounds_toArray, List.set_cons_zero, List.set_cons_succ]
    refine tW7_21 (.int .i64 x1) (fun _ _ _ h => h) (Or.inl ⟨by rfl, fun W hSw => ?_⟩) hHeld ?_
    · skip
      unfold qW7_21
      obtain ⟨c1, bl⟩ := hSw
      go_simp
    try simp only [Act.put, List.setIfInBounds_toArray, List.set_cons_zero, List.set_cons_succ]
    refine tW7_22 (.int .i64 k) (fun _ _ _ h => h) (Or.inl ⟨by rfl, fun W hSw => ?_⟩) hHeld ?_
    · skip
      unfold qW7_22
      go_simp
    try simp only [Act.put, List.setIfInBounds_toArray, List.set_cons_zero, List.set_cons_succ]
    refine tW7_23 (.slice (some ⟨gp, 0, none⟩) 12 cp) (fun _ _ _ h => h) (Or.inl ⟨by rfl, fun W hSw => ?_⟩) hHeld ?_
    · skip
      unfold qW7_24
      go_simp
    try simp only [Act.put, List.setIfInBounds_toArray, List.set_cons_zero, List.set_cons_succ]
    refine tW7_24 (.pointer (some ⟨gp, 1, none⟩)) (fun _ _ _ h => h) (Or.inl ⟨by rfl, fun W hSw => ?_⟩) hHeld ?_
    · skip
      unfold qW7_25
      go_simp
    try simp only [Act.put, List.setIfInBounds_toArray, List.set_cons_zero, List.set_cons_succ]
    refine tW7_25 (.int .i64 x1) (fun _ _ _ h => h) (Or.inl ⟨by rfl, fun W hSw => ?_⟩) hHeld ?_
    · skip
      unfold qW7_26
      obtain ⟨c1, bl⟩ := hSw
      go_simp
    try simp only [Act.put, List.setIfInBounds_toArray, List.set_cons_zero, List.set_cons_succ]
    refine tW7_26 (.int .i64 k) (fun _ _ _ h => h) (Or.inl ⟨by rfl, fun W hSw => ?_⟩) hHeld ?_
    · skip
      unfold qW7_27
      go_simp
    try simp only [Act.put, List.setIfInBounds_toArray, List.set_cons_zero, List.set_cons_succ]
    refine tW7_27 (.int .i64 t) (fun _ _ _ h => h) (Or.inl ⟨by rfl, fun W hSw => ?_⟩) hHeld ?_
    · skip
      unfold qW7_28
      go_simp
    try simp only [Act.put, List.setIfInBounds_toArray, List.set_cons_zero, List.set_cons_succ]
    refine cW7_28 (fun K hK => ?_)
    rw [if_pos (by rfl)]
    unfold qW7_23
    go_simp
    with_reducible refine (E2.out _).mono ?_
    rintro e w6 ⟨rfl, hbd⟩
    dsimp only
    refine Shut.out hK _ _ ?_ (fun hHeld => ?_)
    · skip
      exact hHeld.below hbd
    clear hK K
    try simp only [Act.put, List.setIfInBounds_toArray, List.set_cons_zero, List.set_cons_succ]
    refine tW7_29 (.bool true) (fun _ _ _ h => h) (Or.inl ⟨by rfl, fun W hSw => ?_⟩) hHeld ?_
    · skip
      unfold qW7_29
      go_simp
    try simp only [Act.put, List.setIfInBounds_toArray, List.set_cons_zero, List.set_cons_succ]
    refine tW7_30 (.bool true) (fun _ _ _ h => h) (Or.inl ⟨by rfl, fun W hSw => ?_⟩) hHeld ?_
    · skip
      unfold qW7_30
      go_simp
    try simp only [Act.put, List.setIfInBounds_toArray, List.set_cons_zero, List.set_cons_succ]
    refine tW7_31 (.bool true) (fun _ _ _ h => h) (Or.inl ⟨by rfl, fun W hSw => ?_⟩) hHeld ?_
    · skip
      unfold qW7_31
      go_simp
    try simp only [Act.put, List.setIfInBounds_toArray, List.set_cons_zero, List.set_cons_succ]
    refine cW7_32 (fun K hK => ?_)
    rw [if_pos (by rfl)]
    unfold qW7_32
    go_simp
    with_reducible refine (E3.out _).mono ?_
    rintro e w7 ⟨rfl, hbd⟩
    dsimp only
    refine Shut.out hK _ _ ?_ (fun hHeld => ?_)
    · skip
      exact hHeld.below hbd
    clear hK K
    try simp only [Act.put, List.setIfInBounds_toArray, List.set_cons_zero, List.set_cons_succ]
    refine tW7_33 (.bool true) (fun _ _ _ h => h) (Or.inl ⟨by rfl, fun W hSw => ?_⟩) hHeld ?_
    · skip
      unfold qW7_33
      go_simp
    try simp only [Act.put, List.setIfInBounds_toArray, List.set_cons_zero, List.set_cons_succ]
    refine tW7_34 (.bool true) (fun _ _ _ h => h) (Or.inl ⟨by rfl, fun W hSw => ?_⟩) hHeld ?_
    · skip
      unfold qW7_34
      go_simp
    try simp only [Act.put, List.setIfInBounds_toArray, List.set_cons_zero, List.set_cons_succ]
    refine tW7_35 (.bool true) (fun _ _ _ h => h) (Or.inl ⟨by rfl, fun W hSw => ?_⟩) hHeld ?_
    · skip
      unfold qW7_35
      go_simp
    try simp only [Act.put, List.setIfInBounds_toArray, List.set_cons_zero, List.set_cons_succ]
    refine wpAnyH_done (by kernel_rfl) ?_ _
    have B9 := Lib.hid (below_chain B4.out hHeld.bel)
    clear hHeld T0
    go_wp2
    go_ret
    exact ⟨rfl, B9.out⟩
  · have qb : decide (b < 1) = false := decide_eq_false hb1
    have qr : decide (r < b) = true := decide_eq_true (by rw [← HR.out]; exact ownR_lt a b hb1)
    clear c0 c1 hb1
    refine wp_region_held_drew (S := OwnS w4 gp x1) (by kernel_rfl) ?_ (fun hHeld => ?_)
    · skip
      exact T0.out.drew
    change wpAnyH _ _ opsW7 _ _ 36 (LW7 0) _ _
    refine tW7_0 (.int .i64 r) (fun _ _ _ h => h) (Or.inl ⟨by rfl, fun W hSw => ?_⟩) hHeld ?_
    · skip
      unfold qW7_0
      go_simp
    try simp only [Act.put, List.setIfInBounds_toArray, List.set_cons_zero, List.set_cons_succ]
    refine tW7_1 (.int .i64 a) (fun _ _ _ h => h) (Or.inl ⟨by rfl, fun W hSw => ?_⟩) hHeld ?_
    · skip
      unfold qW7_1
      go_simp
    try simp only [Act.put, List.setIfInBounds_toArray, List.set_cons_zero, List.set_cons_succ]
    refine tW7_2 (.int .i64 b) (fun _ _ _ h => h) (Or.inl ⟨by rfl, fun W hSw => ?_⟩) hHeld ?_
    · skip
      unfold qW7_2
      go_simp
    try simp only [Act.put, List.setIfInBounds_toArray, List.set_cons_zero, List.set_cons_succ]
    refine cW7_3 (fun K hK => ?_)
    rw [if_pos (by rfl)]
    unfold qW7_3
    go_simp
    with_reducible refine (E1.out _).mono ?_
    rintro e w5 ⟨rfl, hbd⟩
    dsimp only
    refine Shut.out hK _ _ ?_ (fun hHeld => ?_)
    · skip
      exact hHeld.below hbd
    clear hK K
    try simp only [Act.put, List.setIfInBounds_toArray, List.set_cons_zero, List.set_cons_succ]
    refine tW7_4 (.bool true) (fun _ _ _ h => h) (Or.inl ⟨by rfl, fun W hSw => ?_⟩) hHeld ?_
    · skip
      unfold qW7_4
      go_simp
    try simp only [Act.put, List.setIfInBounds_toArray, List.set_cons_zero, List.set_cons_succ]
    refine tW7_5 (.bool true) (fun _ _ _ h => h) (Or.inl ⟨by rfl, fun W hSw => ?_⟩) hHeld ?_
    · skip
      unfold qW7_5
      go_simp
    try simp only [Act.put, List.setIfInBounds_toArray, List.set_cons_zero, List.set_cons_succ]
    refine tW7_6 (.int .i64 r) (fun _ _ _ h => h) (Or.inl ⟨by rfl, fun W hSw => ?_⟩) hHeld ?_
    · skip
      unfold qW7_6
      go_simp
    try simp only [Act.put, List.setIfInBounds_toArray, List.set_cons_zero, List.set_cons_succ]
    refine tW7_7 (.bool true) (fun _ _ _ h => h) (Or.inl ⟨by rfl, fun W hSw => ?_⟩) hHeld ?_
    · skip
      unfold qW7_7
      go_simp
    try simp only [Act.put, List.setIfInBounds_toArray, List.set_cons_zero, List.set_cons_succ]
    refine tW7_8 (.bool true) (fun _ _ _ h => h) (Or.inl ⟨by rfl, fun W hSw => ?_⟩) hHeld ?_
    · skip
      unfold qW7_8
      go_simp
    try simp only [Act.put, List.setIfInBounds_toArray, List.set_cons_zero, List.set_cons_succ]
    refine tW7_9 (.bool true) (fun _ _ _ h => h) (Or.inl ⟨by rfl, fun W hSw => ?_⟩) hHeld ?_
    · skip
      unfold qW7_9
      go_simp
    try simp only [Act.put, List.setIfInBounds_toArray, List.set_cons_zero, List.set_cons_succ]
    refine tW7_10 (.int .i64 b) (fun _ _ _ h => h) (Or.inl ⟨by rfl, fun W hSw => ?_⟩) hHeld ?_
    · skip
      unfold qW7_10
      go_simp
    try simp only [Act.put, List.setIfInBounds_toArray, List.set_cons_zero, List.set_cons_succ]
    refine tW7_11 (.bool false) (fun _ _ _ h => h) (Or.inl ⟨by rfl, fun W hSw => ?_⟩) hHeld ?_
    · skip
      unfold qW7_11
      go_simp
    try simp only [Act.put, List.setIfInBounds_toArray, List.set_cons_zero, List.set_cons_succ]
    refine tW7_12 (.bool false) (fun _ _ _ h => h) (Or.inl ⟨by rfl, fun W hSw => ?_⟩) hHeld ?_
    · skip
      unfold qW7_12
      go_simp
    try simp only [Act.put, List.setIfInBounds_toArray, List.set_cons_zero, List.set_cons_succ]
    refine tW7_13 (.int .i64 r) (fun _ _ _ h => h) (Or.inl ⟨by rfl, fun W hSw => ?_⟩) hHeld ?_
    · skip
      unfold qW7_13
      go_simp
    try simp only [Act.put, List.setIfInBounds_toArray, List.set_cons_zero, List.set_cons_succ]
    refine tW7_14 (.int .i64 b) (fun _ _ _ h => h) (Or.inl ⟨by rfl, fun W hSw => ?_⟩) hHeld ?_
    · skip
      unfold qW7_14
      go_simp
    try simp only [Act.put, List.setIfInBounds_toArray, List.set_cons_zero, List.set_cons_succ]
    refine tW7_15 (.bool true) (fun _ _ _ h => h) (Or.inl ⟨by rfl, fun W hSw => ?_⟩) hHeld ?_
    · skip
      unfold qW7_15
      go_simp
    try simp only [Act.put, List.setIfInBounds_toArray, List.set_cons_zero, List.set_cons_succ]
    refine tW7_16 (.bool true) (fun _ _ _ h => h) (Or.inl ⟨by rfl, fun W hSw => ?_⟩) hHeld ?_
    · skip
      unfold qW7_16
      go_simp
    try simp only [Act.put, List.setIfInBounds_toArray, List.set_cons_zero, List.set_cons_succ]
    refine tW7_17 (.bool true) (fun _ _ _ h => h) (Or.inl ⟨by rfl, fun W hSw => ?_⟩) hHeld ?_
    · skip
      unfold qW7_17
      go_simp
    try simp only [Act.put, List.setIfInBounds_toArray, List.set_cons_zero, List.set_cons_succ]
    refine tW7_18 (.bool true) (fun _ _ _ h => h) (Or.inl ⟨by rfl, fun W hSw => ?_⟩) hHeld ?_
    · skip
      unfold qW7_18
      go_simp
    try simp only [Act.put, List.setIfInBounds_toArray, List.set_cons_zero, List.set_cons_succ]
    refine tW7_19 (.slice (some ⟨gp, 0, none⟩) 12 cp) (fun _ _ _ h => h) (Or.inl ⟨by rfl, fun W hSw => ?_⟩) hHeld ?_
    · skip
      unfold qW7_19
      go_simp
    try simp only [Act.put, List.setIfInBounds_toArray, List.set_cons_zero, List.set_cons_succ]
    refine tW7_20 (.pointer (some ⟨gp, 1, none⟩)) (fun _ _ _ h => h) (Or.inl ⟨by rfl, fun W hSw => ?_⟩) hHeld ?_
    · skip
      unfold qW7_20
      go_simp
    try simp only [Act.put, List.setIfInBounds_toArray, List.set_cons_zero, List.set_cons_succ]
    refine tW7_21 (.int .i64 x1) (fun _ _ _ h => h) (Or.inl ⟨by rfl, fun W hSw => ?_⟩) hHeld ?_
    · skip
      unfold qW7_21
      obtain ⟨c1, bl⟩ := hSw
      go_simp
    try simp only [Act.put, List.setIfInBounds_toArray, List.set_cons_zero, List.set_cons_succ]
    refine tW7_22 (.int .i64 k) (fun _ _ _ h => h) (Or.inl ⟨by rfl, fun W hSw => ?_⟩) hHeld ?_
    · skip
      unfold qW7_22
      go_simp
    try simp only [Act.put, List.setIfInBounds_toArray, List.set_cons_zero, List.set_cons_succ]
    refine tW7_23 (.slice (some ⟨gp, 0, none⟩) 12 cp) (fun _ _ _ h => h) (Or.inl ⟨by rfl, fun W hSw => ?_⟩) hHeld ?_
    · skip
      unfold qW7_24
      go_simp
    try simp only [Act.put, List.setIfInBounds_toArray, List.set_cons_zero, List.set_cons_succ]
    refine tW7_24 (.pointer (some ⟨gp, 1, none⟩)) (fun _ _ _ h => h) (Or.inl ⟨by rfl, fun W hSw => ?_⟩) hHeld ?_
    · skip
      unfold qW7_25
      go_simp
    try simp only [Act.put, List.setIfInBounds_toArray, List.set_cons_zero, List.set_cons_succ]
    refine tW7_25 (.int .i64 x1) (fun _ _ _ h => h) (Or.inl ⟨by rfl, fun W hSw => ?_⟩) hHeld ?_
    · skip
      unfold qW7_26
      obtain ⟨c1, bl⟩ := hSw
      go_simp
    try simp only [Act.put, List.setIfInBounds_toArray, List.set_cons_zero, List.set_cons_succ]
    refine tW7_26 (.int .i64 k) (fun _ _ _ h => h) (Or.inl ⟨by rfl, fun W hSw => ?_⟩) hHeld ?_
    · skip
      unfold qW7_27
      go_simp
    try simp only [Act.put, List.setIfInBounds_toArray, List.set_cons_zero, List.set_cons_succ]
    refine tW7_27 (.int .i64 t) (fun _ _ _ h => h) (Or.inl ⟨by rfl, fun W hSw => ?_⟩) hHeld ?_
    · skip
      unfold qW7_28
      go_simp
    try simp only [Act.put, List.setIfInBounds_toArray, List.set_cons_zero, List.set_cons_succ]
    refine cW7_28 (fun K hK => ?_)
    rw [if_pos (by rfl)]
    unfold qW7_23
    go_simp
    with_reducible refine (E2.out _).mono ?_
    rintro e w6 ⟨rfl, hbd⟩
    dsimp only
    refine Shut.out hK _ _ ?_ (fun hHeld => ?_)
    · skip
      exact hHeld.below hbd
    clear hK K
    try simp only [Act.put, List.setIfInBounds_toArray, List.set_cons_zero, List.set_cons_succ]
    refine tW7_29 (.bool true) (fun _ _ _ h => h) (Or.inl ⟨by rfl, fun W hSw => ?_⟩) hHeld ?_
    · skip
      unfold qW7_29
      go_simp
    try simp only [Act.put, List.setIfInBounds_toArray, List.set_cons_zero, List.set_cons_succ]
    refine tW7_30 (.bool true) (fun _ _ _ h => h) (Or.inl ⟨by rfl, fun W hSw => ?_⟩) hHeld ?_
    · skip
      unfold qW7_30
      go_simp
    try simp only [Act.put, List.setIfInBounds_toArray, List.set_cons_zero, List.set_cons_succ]
    refine tW7_31 (.bool true) (fun _ _ _ h => h) (Or.inl ⟨by rfl, fun W hSw => ?_⟩) hHeld ?_
    · skip
      unfold qW7_31
      go_simp
    try simp only [Act.put, List.setIfInBounds_toArray, List.set_cons_zero, List.set_cons_succ]
    refine cW7_32 (fun K hK => ?_)
    rw [if_pos (by rfl)]
    unfold qW7_32
    go_simp
    with_reducible refine (E3.out _).mono ?_
    rintro e w7 ⟨rfl, hbd⟩
    dsimp only
    refine Shut.out hK _ _ ?_ (fun hHeld => ?_)
    · skip
      exact hHeld.below hbd
    clear hK K
    try simp only [Act.put, List.setIfInBounds_toArray, List.set_cons_zero, List.set_cons_succ]
    refine tW7_33 (.bool true) (fun _ _ _ h => h) (Or.inl ⟨by rfl, fun W hSw => ?_⟩) hHeld ?_
    · skip
      unfold qW7_33
      go_simp
    try simp only [Act.put, List.setIfInBounds_toArray, List.set_cons_zero, List.set_cons_succ]
    refine tW7_34 (.bool true) (fun _ _ _ h => h) (Or.inl ⟨by rfl, fun W hSw => ?_⟩) hHeld ?_
    · skip
      unfold qW7_34
      go_simp
    try simp only [Act.put, List.setIfInBounds_toArray, List.set_cons_zero, List.set_cons_succ]
    refine tW7_35 (.bool true) (fun _ _ _ h => h) (Or.inl ⟨by rfl, fun W hSw => ?_⟩) hHeld ?_
    · skip
      unfold qW7_35
      go_simp
    try simp only [Act.put, List.setIfInBounds_toArray, List.set_cons_zero, List.set_cons_succ]
    refine wpAnyH_done (by kernel_rfl) ?_ _
    have B9 := Lib.hid (below_chain B4.out hHeld.bel)
    clear hHeld T0
    go_wp2
    go_ret
    exact ⟨rfl, B9.out⟩
end Go.Proofs.Ytdmbkjebagnloaa.fnOwners
