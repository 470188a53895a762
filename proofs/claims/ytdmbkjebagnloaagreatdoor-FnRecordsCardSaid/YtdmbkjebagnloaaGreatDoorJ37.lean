/-
  The program's order of records, its sort: the contracts of the comparison, slices.Clone at records and impl.SortRecords.
-/
import Derived.Test.YtdmbkjebagnloaaGreatDoorJ35
import Derived.Test.YtdmbkjebagnloaaGreatDoorJ9
import Derived.Laws.AppendOwnNone
import Derived.Lib.SliceRun
import Derived.Test.YtdmbkjebagnloaaGreatDoorRegU1

namespace Go.Proofs.YtdmbkjebagnloaaGreatDoor.hexes
open Go.RowKit Go.Sort

/-- Two records in blocks of their own, in a world that only grew. -/
structure Two5 (W : World) (b b' : Nat) (p0 p1 p2 p3 p4 q0 q1 q2 q3 q4 : Int) (w' : World) : Prop where
  c0 : w'.cell? ⟨b, 0, none⟩ = some (.int .i64 p0)
  c1 : w'.cell? ⟨b, 1, none⟩ = some (.int .i64 p1)
  c2 : w'.cell? ⟨b, 2, none⟩ = some (.int .i64 p2)
  c3 : w'.cell? ⟨b, 3, none⟩ = some (.int .i64 p3)
  c4 : w'.cell? ⟨b, 4, none⟩ = some (.int .i64 p4)
  d0 : w'.cell? ⟨b', 0, none⟩ = some (.int .i64 q0)
  d1 : w'.cell? ⟨b', 1, none⟩ = some (.int .i64 q1)
  d2 : w'.cell? ⟨b', 2, none⟩ = some (.int .i64 q2)
  d3 : w'.cell? ⟨b', 3, none⟩ = some (.int .i64 q3)
  d4 : w'.cell? ⟨b', 4, none⟩ = some (.int .i64 q4)
  gr : Grew W w'
theorem Two5.grew {W : World} {b b' : Nat} {p0 p1 p2 p3 p4 q0 q1 q2 q3 q4 : Int} {w' w2 : World} (h : Two5 W b b' p0 p1 p2 p3 p4 q0 q1 q2 q3 q4 w') (hg : Grew w' w2) : Two5 W b b' p0 p1 p2 p3 p4 q0 q1 q2 q3 q4 w2 := ⟨below_keep hg.below h.c0, below_keep hg.below h.c1, below_keep hg.below h.c2, below_keep hg.below h.c3, below_keep hg.below h.c4, below_keep hg.below h.d0, below_keep hg.below h.d1, below_keep hg.below h.d2, below_keep hg.below h.d3, below_keep hg.below h.d4, h.gr.trans hg⟩
theorem two5_new (W : World) (p0 p1 p2 p3 p4 q0 q1 q2 q3 q4 : Int) : Two5 W W.heap.size (W.heap.size + 1) p0 p1 p2 p3 p4 q0 q1 q2 q3 q4 ((W.alloc (.cells #[.int .i64 p0, .int .i64 p1, .int .i64 p2, .int .i64 p3, .int .i64 p4] 32)).alloc (.cells #[.int .i64 q0, .int .i64 q1, .int .i64 q2, .int .i64 q3, .int .i64 q4] 32)) :=
  ⟨alloc_keep (by simp), alloc_keep (by simp), alloc_keep (by simp), alloc_keep (by simp), alloc_keep (by simp), by simp, by simp, by simp, by simp, by simp, ((Grew.refl W).alloc _).alloc _⟩

set_option maxRecDepth 100000 in
theorem cmpOr4_at (s a b c r : Int) (hr : r = if s ≠ 0 then s else if a ≠ 0 then a else if b ≠ 0 then b else c) (g : Nat) (w : World) (e0 : w.cell? ⟨g, 0, none⟩ = some (.int .i64 s)) (e1 : w.cell? ⟨g, 1, none⟩ = some (.int .i64 a)) (e2 : w.cell? ⟨g, 2, none⟩ = some (.int .i64 b)) (e3 : w.cell? ⟨g, 3, none⟩ = some (.int .i64 c)) :
    Calls Tryz.prog 51 #[.slice (some ⟨g, 0, none⟩) 4 4] w fun e w' => e = .returned (.int .i64 r) ∧ w = w' := by
  have HR := Lib.hid hr
  clear hr
  go_enter Tryz.func51, Tryz.ntmps51
  go_wp2
  refine wp_loop_rounds 5 ?_
  rw [rounds_succ]
  by_cases h0 : s = 0
  rotate_left
  · go_wp2
    go_ret
    exact ⟨by rw [HR.out]; simp [h0], rfl⟩
  subst h0
  go_wp2
  rw [rounds_succ]
  by_cases h1 : a = 0
  rotate_left
  · go_wp2
    go_ret
    exact ⟨by rw [HR.out]; simp [h1], rfl⟩
  subst h1
  go_wp2
  rw [rounds_succ]
  by_cases h2 : b = 0
  rotate_left
  · go_wp2
    go_ret
    exact ⟨by rw [HR.out]; simp [h2], rfl⟩
  subst h2
  go_wp2
  rw [rounds_succ]
  by_cases h3 : c = 0
  rotate_left
  · go_wp2
    go_ret
    exact ⟨by rw [HR.out]; simp, rfl⟩
  subst h3
  go_wp2
  rw [rounds_succ]
  go_wp2
  go_ret
  exact ⟨by rw [HR.out]; simp, rfl⟩

set_option maxRecDepth 100000 in
set_option maxHeartbeats 4000000 in
theorem implCmpRc_at : CmpRc 30 := by
  intro W p0 p1 p2 p3 p4 q0 q1 q2 q3 q4
  have HO := Lib.hid (fun W => implOrder_at p1 p2 q1 q2 W)
  have HI := Lib.hid (fun x y W => cmpInt_at x y W)
  obtain ⟨r, hr⟩ : ∃ r, r = ordRc (p0, (p1, p2), p3, p4) (q0, (q1, q2), q3, q4) := ⟨_, rfl⟩
  obtain ⟨s, hs⟩ : ∃ s, s = ordSt p1 p2 q1 q2 := ⟨_, rfl⟩
  obtain ⟨a, ha⟩ : ∃ a, a = ordI p0 q0 := ⟨_, rfl⟩
  obtain ⟨b, hb⟩ : ∃ a, a = ordI p3 q3 := ⟨_, rfl⟩
  obtain ⟨c, hc⟩ : ∃ a, a = ordI p4 q4 := ⟨_, rfl⟩
  have HR := Lib.hid (show r = if s ≠ 0 then s else if a ≠ 0 then a else if b ≠ 0 then b else c by rw [hr, hs, ha, hb, hc]; rfl)
  rw [← hr]
  have HS := Lib.hid hs
  have HA := Lib.hid ha
  have HB := Lib.hid hb
  have HC := Lib.hid hc
  have T0 := Lib.hid (two5_new W p0 p1 p2 p3 p4 q0 q1 q2 q3 q4)
  clear hr hs ha hb hc
  go_enter Tryz.func30, Tryz.ntmps30
  go_wp2_with fail
  refine wp_region_held_drew (S := Two5 W W.heap.size (W.heap.size + 1) p0 p1 p2 p3 p4 q0 q1 q2 q3 q4) (by kernel_rfl) ?_ (fun hHeld => ?_)
  · skip
    exact T0.out.grew ((Grew.refl _).drew)
  change wpAnyH _ _ opsU1 _ _ 23 (LU1 0) _ _
  refine tU1_0 (.pointer (some ⟨W.heap.size, 1, none⟩)) (fun _ _ _ h => h) (Or.inl ⟨by rfl, fun W hSw => ?_⟩) hHeld ?_
  · skip
    unfold qU1_0
    go_simp
  try simp only [Act.put, List.setIfInBounds_toArray, List.set_cons_zero, List.set_cons_succ]
  refine tU1_1 (.agg #[.int .i64 p1, .int .i64 p2]) (fun _ _ _ h => h) (Or.inl ⟨by rfl, fun W hSw => ?_⟩) hHeld ?_
  · skip
    unfold qU1_1
    obtain ⟨c0, c1, c2, c3, c4, d0, d1, d2, d3, d4, gr⟩ := hSw
    go_simp
  try simp only [Act.put, List.setIfInBounds_toArray, List.set_cons_zero, List.set_cons_succ]
  refine tU1_2 (.pointer (some ⟨W.heap.size + 1, 1, none⟩)) (fun _ _ _ h => h) (Or.inl ⟨by rfl, fun W hSw => ?_⟩) hHeld ?_
  · skip
    unfold qU1_2
    go_simp
  try simp only [Act.put, List.setIfInBounds_toArray, List.set_cons_zero, List.set_cons_succ]
  refine tU1_3 (.agg #[.int .i64 q1, .int .i64 q2]) (fun _ _ _ h => h) (Or.inl ⟨by rfl, fun W hSw => ?_⟩) hHeld ?_
  · skip
    unfold qU1_3
    obtain ⟨c0, c1, c2, c3, c4, d0, d1, d2, d3, d4, gr⟩ := hSw
    go_simp
  try simp only [Act.put, List.setIfInBounds_toArray, List.set_cons_zero, List.set_cons_succ]
  refine tU1_4 (.pointer (some ⟨W.heap.size, 0, none⟩)) (fun _ _ _ h => h) (Or.inl ⟨by rfl, fun W hSw => ?_⟩) hHeld ?_
  · skip
    unfold qU1_5
    go_simp
  try simp only [Act.put, List.setIfInBounds_toArray, List.set_cons_zero, List.set_cons_succ]
  refine tU1_5 (.int .i64 p0) (fun _ _ _ h => h) (Or.inl ⟨by rfl, fun W hSw => ?_⟩) hHeld ?_
  · skip
    unfold qU1_6
    obtain ⟨c0, c1, c2, c3, c4, d0, d1, d2, d3, d4, gr⟩ := hSw
    go_simp
  try simp only [Act.put, List.setIfInBounds_toArray, List.set_cons_zero, List.set_cons_succ]
  refine tU1_6 (.pointer (some ⟨W.heap.size + 1, 0, none⟩)) (fun _ _ _ h => h) (Or.inl ⟨by rfl, fun W hSw => ?_⟩) hHeld ?_
  · skip
    unfold qU1_7
    go_simp
  try simp only [Act.put, List.setIfInBounds_toArray, List.set_cons_zero, List.set_cons_succ]
  refine tU1_7 (.int .i64 q0) (fun _ _ _ h => h) (Or.inl ⟨by rfl, fun W hSw => ?_⟩) hHeld ?_
  · skip
    unfold qU1_8
    obtain ⟨c0, c1, c2, c3, c4, d0, d1, d2, d3, d4, gr⟩ := hSw
    go_simp
  try simp only [Act.put, List.setIfInBounds_toArray, List.set_cons_zero, List.set_cons_succ]
  refine tU1_8 (.pointer (some ⟨W.heap.size, 3, none⟩)) (fun _ _ _ h => h) (Or.inl ⟨by rfl, fun W hSw => ?_⟩) hHeld ?_
  · skip
    unfold qU1_10
    go_simp
  try simp only [Act.put, List.setIfInBounds_toArray, List.set_cons_zero, List.set_cons_succ]
  refine tU1_9 (.int .i64 p3) (fun _ _ _ h => h) (Or.inl ⟨by rfl, fun W hSw => ?_⟩) hHeld ?_
  · skip
    unfold qU1_11
    obtain ⟨c0, c1, c2, c3, c4, d0, d1, d2, d3, d4, gr⟩ := hSw
    go_simp
  try simp only [Act.put, List.setIfInBounds_toArray, List.set_cons_zero, List.set_cons_succ]
  refine tU1_10 (.pointer (some ⟨W.heap.size + 1, 3, none⟩)) (fun _ _ _ h => h) (Or.inl ⟨by rfl, fun W hSw => ?_⟩) hHeld ?_
  · skip
    unfold qU1_12
    go_simp
  try simp only [Act.put, List.setIfInBounds_toArray, List.set_cons_zero, List.set_cons_succ]
  refine tU1_11 (.int .i64 q3) (fun _ _ _ h => h) (Or.inl ⟨by rfl, fun W hSw => ?_⟩) hHeld ?_
  · skip
    unfold qU1_13
    obtain ⟨c0, c1, c2, c3, c4, d0, d1, d2, d3, d4, gr⟩ := hSw
    go_simp
  try simp only [Act.put, List.setIfInBounds_toArray, List.set_cons_zero, List.set_cons_succ]
  refine tU1_12 (.pointer (some ⟨W.heap.size, 4, none⟩)) (fun _ _ _ h => h) (Or.inl ⟨by rfl, fun W hSw => ?_⟩) hHeld ?_
  · skip
    unfold qU1_15
    go_simp
  try simp only [Act.put, List.setIfInBounds_toArray, List.set_cons_zero, List.set_cons_succ]
  refine tU1_13 (.int .i64 p4) (fun _ _ _ h => h) (Or.inl ⟨by rfl, fun W hSw => ?_⟩) hHeld ?_
  · skip
    unfold qU1_16
    obtain ⟨c0, c1, c2, c3, c4, d0, d1, d2, d3, d4, gr⟩ := hSw
    go_simp
  try simp only [Act.put, List.setIfInBounds_toArray, List.set_cons_zero, List.set_cons_succ]
  refine tU1_14 (.pointer (some ⟨W.heap.size + 1, 4, none⟩)) (fun _ _ _ h => h) (Or.inl ⟨by rfl, fun W hSw => ?_⟩) hHeld ?_
  · skip
    unfold qU1_17
    go_simp
  try simp only [Act.put, List.setIfInBounds_toArray, List.set_cons_zero, List.set_cons_succ]
  refine tU1_15 (.int .i64 q4) (fun _ _ _ h => h) (Or.inl ⟨by rfl, fun W hSw => ?_⟩) hHeld ?_
  · skip
    unfold qU1_18
    obtain ⟨c0, c1, c2, c3, c4, d0, d1, d2, d3, d4, gr⟩ := hSw
    go_simp
  try simp only [Act.put, List.setIfInBounds_toArray, List.set_cons_zero, List.set_cons_succ]
  refine cU1_16 (fun K hK => ?_)
  rw [if_pos (by rfl)]
  unfold qU1_4
  go_simp
  refine (HO.out _).mono ?_
  rintro e w1 ⟨rfl, hw⟩
  rw [← HS.out]
  have G1 := Lib.hid (show Grew _ w1 from by rw [← hw]; exact ((Grew.refl _).alloc _).alloc _)
  clear hw
  refine Shut.out hK _ _ ?_ (fun hHeld => ?_)
  · exact hHeld.grew G1.out
  clear hK K
  try simp only [Act.put, List.setIfInBounds_toArray, List.set_cons_zero, List.set_cons_succ]
  refine cU1_17 (fun K hK => ?_)
  rw [if_pos (by rfl)]
  unfold qU1_9
  go_simp
  refine (HI.out _ _ _).mono ?_
  rintro e w2 ⟨rfl, rfl⟩
  rw [← HA.out]
  refine Shut.out hK _ _ ?_ (fun hHeld => ?_)
  · exact hHeld
  clear hK K
  try simp only [Act.put, List.setIfInBounds_toArray, List.set_cons_zero, List.set_cons_succ]
  refine cU1_18 (fun K hK => ?_)
  rw [if_pos (by rfl)]
  unfold qU1_14
  go_simp
  refine (HI.out _ _ _).mono ?_
  rintro e w3 ⟨rfl, rfl⟩
  rw [← HB.out]
  refine Shut.out hK _ _ ?_ (fun hHeld => ?_)
  · exact hHeld
  clear hK K
  try simp only [Act.put, List.setIfInBounds_toArray, List.set_cons_zero, List.set_cons_succ]
  refine cU1_19 (fun K hK => ?_)
  rw [if_pos (by rfl)]
  unfold qU1_19
  go_simp
  refine (HI.out _ _ _).mono ?_
  rintro e w4 ⟨rfl, rfl⟩
  rw [← HC.out]
  refine Shut.out hK _ _ ?_ (fun hHeld => ?_)
  · exact hHeld
  clear hK K
  try simp only [Act.put, List.setIfInBounds_toArray, List.set_cons_zero, List.set_cons_succ]
  refine cU1_20 (fun K hK => ?_)
  rw [if_pos (by rfl)]
  unfold qU1_20
  go_simp
  refine Shut.out hK _ _ ?_ (fun hHeld => ?_)
  · exact hHeld.grew ((Grew.refl _).alloc _)
  clear hK K
  try simp only [Act.put, List.setIfInBounds_toArray, List.set_cons_zero, List.set_cons_succ]
  refine cU1_21 (fun K hK => ?_)
  rw [if_pos (by rfl)]
  unfold qU1_21
  go_simp
  refine (cmpOr4_at s a b c r HR.out w1.heap.size _ (by simp) (by simp) (by simp) (by simp)).mono ?_
  rintro e w5 ⟨rfl, rfl⟩
  refine Shut.out hK _ _ ?_ (fun hHeld => ?_)
  · exact hHeld
  clear hK K
  try simp only [Act.put, List.setIfInBounds_toArray, List.set_cons_zero, List.set_cons_succ]
  refine tU1_22 (.int .i64 r) (fun _ _ _ h => h) (Or.inl ⟨by rfl, fun W hSw => ?_⟩) hHeld ?_
  · skip
    unfold qU1_22
    go_simp
  try simp only [Act.put, List.setIfInBounds_toArray, List.set_cons_zero, List.set_cons_succ]
  refine wpAnyH_done (by kernel_rfl) ?_ _
  have GF := Lib.hid hHeld.gr
  clear hHeld
  go_wp2
  go_ret
  exact ⟨rfl, GF.out⟩

set_option maxRecDepth 100000 in
theorem implRcOrd_at : CmpRc 10 := by
  intro W p0 p1 p2 p3 p4 q0 q1 q2 q3 q4
  have HO := Lib.hid (fun W => implCmpRc_at W p0 p1 p2 p3 p4 q0 q1 q2 q3 q4)
  have T0 := Lib.hid (two5_new W p0 p1 p2 p3 p4 q0 q1 q2 q3 q4)
  obtain ⟨c0, c1, c2, c3, c4, d0, d1, d2, d3, d4, gr⟩ := T0.out
  clear gr
  go_enter Tryz.func10, Tryz.ntmps10
  go_wp2_with fail
  refine (HO.out _).mono ?_
  rintro e w1 ⟨rfl, hg⟩
  have G := Lib.hid (T0.out.gr.trans hg)
  clear hg c0 c1 c2 c3 c4 d0 d1 d2 d3 d4 T0
  go_wp2
  go_ret
  exact ⟨rfl, G.out⟩

theorem cloneRc_any (n : Nat) (zs : List Rc) (hz : zs.length = n) (A : Option Addr) (c : Nat) (hA : A = none → c = 0) (w : World) (h1 : Rcs w A zs) (hn : n ≤ 4194304) :
    Calls Tryz.prog 28 #[.slice A n c] w fun e w' => ∃ v, e = .returned v ∧ w'.ownsRow w.heap.size 32 5 v n (rcCells zs) ∧ Below w.heap.size w w' := by
  cases A with
  | none =>
    obtain rfl := rcs_none h1 hz
    obtain rfl := hA rfl
    obtain rfl := List.eq_nil_of_length_eq_zero hz
    clear h1 hz hA
    have q22 : ∀ (w : World) (a : Option Addr) (n c n' c' : Nat), (binOp .eql 24 (.slice a n c) (.slice none n' c')).run Tryz.prog w = .ok (.bool a.isNone) w := fun w a n c n' c' => Lib.run_eql_slice_nil w _ _ a n c n' c' Tryz.underlying24
    go_enter Tryz.func28, Tryz.ntmps28
    go_wp2
    go_ret
    exact ⟨_, rfl, World.ownsRow_nil _ _ _ _, Below.refl _ _⟩
  | some ad =>
    have hb := Below.alloc (Below.refl w.heap.size w) (Nat.le_refl _) (.cells #[] 32)
    have S := Lib.hid (h1.below hb)
    have HB := Lib.hid hb
    have HZ := Lib.hid hz
    clear h1 hz hA hb
    have q22 : ∀ (w : World) (a : Option Addr) (n c n' c' : Nat), (binOp .eql 24 (.slice a n c) (.slice none n' c')).run Tryz.prog w = .ok (.bool a.isNone) w := fun w a n c n' c' => Lib.run_eql_slice_nil w _ _ a n c n' c' Tryz.underlying24
    go_enter Tryz.func28, Tryz.ntmps28
    go_wp2_with (at_builtin; refine wpList_append_rc rfl (.tmp 5) (.tmp 6) (by rfl) w.heap.size (.slice (some ⟨w.heap.size, 0, none⟩) 0 0) 0 [] (by rfl) (World.ownsRow_lit w #[] 0 (Nat.le_refl _) (by decide) (by rfl)) (some ad) n c zs rfl (fun h => by cases h) HZ.out S.out (by omega) HB.out.size ?_; intro v' w2 own2 gr2)
    have hb2 := HB.out.grown gr2 HB.out.size (fun k hk => Nat.le_of_eq (Option.some.inj hk))
    rw [Nat.zero_add, List.nil_append] at own2
    have O2 := Lib.hid own2
    have B2 := Lib.hid hb2
    clear own2 gr2 hb2
    go_wp2
    go_ret
    exact ⟨_, rfl, O2.out, B2.out⟩

theorem implSortRc_any (n : Nat) (zs : List Rc) (hz : zs.length = n) (A : Option Addr) (c : Nat) (hA : A = none → c = 0) (w : World) (h1 : Rcs w A zs) (hn : n ≤ 4194304) :
    Calls Tryz.prog 6 #[.slice A n c] w fun e w' => ∃ v, e = .returned v ∧ w'.ownsRow w.heap.size 32 5 v n (rcCells (sortR zs)) ∧ Below w.heap.size w w' := by
  have CL := Lib.hid (cloneRc_any n zs hz A c hA w h1 hn)
  have eg : ∀ args w, (callFunc 30 args).run Tryz.prog w = .ok (.enter 30 args) w := enters_of Tryz.func30 (by kernel_rfl) rfl
  have SO := Lib.hid (fun B v w h => sortRc_own _ eg implCmpRc_at n zs hz hn B v w h)
  clear h1 hz hA eg
  go_enter Tryz.func6, Tryz.ntmps6
  go_wp2_with fail
  refine CL.out.mono ?_
  rintro e w1 ⟨v, rfl, own, hb⟩
  have OW := Lib.hid own
  have B1 := Lib.hid hb
  clear own hb CL
  go_wp2_with fail
  refine (SO.out _ _ _ OW.out).mono ?_
  rintro e w2 ⟨rfl, own2, gr⟩
  have O2 := Lib.hid own2
  have B2 := Lib.hid (B1.out.grown gr B1.out.size (own_ge OW.out))
  clear own2 gr B1
  go_wp2
  go_ret
  exact ⟨_, rfl, O2.out, B2.out⟩
end Go.Proofs.YtdmbkjebagnloaaGreatDoor.hexes

