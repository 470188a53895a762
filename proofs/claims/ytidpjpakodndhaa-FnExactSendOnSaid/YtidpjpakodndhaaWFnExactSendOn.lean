/-
  The walk of FnExactSendOn.
-/
import Derived.Test.YtidpjpakodndhaaLkBase
import Derived.Test.YtidpjpakodndhaaLkCame
import Derived.Test.YtidpjpakodndhaaLkPlain
import Derived.Test.YtidpjpakodndhaaImplLk1
import Derived.Test.YtidpjpakodndhaaSpecLk1
import Derived.Test.YtidpjpakodndhaaLkBack
import Derived.Test.YtidpjpakodndhaaSpecSend
import Derived.Test.YtidpjpakodndhaaImplSend
import Derived.Test.YtidpjpakodndhaaLkSent
import Derived.Test.YtidpjpakodndhaaRegK5
import Derived.Test.YtidpjpakodndhaaRegK7
import Derived.Test.YtidpjpakodndhaaRegK24
import Derived.Deep.RegionHeld3
import Derived.Deep.DeepCutAuto
namespace Go.Proofs.Ytidpjpakodndhaa.fnExactSendOn
open Go.RowKit Go.Proofs.Ytidpjpakodndhaa.hexes

set_option maxRecDepth 1000000 in
set_option maxHeartbeats 8000000 in
theorem walk (A : Option Addr) (n c : Nat) (zs : List Rc) (p a b s g : Int) (p0 p1 p2 p3 p4 : Int) (_h0 : (Lit.int .i64 p0).wf = true) (_h1 : (Lit.int .i64 p1).wf = true) (_h2 : (Lit.int .i64 p2).wf = true) (_h3 : (Lit.int .i64 p3).wf = true) (_h4 : (Lit.int .i64 p4).wf = true) (w : World) (hZ : IsRcs w A n zs) (hGZ : g ≤ 9223372036854775807) :
    Calls Try.prog 7 #[.agg #[.int .i64 p, .slice A n c, .int .i64 a, .int .i64 b, .int .i64 s, .int .i64 g], .agg #[.int .i64 p0, .int .i64 p1, .int .i64 p2, .int .i64 p3, .int .i64 p4]] w fun e w' => e = .returned (.bool true) ∧ Below w.heap.size w w' := by
  have Z := Lib.hid hZ.len
  have maxZ := hZ.max
  have S := Lib.hid hZ.rcs
  clear hZ
  by_cases hn0 : (1048576 : Int) < (n : Int)
  · have C0 := Lib.hid (fun W => szLk_over A n c p a b s g (1048576) (by omega) (by omega) maxZ hn0 W)
    go_enter Try.func7, Try.ntmps7
    go_wp2_with fail
    generalize hW : ((w.alloc _).alloc _) = W
    have BB := Lib.hid (show Below w.heap.size w W by rw [← hW]; exact (((Below.refl _ _).alloc (by first | (simp; done) | (simp; omega) | omega) _).alloc (by first | (simp; done) | (simp; omega) | omega) _))
    have NB0 := Lib.hid (show Blk W (w.heap.size) 52 #[.int .i64 p, .slice A n c, .int .i64 a, .int .i64 b, .int .i64 s, .int .i64 g] by rw [← hW]; exact ((Below.heap_alloc _ _ _ (by first | (simp; done) | (simp; omega))).trans (Blk.new _ _ _)))
    clear hW
    refine (C0.out _).mono ?_
    rintro e v0 ⟨rfl, hb0⟩
    have BB0 := Lib.hid (below_chain BB.out hb0)
    have NB0_0 := Lib.hid (NB0.out.below hb0)
    clear hb0
    go_wp2
    go_ret
    exact ⟨rfl, BB0.out⟩
  have C0 := Lib.hid (fun W => szLk_in A n c p a b s g (1048576) (by omega) (by omega) maxZ hn0 W)
  have hd0 : decide ((1048576 : Int) - (n : Int) < 0) = false := by simp; omega
  have le0 : n ≤ 1048576 := by omega
  obtain ⟨r, hr⟩ : ∃ r, sendOk p a b s g n zs (p0, (p1, p2), p3, p4) = r := ⟨_, rfl⟩
  obtain ⟨us, hu⟩ : ∃ us, sendQ r zs (p0, (p1, p2), p3, p4) = us := ⟨_, rfl⟩
  obtain ⟨m, hm⟩ : ∃ m, us.length = m := ⟨_, rfl⟩
  have hmn : m ≤ n + 1 := by rw [← hm, ← hu, ← Z.out]; unfold sendQ; split <;> simp
  have HR := Lib.hid hr
  have HU := Lib.hid hu
  have HM := Lib.hid hm
  clear hr hu hm
  have hrr : (r != r) = false := by simp
  go_enter Try.func7, Try.ntmps7
  go_wp2_with fail
  generalize hW : ((w.alloc _).alloc _) = W
  have hb : Below w.heap.size w W := by rw [← hW]; exact (((Below.refl _ _).alloc (by first | (simp; done) | (simp; omega) | omega) _).alloc (by first | (simp; done) | (simp; omega) | omega) _)
  have azW : W.heap.size = w.heap.size + 2 := by rw [← hW]; simp
  have NL0 := Lib.hid (show Blk W (w.heap.size) 52 #[.int .i64 p, .slice A n c, .int .i64 a, .int .i64 b, .int .i64 s, .int .i64 g] by rw [← hW]; exact ((Below.heap_alloc _ _ _ (by first | (simp; done) | (simp; omega))).trans (Blk.new _ _ _)))
  have NRR := Lib.hid (show Blk W (w.heap.size + 1) 58 #[.int .i64 p0, .int .i64 p1, .int .i64 p2, .int .i64 p3, .int .i64 p4] by rw [← hW]; exact ((show w.heap.size + 1 = ((w.alloc _)).heap.size by simp) ▸ Blk.new _ _ _))
  clear hW
  have AZW := Lib.hid azW
  clear azW
  have sz1 := hb.size
  have B1 := Lib.hid (hb)
  clear hb
  have L0_1 := NL0
  clear NL0
  have ltL0 : w.heap.size < W.heap.size := L0_1.out.lt
  have RR_1 := NRR
  clear NRR
  have ltRR : w.heap.size + 1 < W.heap.size := RR_1.out.lt
  refine (C0.out _).mono ?_
  rintro e v0 ⟨rfl, hb⟩
  have sz2 := hb.size
  have B2 := Lib.hid (below_chain B1.out hb)
  have L0_2 := Lib.hid (L0_1.out.below hb)
  have RR_2 := Lib.hid (RR_1.out.below hb)
  clear hb B1 L0_1 RR_1
  clear C0
  go_upto_region 5 with fail
  go_cut [6, 7] (fun t u wx => SentOn v0 p (turnI r a (-1)) b (turnI r s 1) g r us m t u wx)
  case first =>
    refine wp_region_held_drew (S := fun w' => Below v0.heap.size v0 w') (by kernel_rfl) ?_ (fun hHeld => ?_)
    · exact (Below.refl _ _).drew
    change wpAnyH _ _ opsK5 _ _ 11 (#[false, false, false, false, false, false, false, false, false, false, false] : Array Bool) _ _
    refine tK5_e_0 (.agg #[.int .i64 p, .slice A n c, .int .i64 a, .int .i64 b, .int .i64 s, .int .i64 g]) (fun _ _ _ h => h) (Or.inl ⟨by rfl, fun W' hSw => ?_⟩) hHeld ?_
    · skip
      unfold qK5_0
      have c0 : W'.cell? ⟨w.heap.size, 0, none⟩ = some (.int .i64 p) := by rw [(L0_2.out.below hSw).cell]; rfl
      have c1 : W'.cell? ⟨w.heap.size, 1, none⟩ = some (.slice A n c) := by rw [(L0_2.out.below hSw).cell]; rfl
      have c2 : W'.cell? ⟨w.heap.size, 2, none⟩ = some (.int .i64 a) := by rw [(L0_2.out.below hSw).cell]; rfl
      have c3 : W'.cell? ⟨w.heap.size, 3, none⟩ = some (.int .i64 b) := by rw [(L0_2.out.below hSw).cell]; rfl
      have c4 : W'.cell? ⟨w.heap.size, 4, none⟩ = some (.int .i64 s) := by rw [(L0_2.out.below hSw).cell]; rfl
      have c5 : W'.cell? ⟨w.heap.size, 5, none⟩ = some (.int .i64 g) := by rw [(L0_2.out.below hSw).cell]; rfl
      go_simp
    try simp only [Act.put, List.setIfInBounds_toArray, List.set_cons_zero, List.set_cons_succ]
    refine tK5_0_2 (.agg #[.int .i64 p0, .int .i64 p1, .int .i64 p2, .int .i64 p3, .int .i64 p4]) (fun _ _ _ h => h) (Or.inl ⟨by rfl, fun W' hSw => ?_⟩) hHeld ?_
    · skip
      unfold qK5_2
      have c0 : W'.cell? ⟨w.heap.size + 1, 0, none⟩ = some (.int .i64 p0) := by rw [(RR_2.out.below hSw).cell]; rfl
      have c1 : W'.cell? ⟨w.heap.size + 1, 1, none⟩ = some (.int .i64 p1) := by rw [(RR_2.out.below hSw).cell]; rfl
      have c2 : W'.cell? ⟨w.heap.size + 1, 2, none⟩ = some (.int .i64 p2) := by rw [(RR_2.out.below hSw).cell]; rfl
      have c3 : W'.cell? ⟨w.heap.size + 1, 3, none⟩ = some (.int .i64 p3) := by rw [(RR_2.out.below hSw).cell]; rfl
      have c4 : W'.cell? ⟨w.heap.size + 1, 4, none⟩ = some (.int .i64 p4) := by rw [(RR_2.out.below hSw).cell]; rfl
      go_simp
    try simp only [Act.put, List.setIfInBounds_toArray, List.set_cons_zero, List.set_cons_succ]
    refine cK5_02_18 (fun K hK => ?_) (fun K hK => ?_)
    · rw [if_pos (by rfl)]
      unfold qK5_1
      go_simp
      refine (toLk_row A n c zs Z.out p a b s g _ ((S.out.below B2.out).below hHeld) le0).mono ?_
      rintro e w5 ⟨A5, c5, rfl, r5, hb5⟩
      have hHeld := below_chain hHeld hb5
      clear hb5
      refine Shut.out hK _ _ ?_ (fun hHeld => ?_)
      · exact hHeld
      clear hK K
      try simp only [Act.put, List.setIfInBounds_toArray, List.set_cons_zero, List.set_cons_succ]
      refine cK5_012_38 (fun K hK => ?_) (fun K hK => ?_)
      · rw [if_pos (by rfl)]
        unfold qK5_3
        go_simp
        refine (toRecord_any p0 p1 p2 p3 p4 _).mono ?_
        rintro e w6 ⟨rfl, hb6⟩
        have hHeld := below_chain hHeld hb6
        replace r5 := r5.below hb6
        clear hb6
        refine Shut.out hK _ _ ?_ (fun hHeld => ?_)
        · exact hHeld
        clear hK K
        try simp only [Act.put, List.setIfInBounds_toArray, List.set_cons_zero, List.set_cons_succ]
        refine cK5_0123_48 (fun K hK => ?_) (fun K hK => ?_)
        · rw [if_pos (by rfl)]
          unfold qK5_4
          go_simp
          have hsz := hHeld.size
          refine (specSend_any n zs Z.out A5 c5 r5.nil p a b s g p0 p1 p2 p3 p4 _ r5.rc le0 HR.out HU.out HM.out).mono ?_
          rintro e w7 ⟨A7, c7, rfl, o7, hb7⟩
          obtain ⟨A7', c7', he, r7⟩ := row_of o7
          simp only [Value.slice.injEq, true_and] at he
          obtain ⟨rfl, rfl⟩ := he
          clear o7
          have hsz7 := hb7.size
          have hHeld := below_chain hHeld hb7
          clear hb7
          refine Shut.out hK _ _ ?_ (fun hHeld => ?_)
          · exact hHeld
          clear hK K
          try simp only [Act.put, List.setIfInBounds_toArray, List.set_cons_zero, List.set_cons_succ]
          refine tK5_01234_5 (.tuple #[.agg #[.int .i64 p, .slice A7 m c7, .int .i64 (turnI r a (-1)), .int .i64 b, .int .i64 (turnI r s 1), .int .i64 g], .bool r]) (fun _ _ _ h => h) (Or.inl ⟨by rfl, fun W' hSw => ?_⟩) hHeld ?_
          · skip
            unfold qK5_5
            go_simp
          try simp only [Act.put, List.setIfInBounds_toArray, List.set_cons_zero, List.set_cons_succ]
          refine tK5_012345_6 (.agg #[.int .i64 p, .slice A7 m c7, .int .i64 (turnI r a (-1)), .int .i64 b, .int .i64 (turnI r s 1), .int .i64 g]) (fun _ _ _ h => h) (Or.inl ⟨by rfl, fun W' hSw => ?_⟩) hHeld ?_
          · skip
            unfold qK5_6
            go_simp
          try simp only [Act.put, List.setIfInBounds_toArray, List.set_cons_zero, List.set_cons_succ]
          refine tK5_0123456_7 (.bool r) (fun _ _ _ h => h) (Or.inl ⟨by rfl, fun W' hSw => ?_⟩) hHeld ?_
          · skip
            unfold qK5_7
            go_simp
          try simp only [Act.put, List.setIfInBounds_toArray, List.set_cons_zero, List.set_cons_succ]
          refine cK5_01234567_8 (fun K hK => ?_)
          rw [if_pos (by rfl)]
          unfold qK5_8
          go_simp
          generalize hV : World.alloc _ _ = V
          have jB := (show Blk V _ 26 #[.int .i64 0, .slice none 0 0, .int .i64 0, .int .i64 0, .int .i64 0, .int .i64 0] by rw [← hV]; exact Blk.new _ _ _)
          have hsv := hHeld.size
          have hbv := (show Below _ _ V by rw [← hV]; exact (Below.refl _ _).alloc (Nat.le_refl _) _)
          have hHeld := below_chain hHeld hbv
          have hszv := hbv.size
          replace r7 := r7.below hbv
          clear hbv hV
          refine Shut.out hK _ _ ?_ (fun hHeld => ?_)
          · exact hHeld
          clear hK K
          try simp only [Act.put, List.setIfInBounds_toArray, List.set_cons_zero, List.set_cons_succ]
          have SO := sentOn_mk (W := v0) (p := p) (x := turnI r a (-1)) (b := b) (y := turnI r s 1) (g := g) (r := r) jB r7 (by omega) (by omega) (by omega) (by omega) (by omega) hHeld
          refine cK5_012345678_9 (fun K hK => ?_)
          rw [if_pos (by rfl)]
          unfold qK5_9
          have y0 : V.cell? ⟨w7.heap.size, 0, none⟩ = some (.int .i64 0) := by rw [jB.cell]; rfl
          have z0 : V.frozen? ⟨w7.heap.size, 0, none⟩ = false := jB.frozen 0
          have y1 : V.cell? ⟨w7.heap.size, 1, none⟩ = some (.slice none 0 0) := by rw [jB.cell]; rfl
          have z1 : V.frozen? ⟨w7.heap.size, 1, none⟩ = false := jB.frozen 1
          have y2 : V.cell? ⟨w7.heap.size, 2, none⟩ = some (.int .i64 0) := by rw [jB.cell]; rfl
          have z2 : V.frozen? ⟨w7.heap.size, 2, none⟩ = false := jB.frozen 2
          have y3 : V.cell? ⟨w7.heap.size, 3, none⟩ = some (.int .i64 0) := by rw [jB.cell]; rfl
          have z3 : V.frozen? ⟨w7.heap.size, 3, none⟩ = false := jB.frozen 3
          have y4 : V.cell? ⟨w7.heap.size, 4, none⟩ = some (.int .i64 0) := by rw [jB.cell]; rfl
          have z4 : V.frozen? ⟨w7.heap.size, 4, none⟩ = false := jB.frozen 4
          have y5 : V.cell? ⟨w7.heap.size, 5, none⟩ = some (.int .i64 0) := by rw [jB.cell]; rfl
          have z5 : V.frozen? ⟨w7.heap.size, 5, none⟩ = false := jB.frozen 5
          go_simp
          refine Shut.out hK _ _ ?_ (fun hHeld => ?_)
          · obtain ⟨_, _, _, _, _, _, _, _, _, _, _, _, _, _, hq⟩ := SO; exact hq
          clear hK K
          try simp only [Act.put, List.setIfInBounds_toArray, List.set_cons_zero, List.set_cons_succ]
          refine tK5_0123456789_10 (.bool r) (fun _ _ _ h => h) (Or.inl ⟨by rfl, fun W' hSw => ?_⟩) hHeld ?_
          · skip
            unfold qK5_10
            go_simp
          try simp only [Act.put, List.setIfInBounds_toArray, List.set_cons_zero, List.set_cons_succ]
          refine wpAnyH_done (by kernel_rfl) ?_ _
          clear hHeld
          go_wp2_with fail
          go_meet
          exact SO
        · rw [if_pos (by rfl)]
          unfold qK5_8
          go_simp
          generalize hV : World.alloc _ _ = V
          have jB := (show Blk V _ 26 #[.int .i64 0, .slice none 0 0, .int .i64 0, .int .i64 0, .int .i64 0, .int .i64 0] by rw [← hV]; exact Blk.new _ _ _)
          have hsv := hHeld.size
          have hbv := (show Below _ _ V by rw [← hV]; exact (Below.refl _ _).alloc (Nat.le_refl _) _)
          have hHeld := below_chain hHeld hbv
          have hszv := hbv.size
          replace r5 := r5.below hbv
          clear hbv hV
          refine Shut.out hK _ _ ?_ (fun hHeld => ?_)
          · exact hHeld
          clear hK K
          try simp only [Act.put, List.setIfInBounds_toArray, List.set_cons_zero, List.set_cons_succ]
          refine cK5_01238_4 (fun K hK => ?_)
          rw [if_pos (by rfl)]
          unfold qK5_4
          go_simp
          have hsz := hHeld.size
          refine (specSend_any n zs Z.out A5 c5 r5.nil p a b s g p0 p1 p2 p3 p4 _ r5.rc le0 HR.out HU.out HM.out).mono ?_
          rintro e w7 ⟨A7, c7, rfl, o7, hb7⟩
          obtain ⟨A7', c7', he, r7⟩ := row_of o7
          simp only [Value.slice.injEq, true_and] at he
          obtain ⟨rfl, rfl⟩ := he
          clear o7
          have hsz7 := hb7.size
          have hHeld := below_chain hHeld hb7
          have jlt := jB.lt
          replace jB := jB.below hb7
          clear hb7
          refine Shut.out hK _ _ ?_ (fun hHeld => ?_)
          · exact hHeld
          clear hK K
          try simp only [Act.put, List.setIfInBounds_toArray, List.set_cons_zero, List.set_cons_succ]
          refine tK5_012348_5 (.tuple #[.agg #[.int .i64 p, .slice A7 m c7, .int .i64 (turnI r a (-1)), .int .i64 b, .int .i64 (turnI r s 1), .int .i64 g], .bool r]) (fun _ _ _ h => h) (Or.inl ⟨by rfl, fun W' hSw => ?_⟩) hHeld ?_
          · skip
            unfold qK5_5
            go_simp
          try simp only [Act.put, List.setIfInBounds_toArray, List.set_cons_zero, List.set_cons_succ]
          refine tK5_0123458_6 (.agg #[.int .i64 p, .slice A7 m c7, .int .i64 (turnI r a (-1)), .int .i64 b, .int .i64 (turnI r s 1), .int .i64 g]) (fun _ _ _ h => h) (Or.inl ⟨by rfl, fun W' hSw => ?_⟩) hHeld ?_
          · skip
            unfold qK5_6
            go_simp
          try simp only [Act.put, List.setIfInBounds_toArray, List.set_cons_zero, List.set_cons_succ]
          refine tK5_01234568_7 (.bool r) (fun _ _ _ h => h) (Or.inl ⟨by rfl, fun W' hSw => ?_⟩) hHeld ?_
          · skip
            unfold qK5_7
            go_simp
          try simp only [Act.put, List.setIfInBounds_toArray, List.set_cons_zero, List.set_cons_succ]
          have SO := sentOn_mk (W := v0) (p := p) (x := turnI r a (-1)) (b := b) (y := turnI r s 1) (g := g) (r := r) jB r7 (by omega) (by omega) (by omega) (by omega) (by omega) hHeld
          refine cK5_012345678_9 (fun K hK => ?_)
          rw [if_pos (by rfl)]
          unfold qK5_9
          have y0 : w7.cell? ⟨w6.heap.size, 0, none⟩ = some (.int .i64 0) := by rw [jB.cell]; rfl
          have z0 : w7.frozen? ⟨w6.heap.size, 0, none⟩ = false := jB.frozen 0
          have y1 : w7.cell? ⟨w6.heap.size, 1, none⟩ = some (.slice none 0 0) := by rw [jB.cell]; rfl
          have z1 : w7.frozen? ⟨w6.heap.size, 1, none⟩ = false := jB.frozen 1
          have y2 : w7.cell? ⟨w6.heap.size, 2, none⟩ = some (.int .i64 0) := by rw [jB.cell]; rfl
          have z2 : w7.frozen? ⟨w6.heap.size, 2, none⟩ = false := jB.frozen 2
          have y3 : w7.cell? ⟨w6.heap.size, 3, none⟩ = some (.int .i64 0) := by rw [jB.cell]; rfl
          have z3 : w7.frozen? ⟨w6.heap.size, 3, none⟩ = false := jB.frozen 3
          have y4 : w7.cell? ⟨w6.heap.size, 4, none⟩ = some (.int .i64 0) := by rw [jB.cell]; rfl
          have z4 : w7.frozen? ⟨w6.heap.size, 4, none⟩ = false := jB.frozen 4
          have y5 : w7.cell? ⟨w6.heap.size, 5, none⟩ = some (.int .i64 0) := by rw [jB.cell]; rfl
          have z5 : w7.frozen? ⟨w6.heap.size, 5, none⟩ = false := jB.frozen 5
          go_simp
          refine Shut.out hK _ _ ?_ (fun hHeld => ?_)
          · obtain ⟨_, _, _, _, _, _, _, _, _, _, _, _, _, _, hq⟩ := SO; exact hq
          clear hK K
          try simp only [Act.put, List.setIfInBounds_toArray, List.set_cons_zero, List.set_cons_succ]
          refine tK5_0123456789_10 (.bool r) (fun _ _ _ h => h) (Or.inl ⟨by rfl, fun W' hSw => ?_⟩) hHeld ?_
          · skip
            unfold qK5_10
            go_simp
          try simp only [Act.put, List.setIfInBounds_toArray, List.set_cons_zero, List.set_cons_succ]
          refine wpAnyH_done (by kernel_rfl) ?_ _
          clear hHeld
          go_wp2_with fail
          go_meet
          exact SO
      · rw [if_pos (by rfl)]
        unfold qK5_8
        go_simp
        generalize hV : World.alloc _ _ = V
        have jB := (show Blk V _ 26 #[.int .i64 0, .slice none 0 0, .int .i64 0, .int .i64 0, .int .i64 0, .int .i64 0] by rw [← hV]; exact Blk.new _ _ _)
        have hsv := hHeld.size
        have hbv := (show Below _ _ V by rw [← hV]; exact (Below.refl _ _).alloc (Nat.le_refl _) _)
        have hHeld := below_chain hHeld hbv
        have hszv := hbv.size
        replace r5 := r5.below hbv
        clear hbv hV
        refine Shut.out hK _ _ ?_ (fun hHeld => ?_)
        · exact hHeld
        clear hK K
        try simp only [Act.put, List.setIfInBounds_toArray, List.set_cons_zero, List.set_cons_succ]
        refine cK5_0128_3 (fun K hK => ?_)
        rw [if_pos (by rfl)]
        unfold qK5_3
        go_simp
        refine (toRecord_any p0 p1 p2 p3 p4 _).mono ?_
        rintro e w6 ⟨rfl, hb6⟩
        have hHeld := below_chain hHeld hb6
        replace r5 := r5.below hb6
        replace jB := jB.below hb6
        clear hb6
        refine Shut.out hK _ _ ?_ (fun hHeld => ?_)
        · exact hHeld
        clear hK K
        try simp only [Act.put, List.setIfInBounds_toArray, List.set_cons_zero, List.set_cons_succ]
        refine cK5_01238_4 (fun K hK => ?_)
        rw [if_pos (by rfl)]
        unfold qK5_4
        go_simp
        have hsz := hHeld.size
        refine (specSend_any n zs Z.out A5 c5 r5.nil p a b s g p0 p1 p2 p3 p4 _ r5.rc le0 HR.out HU.out HM.out).mono ?_
        rintro e w7 ⟨A7, c7, rfl, o7, hb7⟩
        obtain ⟨A7', c7', he, r7⟩ := row_of o7
        simp only [Value.slice.injEq, true_and] at he
        obtain ⟨rfl, rfl⟩ := he
        clear o7
        have hsz7 := hb7.size
        have hHeld := below_chain hHeld hb7
        have jlt := jB.lt
        replace jB := jB.below hb7
        clear hb7
        refine Shut.out hK _ _ ?_ (fun hHeld => ?_)
        · exact hHeld
        clear hK K
        try simp only [Act.put, List.setIfInBounds_toArray, List.set_cons_zero, List.set_cons_succ]
        refine tK5_012348_5 (.tuple #[.agg #[.int .i64 p, .slice A7 m c7, .int .i64 (turnI r a (-1)), .int .i64 b, .int .i64 (turnI r s 1), .int .i64 g], .bool r]) (fun _ _ _ h => h) (Or.inl ⟨by rfl, fun W' hSw => ?_⟩) hHeld ?_
        · skip
          unfold qK5_5
          go_simp
        try simp only [Act.put, List.setIfInBounds_toArray, List.set_cons_zero, List.set_cons_succ]
        refine tK5_0123458_6 (.agg #[.int .i64 p, .slice A7 m c7, .int .i64 (turnI r a (-1)), .int .i64 b, .int .i64 (turnI r s 1), .int .i64 g]) (fun _ _ _ h => h) (Or.inl ⟨by rfl, fun W' hSw => ?_⟩) hHeld ?_
        · skip
          unfold qK5_6
          go_simp
        try simp only [Act.put, List.setIfInBounds_toArray, List.set_cons_zero, List.set_cons_succ]
        refine tK5_01234568_7 (.bool r) (fun _ _ _ h => h) (Or.inl ⟨by rfl, fun W' hSw => ?_⟩) hHeld ?_
        · skip
          unfold qK5_7
          go_simp
        try simp only [Act.put, List.setIfInBounds_toArray, List.set_cons_zero, List.set_cons_succ]
        have SO := sentOn_mk (W := v0) (p := p) (x := turnI r a (-1)) (b := b) (y := turnI r s 1) (g := g) (r := r) jB r7 (by omega) (by omega) (by omega) (by omega) (by omega) hHeld
        refine cK5_012345678_9 (fun K hK => ?_)
        rw [if_pos (by rfl)]
        unfold qK5_9
        have y0 : w7.cell? ⟨w5.heap.size, 0, none⟩ = some (.int .i64 0) := by rw [jB.cell]; rfl
        have z0 : w7.frozen? ⟨w5.heap.size, 0, none⟩ = false := jB.frozen 0
        have y1 : w7.cell? ⟨w5.heap.size, 1, none⟩ = some (.slice none 0 0) := by rw [jB.cell]; rfl
        have z1 : w7.frozen? ⟨w5.heap.size, 1, none⟩ = false := jB.frozen 1
        have y2 : w7.cell? ⟨w5.heap.size, 2, none⟩ = some (.int .i64 0) := by rw [jB.cell]; rfl
        have z2 : w7.frozen? ⟨w5.heap.size, 2, none⟩ = false := jB.frozen 2
        have y3 : w7.cell? ⟨w5.heap.size, 3, none⟩ = some (.int .i64 0) := by rw [jB.cell]; rfl
        have z3 : w7.frozen? ⟨w5.heap.size, 3, none⟩ = false := jB.frozen 3
        have y4 : w7.cell? ⟨w5.heap.size, 4, none⟩ = some (.int .i64 0) := by rw [jB.cell]; rfl
        have z4 : w7.frozen? ⟨w5.heap.size, 4, none⟩ = false := jB.frozen 4
        have y5 : w7.cell? ⟨w5.heap.size, 5, none⟩ = some (.int .i64 0) := by rw [jB.cell]; rfl
        have z5 : w7.frozen? ⟨w5.heap.size, 5, none⟩ = false := jB.frozen 5
        go_simp
        refine Shut.out hK _ _ ?_ (fun hHeld => ?_)
        · obtain ⟨_, _, _, _, _, _, _, _, _, _, _, _, _, _, hq⟩ := SO; exact hq
        clear hK K
        try simp only [Act.put, List.setIfInBounds_toArray, List.set_cons_zero, List.set_cons_succ]
        refine tK5_0123456789_10 (.bool r) (fun _ _ _ h => h) (Or.inl ⟨by rfl, fun W' hSw => ?_⟩) hHeld ?_
        · skip
          unfold qK5_10
          go_simp
        try simp only [Act.put, List.setIfInBounds_toArray, List.set_cons_zero, List.set_cons_succ]
        refine wpAnyH_done (by kernel_rfl) ?_ _
        clear hHeld
        go_wp2_with fail
        go_meet
        exact SO
    · rw [if_pos (by rfl)]
      unfold qK5_8
      go_simp
      generalize hV0 : World.alloc _ _ = V0
      obtain ⟨V, hV⟩ : ∃ z, z = World.drew V0 := ⟨_, rfl⟩
      rw [← hV]
      have jB : Blk V v0.heap.size 26 #[.int .i64 0, .slice none 0 0, .int .i64 0, .int .i64 0, .int .i64 0, .int .i64 0] := by rw [hV, ← hV0]; exact Blk.new _ _ _
      have hbv : Below v0.heap.size v0 V := by rw [hV, ← hV0]; exact ((Below.refl _ _).alloc (Nat.le_refl _) _).drew
      have hHeld := hbv
      have hszv := hbv.size
      clear hbv hV hV0
      refine Shut.out hK _ _ ?_ (fun hHeld => ?_)
      · exact hHeld
      clear hK K
      try simp only [Act.put, List.setIfInBounds_toArray, List.set_cons_zero, List.set_cons_succ]
      refine cK5_028_1 (fun K hK => ?_)
      rw [if_pos (by rfl)]
      unfold qK5_1
      go_simp
      refine (toLk_row A n c zs Z.out p a b s g _ ((S.out.below B2.out).below hHeld) le0).mono ?_
      rintro e w5 ⟨A5, c5, rfl, r5, hb5⟩
      have hHeld := below_chain hHeld hb5
      replace jB := jB.below hb5
      clear hb5
      refine Shut.out hK _ _ ?_ (fun hHeld => ?_)
      · exact hHeld
      clear hK K
      try simp only [Act.put, List.setIfInBounds_toArray, List.set_cons_zero, List.set_cons_succ]
      refine cK5_0128_3 (fun K hK => ?_)
      rw [if_pos (by rfl)]
      unfold qK5_3
      go_simp
      refine (toRecord_any p0 p1 p2 p3 p4 _).mono ?_
      rintro e w6 ⟨rfl, hb6⟩
      have hHeld := below_chain hHeld hb6
      replace r5 := r5.below hb6
      replace jB := jB.below hb6
      clear hb6
      refine Shut.out hK _ _ ?_ (fun hHeld => ?_)
      · exact hHeld
      clear hK K
      try simp only [Act.put, List.setIfInBounds_toArray, List.set_cons_zero, List.set_cons_succ]
      refine cK5_01238_4 (fun K hK => ?_)
      rw [if_pos (by rfl)]
      unfold qK5_4
      go_simp
      have hsz := hHeld.size
      refine (specSend_any n zs Z.out A5 c5 r5.nil p a b s g p0 p1 p2 p3 p4 _ r5.rc le0 HR.out HU.out HM.out).mono ?_
      rintro e w7 ⟨A7, c7, rfl, o7, hb7⟩
      obtain ⟨A7', c7', he, r7⟩ := row_of o7
      simp only [Value.slice.injEq, true_and] at he
      obtain ⟨rfl, rfl⟩ := he
      clear o7
      have hsz7 := hb7.size
      have hHeld := below_chain hHeld hb7
      have jlt := jB.lt
      replace jB := jB.below hb7
      clear hb7
      refine Shut.out hK _ _ ?_ (fun hHeld => ?_)
      · exact hHeld
      clear hK K
      try simp only [Act.put, List.setIfInBounds_toArray, List.set_cons_zero, List.set_cons_succ]
      refine tK5_012348_5 (.tuple #[.agg #[.int .i64 p, .slice A7 m c7, .int .i64 (turnI r a (-1)), .int .i64 b, .int .i64 (turnI r s 1), .int .i64 g], .bool r]) (fun _ _ _ h => h) (Or.inl ⟨by rfl, fun W' hSw => ?_⟩) hHeld ?_
      · skip
        unfold qK5_5
        go_simp
      try simp only [Act.put, List.setIfInBounds_toArray, List.set_cons_zero, List.set_cons_succ]
      refine tK5_0123458_6 (.agg #[.int .i64 p, .slice A7 m c7, .int .i64 (turnI r a (-1)), .int .i64 b, .int .i64 (turnI r s 1), .int .i64 g]) (fun _ _ _ h => h) (Or.inl ⟨by rfl, fun W' hSw => ?_⟩) hHeld ?_
      · skip
        unfold qK5_6
        go_simp
      try simp only [Act.put, List.setIfInBounds_toArray, List.set_cons_zero, List.set_cons_succ]
      refine tK5_01234568_7 (.bool r) (fun _ _ _ h => h) (Or.inl ⟨by rfl, fun W' hSw => ?_⟩) hHeld ?_
      · skip
        unfold qK5_7
        go_simp
      try simp only [Act.put, List.setIfInBounds_toArray, List.set_cons_zero, List.set_cons_succ]
      have SO := sentOn_mk (W := v0) (p := p) (x := turnI r a (-1)) (b := b) (y := turnI r s 1) (g := g) (r := r) jB r7 (by omega) (by omega) (by omega) (by omega) (by omega) hHeld
      refine cK5_012345678_9 (fun K hK => ?_)
      rw [if_pos (by rfl)]
      unfold qK5_9
      have y0 : w7.cell? ⟨v0.heap.size, 0, none⟩ = some (.int .i64 0) := by rw [jB.cell]; rfl
      have z0 : w7.frozen? ⟨v0.heap.size, 0, none⟩ = false := jB.frozen 0
      have y1 : w7.cell? ⟨v0.heap.size, 1, none⟩ = some (.slice none 0 0) := by rw [jB.cell]; rfl
      have z1 : w7.frozen? ⟨v0.heap.size, 1, none⟩ = false := jB.frozen 1
      have y2 : w7.cell? ⟨v0.heap.size, 2, none⟩ = some (.int .i64 0) := by rw [jB.cell]; rfl
      have z2 : w7.frozen? ⟨v0.heap.size, 2, none⟩ = false := jB.frozen 2
      have y3 : w7.cell? ⟨v0.heap.size, 3, none⟩ = some (.int .i64 0) := by rw [jB.cell]; rfl
      have z3 : w7.frozen? ⟨v0.heap.size, 3, none⟩ = false := jB.frozen 3
      have y4 : w7.cell? ⟨v0.heap.size, 4, none⟩ = some (.int .i64 0) := by rw [jB.cell]; rfl
      have z4 : w7.frozen? ⟨v0.heap.size, 4, none⟩ = false := jB.frozen 4
      have y5 : w7.cell? ⟨v0.heap.size, 5, none⟩ = some (.int .i64 0) := by rw [jB.cell]; rfl
      have z5 : w7.frozen? ⟨v0.heap.size, 5, none⟩ = false := jB.frozen 5
      go_simp
      refine Shut.out hK _ _ ?_ (fun hHeld => ?_)
      · obtain ⟨_, _, _, _, _, _, _, _, _, _, _, _, _, _, hq⟩ := SO; exact hq
      clear hK K
      try simp only [Act.put, List.setIfInBounds_toArray, List.set_cons_zero, List.set_cons_succ]
      refine tK5_0123456789_10 (.bool r) (fun _ _ _ h => h) (Or.inl ⟨by rfl, fun W' hSw => ?_⟩) hHeld ?_
      · skip
        unfold qK5_10
        go_simp
      try simp only [Act.put, List.setIfInBounds_toArray, List.set_cons_zero, List.set_cons_succ]
      refine wpAnyH_done (by kernel_rfl) ?_ _
      clear hHeld
      go_wp2_with fail
      go_meet
      exact SO
  case rest =>
  obtain ⟨j2, A2, c2, lo2, hi2, rfl, rfl, nb, nr, f12, f22, f32, f42, f52, hb⟩ := hcut
  obtain ⟨u2, hwc⟩ : ∃ z, z = wc := ⟨_, rfl⟩
  subst hwc
  have sz3 := hb.size
  have B3 := Lib.hid (below_chain B2.out hb)
  have L0_3 := Lib.hid (L0_2.out.below hb)
  have RR_3 := Lib.hid (RR_2.out.below hb)
  clear hb B2 L0_2 RR_2
  have X2_3 := Lib.hid nr
  clear nr
  have w0_3 := Lib.hid nb
  clear nb
  have ltw0 : j2 < u2.heap.size := w0_3.out.lt
  have xL00 : u2.cell? ⟨w.heap.size, 0, none⟩ = some (.int .i64 p) := by rw [L0_3.out.cell]; rfl
  have xL01 : u2.cell? ⟨w.heap.size, 1, none⟩ = some (.slice A n c) := by rw [L0_3.out.cell]; rfl
  have xL02 : u2.cell? ⟨w.heap.size, 2, none⟩ = some (.int .i64 a) := by rw [L0_3.out.cell]; rfl
  have xL03 : u2.cell? ⟨w.heap.size, 3, none⟩ = some (.int .i64 b) := by rw [L0_3.out.cell]; rfl
  have xL04 : u2.cell? ⟨w.heap.size, 4, none⟩ = some (.int .i64 s) := by rw [L0_3.out.cell]; rfl
  have xL05 : u2.cell? ⟨w.heap.size, 5, none⟩ = some (.int .i64 g) := by rw [L0_3.out.cell]; rfl
  go_wp2_with fail
  clear xL00 xL01 xL02 xL03 xL04 xL05
  refine (toLk_row A n c zs Z.out p a b s g _ (S.out.below B3.out) le0).mono ?_
  rintro e w3 ⟨A3, c3, rfl, r3, hb⟩
  have sz4 := hb.size
  have B4 := Lib.hid (below_chain B3.out hb)
  have X2_4 := Lib.hid (X2_3.out.below hb)
  have L0_4 := Lib.hid (L0_3.out.below hb)
  have RR_4 := Lib.hid (RR_3.out.below hb)
  have w0_4 := Lib.hid (w0_3.out.below hb)
  clear hb B3 X2_3 L0_3 RR_3 w0_3
  have X3_4 := Lib.hid r3
  clear r3
  go_wp2_with fail
  generalize hW : (w3.alloc _) = V3
  have hb : Below w3.heap.size w3 V3 := by rw [← hW]; exact ((Below.refl _ _).alloc (by first | (simp; done) | (simp; omega) | omega) _)
  have azV3 : V3.heap.size = w3.heap.size + 1 := by rw [← hW]; simp
  have Nx0 := Lib.hid (show Blk V3 (w3.heap.size) 26 #[.int .i64 p, .slice A3 n c3, .int .i64 a, .int .i64 b, .int .i64 s, .int .i64 g] by rw [← hW]; exact (Blk.new _ _ _))
  clear hW
  have AZV3 := Lib.hid azV3
  clear azV3
  have sz5 := hb.size
  have B5 := Lib.hid (below_chain B4.out hb)
  have X2_5 := Lib.hid (X2_4.out.below hb)
  have X3_5 := Lib.hid (X3_4.out.below hb)
  have L0_5 := Lib.hid (L0_4.out.below hb)
  have RR_5 := Lib.hid (RR_4.out.below hb)
  have w0_5 := Lib.hid (w0_4.out.below hb)
  clear hb B4 X2_4 X3_4 L0_4 RR_4 w0_4
  have x0_5 := Nx0
  clear Nx0
  have ltx0 : w3.heap.size < V3.heap.size := x0_5.out.lt
  go_upto_region 7 with fail
  go_cut [9, 10] (fun t u wx => SentOn V3 p (turnI r a (-1)) b (turnI r s 1) g r us m t u wx)
  case first =>
    refine wp_region_held_drew (S := fun w' => Below V3.heap.size V3 w') (by kernel_rfl) ?_ (fun hHeld => ?_)
    · exact (Below.refl _ _).drew
    change wpAnyH _ _ opsK7 _ _ 10 (#[false, false, false, false, false, false, false, false, false, false] : Array Bool) _ _
    refine tK7_e_0 (.agg #[.int .i64 p, .slice A3 n c3, .int .i64 a, .int .i64 b, .int .i64 s, .int .i64 g]) (fun _ _ _ h => h) (Or.inl ⟨by rfl, fun W' hSw => ?_⟩) hHeld ?_
    · skip
      unfold qK7_0
      have c0 : W'.cell? ⟨w3.heap.size, 0, none⟩ = some (.int .i64 p) := by rw [(x0_5.out.below hSw).cell]; rfl
      have c1 : W'.cell? ⟨w3.heap.size, 1, none⟩ = some (.slice A3 n c3) := by rw [(x0_5.out.below hSw).cell]; rfl
      have c2 : W'.cell? ⟨w3.heap.size, 2, none⟩ = some (.int .i64 a) := by rw [(x0_5.out.below hSw).cell]; rfl
      have c3 : W'.cell? ⟨w3.heap.size, 3, none⟩ = some (.int .i64 b) := by rw [(x0_5.out.below hSw).cell]; rfl
      have c4 : W'.cell? ⟨w3.heap.size, 4, none⟩ = some (.int .i64 s) := by rw [(x0_5.out.below hSw).cell]; rfl
      have c5 : W'.cell? ⟨w3.heap.size, 5, none⟩ = some (.int .i64 g) := by rw [(x0_5.out.below hSw).cell]; rfl
      go_simp
    try simp only [Act.put, List.setIfInBounds_toArray, List.set_cons_zero, List.set_cons_succ]
    refine tK7_0_1 (.agg #[.int .i64 p0, .int .i64 p1, .int .i64 p2, .int .i64 p3, .int .i64 p4]) (fun _ _ _ h => h) (Or.inl ⟨by rfl, fun W' hSw => ?_⟩) hHeld ?_
    · skip
      unfold qK7_1
      have c0 : W'.cell? ⟨w.heap.size + 1, 0, none⟩ = some (.int .i64 p0) := by rw [(RR_5.out.below hSw).cell]; rfl
      have c1 : W'.cell? ⟨w.heap.size + 1, 1, none⟩ = some (.int .i64 p1) := by rw [(RR_5.out.below hSw).cell]; rfl
      have c2 : W'.cell? ⟨w.heap.size + 1, 2, none⟩ = some (.int .i64 p2) := by rw [(RR_5.out.below hSw).cell]; rfl
      have c3 : W'.cell? ⟨w.heap.size + 1, 3, none⟩ = some (.int .i64 p3) := by rw [(RR_5.out.below hSw).cell]; rfl
      have c4 : W'.cell? ⟨w.heap.size + 1, 4, none⟩ = some (.int .i64 p4) := by rw [(RR_5.out.below hSw).cell]; rfl
      go_simp
    try simp only [Act.put, List.setIfInBounds_toArray, List.set_cons_zero, List.set_cons_succ]
    refine cK7_01_27 (fun K hK => ?_) (fun K hK => ?_)
    · rw [if_pos (by rfl)]
      unfold qK7_2
      go_simp
      refine (toRecord_any p0 p1 p2 p3 p4 _).mono ?_
      rintro e w6 ⟨rfl, hb6⟩
      have hHeld := below_chain hHeld hb6
      clear hb6
      refine Shut.out hK _ _ ?_ (fun hHeld => ?_)
      · exact hHeld
      clear hK K
      try simp only [Act.put, List.setIfInBounds_toArray, List.set_cons_zero, List.set_cons_succ]
      refine cK7_012_37 (fun K hK => ?_) (fun K hK => ?_)
      · rw [if_pos (by rfl)]
        unfold qK7_3
        go_simp
        have hsz := hHeld.size
        refine (implSend_any n zs Z.out A3 c3 (X3_5.out.nil) p a b s g p0 p1 p2 p3 p4 hGZ _ (X3_5.out.rc.below hHeld) le0 HR.out HU.out HM.out).mono ?_
        rintro e w7 ⟨A7, c7, rfl, o7, hb7⟩
        obtain ⟨A7', c7', he, r7⟩ := row_of o7
        simp only [Value.slice.injEq, true_and] at he
        obtain ⟨rfl, rfl⟩ := he
        clear o7
        have hsz7 := hb7.size
        have hHeld := below_chain hHeld hb7
        clear hb7
        refine Shut.out hK _ _ ?_ (fun hHeld => ?_)
        · exact hHeld
        clear hK K
        try simp only [Act.put, List.setIfInBounds_toArray, List.set_cons_zero, List.set_cons_succ]
        refine tK7_0123_4 (.tuple #[.agg #[.int .i64 p, .slice A7 m c7, .int .i64 (turnI r a (-1)), .int .i64 b, .int .i64 (turnI r s 1), .int .i64 g], .bool r]) (fun _ _ _ h => h) (Or.inl ⟨by rfl, fun W' hSw => ?_⟩) hHeld ?_
        · skip
          unfold qK7_4
          go_simp
        try simp only [Act.put, List.setIfInBounds_toArray, List.set_cons_zero, List.set_cons_succ]
        refine tK7_01234_5 (.agg #[.int .i64 p, .slice A7 m c7, .int .i64 (turnI r a (-1)), .int .i64 b, .int .i64 (turnI r s 1), .int .i64 g]) (fun _ _ _ h => h) (Or.inl ⟨by rfl, fun W' hSw => ?_⟩) hHeld ?_
        · skip
          unfold qK7_5
          go_simp
        try simp only [Act.put, List.setIfInBounds_toArray, List.set_cons_zero, List.set_cons_succ]
        refine tK7_012345_6 (.bool r) (fun _ _ _ h => h) (Or.inl ⟨by rfl, fun W' hSw => ?_⟩) hHeld ?_
        · skip
          unfold qK7_6
          go_simp
        try simp only [Act.put, List.setIfInBounds_toArray, List.set_cons_zero, List.set_cons_succ]
        refine cK7_0123456_7 (fun K hK => ?_)
        rw [if_pos (by rfl)]
        unfold qK7_7
        go_simp
        generalize hV : World.alloc _ _ = V
        have jB := (show Blk V _ 26 #[.int .i64 0, .slice none 0 0, .int .i64 0, .int .i64 0, .int .i64 0, .int .i64 0] by rw [← hV]; exact Blk.new _ _ _)
        have hsv := hHeld.size
        have hbv := (show Below _ _ V by rw [← hV]; exact (Below.refl _ _).alloc (Nat.le_refl _) _)
        have hHeld := below_chain hHeld hbv
        have hszv := hbv.size
        replace r7 := r7.below hbv
        clear hbv hV
        refine Shut.out hK _ _ ?_ (fun hHeld => ?_)
        · exact hHeld
        clear hK K
        try simp only [Act.put, List.setIfInBounds_toArray, List.set_cons_zero, List.set_cons_succ]
        have SO := sentOn_mk (W := V3) (p := p) (x := turnI r a (-1)) (b := b) (y := turnI r s 1) (g := g) (r := r) jB r7 (by omega) (by omega) (by omega) (by omega) (by omega) hHeld
        refine cK7_01234567_8 (fun K hK => ?_)
        rw [if_pos (by rfl)]
        unfold qK7_8
        have y0 : V.cell? ⟨w7.heap.size, 0, none⟩ = some (.int .i64 0) := by rw [jB.cell]; rfl
        have z0 : V.frozen? ⟨w7.heap.size, 0, none⟩ = false := jB.frozen 0
        have y1 : V.cell? ⟨w7.heap.size, 1, none⟩ = some (.slice none 0 0) := by rw [jB.cell]; rfl
        have z1 : V.frozen? ⟨w7.heap.size, 1, none⟩ = false := jB.frozen 1
        have y2 : V.cell? ⟨w7.heap.size, 2, none⟩ = some (.int .i64 0) := by rw [jB.cell]; rfl
        have z2 : V.frozen? ⟨w7.heap.size, 2, none⟩ = false := jB.frozen 2
        have y3 : V.cell? ⟨w7.heap.size, 3, none⟩ = some (.int .i64 0) := by rw [jB.cell]; rfl
        have z3 : V.frozen? ⟨w7.heap.size, 3, none⟩ = false := jB.frozen 3
        have y4 : V.cell? ⟨w7.heap.size, 4, none⟩ = some (.int .i64 0) := by rw [jB.cell]; rfl
        have z4 : V.frozen? ⟨w7.heap.size, 4, none⟩ = false := jB.frozen 4
        have y5 : V.cell? ⟨w7.heap.size, 5, none⟩ = some (.int .i64 0) := by rw [jB.cell]; rfl
        have z5 : V.frozen? ⟨w7.heap.size, 5, none⟩ = false := jB.frozen 5
        go_simp
        refine Shut.out hK _ _ ?_ (fun hHeld => ?_)
        · obtain ⟨_, _, _, _, _, _, _, _, _, _, _, _, _, _, hq⟩ := SO; exact hq
        clear hK K
        try simp only [Act.put, List.setIfInBounds_toArray, List.set_cons_zero, List.set_cons_succ]
        refine tK7_012345678_9 (.bool r) (fun _ _ _ h => h) (Or.inl ⟨by rfl, fun W' hSw => ?_⟩) hHeld ?_
        · skip
          unfold qK7_9
          go_simp
        try simp only [Act.put, List.setIfInBounds_toArray, List.set_cons_zero, List.set_cons_succ]
        refine wpAnyH_done (by kernel_rfl) ?_ _
        clear hHeld
        go_wp2_with fail
        go_meet
        exact SO
      · rw [if_pos (by rfl)]
        unfold qK7_7
        go_simp
        generalize hV : World.alloc _ _ = V
        have jB := (show Blk V _ 26 #[.int .i64 0, .slice none 0 0, .int .i64 0, .int .i64 0, .int .i64 0, .int .i64 0] by rw [← hV]; exact Blk.new _ _ _)
        have hsv := hHeld.size
        have hbv := (show Below _ _ V by rw [← hV]; exact (Below.refl _ _).alloc (Nat.le_refl _) _)
        have hHeld := below_chain hHeld hbv
        have hszv := hbv.size
        clear hbv hV
        refine Shut.out hK _ _ ?_ (fun hHeld => ?_)
        · exact hHeld
        clear hK K
        try simp only [Act.put, List.setIfInBounds_toArray, List.set_cons_zero, List.set_cons_succ]
        refine cK7_0127_3 (fun K hK => ?_)
        rw [if_pos (by rfl)]
        unfold qK7_3
        go_simp
        have hsz := hHeld.size
        refine (implSend_any n zs Z.out A3 c3 (X3_5.out.nil) p a b s g p0 p1 p2 p3 p4 hGZ _ (X3_5.out.rc.below hHeld) le0 HR.out HU.out HM.out).mono ?_
        rintro e w7 ⟨A7, c7, rfl, o7, hb7⟩
        obtain ⟨A7', c7', he, r7⟩ := row_of o7
        simp only [Value.slice.injEq, true_and] at he
        obtain ⟨rfl, rfl⟩ := he
        clear o7
        have hsz7 := hb7.size
        have hHeld := below_chain hHeld hb7
        have jlt := jB.lt
        replace jB := jB.below hb7
        clear hb7
        refine Shut.out hK _ _ ?_ (fun hHeld => ?_)
        · exact hHeld
        clear hK K
        try simp only [Act.put, List.setIfInBounds_toArray, List.set_cons_zero, List.set_cons_succ]
        refine tK7_01237_4 (.tuple #[.agg #[.int .i64 p, .slice A7 m c7, .int .i64 (turnI r a (-1)), .int .i64 b, .int .i64 (turnI r s 1), .int .i64 g], .bool r]) (fun _ _ _ h => h) (Or.inl ⟨by rfl, fun W' hSw => ?_⟩) hHeld ?_
        · skip
          unfold qK7_4
          go_simp
        try simp only [Act.put, List.setIfInBounds_toArray, List.set_cons_zero, List.set_cons_succ]
        refine tK7_012347_5 (.agg #[.int .i64 p, .slice A7 m c7, .int .i64 (turnI r a (-1)), .int .i64 b, .int .i64 (turnI r s 1), .int .i64 g]) (fun _ _ _ h => h) (Or.inl ⟨by rfl, fun W' hSw => ?_⟩) hHeld ?_
        · skip
          unfold qK7_5
          go_simp
        try simp only [Act.put, List.setIfInBounds_toArray, List.set_cons_zero, List.set_cons_succ]
        refine tK7_0123457_6 (.bool r) (fun _ _ _ h => h) (Or.inl ⟨by rfl, fun W' hSw => ?_⟩) hHeld ?_
        · skip
          unfold qK7_6
          go_simp
        try simp only [Act.put, List.setIfInBounds_toArray, List.set_cons_zero, List.set_cons_succ]
        have SO := sentOn_mk (W := V3) (p := p) (x := turnI r a (-1)) (b := b) (y := turnI r s 1) (g := g) (r := r) jB r7 (by omega) (by omega) (by omega) (by omega) (by omega) hHeld
        refine cK7_01234567_8 (fun K hK => ?_)
        rw [if_pos (by rfl)]
        unfold qK7_8
        have y0 : w7.cell? ⟨w6.heap.size, 0, none⟩ = some (.int .i64 0) := by rw [jB.cell]; rfl
        have z0 : w7.frozen? ⟨w6.heap.size, 0, none⟩ = false := jB.frozen 0
        have y1 : w7.cell? ⟨w6.heap.size, 1, none⟩ = some (.slice none 0 0) := by rw [jB.cell]; rfl
        have z1 : w7.frozen? ⟨w6.heap.size, 1, none⟩ = false := jB.frozen 1
        have y2 : w7.cell? ⟨w6.heap.size, 2, none⟩ = some (.int .i64 0) := by rw [jB.cell]; rfl
        have z2 : w7.frozen? ⟨w6.heap.size, 2, none⟩ = false := jB.frozen 2
        have y3 : w7.cell? ⟨w6.heap.size, 3, none⟩ = some (.int .i64 0) := by rw [jB.cell]; rfl
        have z3 : w7.frozen? ⟨w6.heap.size, 3, none⟩ = false := jB.frozen 3
        have y4 : w7.cell? ⟨w6.heap.size, 4, none⟩ = some (.int .i64 0) := by rw [jB.cell]; rfl
        have z4 : w7.frozen? ⟨w6.heap.size, 4, none⟩ = false := jB.frozen 4
        have y5 : w7.cell? ⟨w6.heap.size, 5, none⟩ = some (.int .i64 0) := by rw [jB.cell]; rfl
        have z5 : w7.frozen? ⟨w6.heap.size, 5, none⟩ = false := jB.frozen 5
        go_simp
        refine Shut.out hK _ _ ?_ (fun hHeld => ?_)
        · obtain ⟨_, _, _, _, _, _, _, _, _, _, _, _, _, _, hq⟩ := SO; exact hq
        clear hK K
        try simp only [Act.put, List.setIfInBounds_toArray, List.set_cons_zero, List.set_cons_succ]
        refine tK7_012345678_9 (.bool r) (fun _ _ _ h => h) (Or.inl ⟨by rfl, fun W' hSw => ?_⟩) hHeld ?_
        · skip
          unfold qK7_9
          go_simp
        try simp only [Act.put, List.setIfInBounds_toArray, List.set_cons_zero, List.set_cons_succ]
        refine wpAnyH_done (by kernel_rfl) ?_ _
        clear hHeld
        go_wp2_with fail
        go_meet
        exact SO
    · rw [if_pos (by rfl)]
      unfold qK7_7
      go_simp
      generalize hV0 : World.alloc _ _ = V0
      obtain ⟨V, hV⟩ : ∃ z, z = World.drew V0 := ⟨_, rfl⟩
      rw [← hV]
      have jB : Blk V V3.heap.size 26 #[.int .i64 0, .slice none 0 0, .int .i64 0, .int .i64 0, .int .i64 0, .int .i64 0] := by rw [hV, ← hV0]; exact Blk.new _ _ _
      have hbv : Below V3.heap.size V3 V := by rw [hV, ← hV0]; exact ((Below.refl _ _).alloc (Nat.le_refl _) _).drew
      have hHeld := hbv
      have hszv := hbv.size
      clear hbv hV hV0
      refine Shut.out hK _ _ ?_ (fun hHeld => ?_)
      · exact hHeld
      clear hK K
      try simp only [Act.put, List.setIfInBounds_toArray, List.set_cons_zero, List.set_cons_succ]
      refine cK7_017_2 (fun K hK => ?_)
      rw [if_pos (by rfl)]
      unfold qK7_2
      go_simp
      refine (toRecord_any p0 p1 p2 p3 p4 _).mono ?_
      rintro e w6 ⟨rfl, hb6⟩
      have hHeld := below_chain hHeld hb6
      replace jB := jB.below hb6
      clear hb6
      refine Shut.out hK _ _ ?_ (fun hHeld => ?_)
      · exact hHeld
      clear hK K
      try simp only [Act.put, List.setIfInBounds_toArray, List.set_cons_zero, List.set_cons_succ]
      refine cK7_0127_3 (fun K hK => ?_)
      rw [if_pos (by rfl)]
      unfold qK7_3
      go_simp
      have hsz := hHeld.size
      refine (implSend_any n zs Z.out A3 c3 (X3_5.out.nil) p a b s g p0 p1 p2 p3 p4 hGZ _ (X3_5.out.rc.below hHeld) le0 HR.out HU.out HM.out).mono ?_
      rintro e w7 ⟨A7, c7, rfl, o7, hb7⟩
      obtain ⟨A7', c7', he, r7⟩ := row_of o7
      simp only [Value.slice.injEq, true_and] at he
      obtain ⟨rfl, rfl⟩ := he
      clear o7
      have hsz7 := hb7.size
      have hHeld := below_chain hHeld hb7
      have jlt := jB.lt
      replace jB := jB.below hb7
      clear hb7
      refine Shut.out hK _ _ ?_ (fun hHeld => ?_)
      · exact hHeld
      clear hK K
      try simp only [Act.put, List.setIfInBounds_toArray, List.set_cons_zero, List.set_cons_succ]
      refine tK7_01237_4 (.tuple #[.agg #[.int .i64 p, .slice A7 m c7, .int .i64 (turnI r a (-1)), .int .i64 b, .int .i64 (turnI r s 1), .int .i64 g], .bool r]) (fun _ _ _ h => h) (Or.inl ⟨by rfl, fun W' hSw => ?_⟩) hHeld ?_
      · skip
        unfold qK7_4
        go_simp
      try simp only [Act.put, List.setIfInBounds_toArray, List.set_cons_zero, List.set_cons_succ]
      refine tK7_012347_5 (.agg #[.int .i64 p, .slice A7 m c7, .int .i64 (turnI r a (-1)), .int .i64 b, .int .i64 (turnI r s 1), .int .i64 g]) (fun _ _ _ h => h) (Or.inl ⟨by rfl, fun W' hSw => ?_⟩) hHeld ?_
      · skip
        unfold qK7_5
        go_simp
      try simp only [Act.put, List.setIfInBounds_toArray, List.set_cons_zero, List.set_cons_succ]
      refine tK7_0123457_6 (.bool r) (fun _ _ _ h => h) (Or.inl ⟨by rfl, fun W' hSw => ?_⟩) hHeld ?_
      · skip
        unfold qK7_6
        go_simp
      try simp only [Act.put, List.setIfInBounds_toArray, List.set_cons_zero, List.set_cons_succ]
      have SO := sentOn_mk (W := V3) (p := p) (x := turnI r a (-1)) (b := b) (y := turnI r s 1) (g := g) (r := r) jB r7 (by omega) (by omega) (by omega) (by omega) (by omega) hHeld
      refine cK7_01234567_8 (fun K hK => ?_)
      rw [if_pos (by rfl)]
      unfold qK7_8
      have y0 : w7.cell? ⟨V3.heap.size, 0, none⟩ = some (.int .i64 0) := by rw [jB.cell]; rfl
      have z0 : w7.frozen? ⟨V3.heap.size, 0, none⟩ = false := jB.frozen 0
      have y1 : w7.cell? ⟨V3.heap.size, 1, none⟩ = some (.slice none 0 0) := by rw [jB.cell]; rfl
      have z1 : w7.frozen? ⟨V3.heap.size, 1, none⟩ = false := jB.frozen 1
      have y2 : w7.cell? ⟨V3.heap.size, 2, none⟩ = some (.int .i64 0) := by rw [jB.cell]; rfl
      have z2 : w7.frozen? ⟨V3.heap.size, 2, none⟩ = false := jB.frozen 2
      have y3 : w7.cell? ⟨V3.heap.size, 3, none⟩ = some (.int .i64 0) := by rw [jB.cell]; rfl
      have z3 : w7.frozen? ⟨V3.heap.size, 3, none⟩ = false := jB.frozen 3
      have y4 : w7.cell? ⟨V3.heap.size, 4, none⟩ = some (.int .i64 0) := by rw [jB.cell]; rfl
      have z4 : w7.frozen? ⟨V3.heap.size, 4, none⟩ = false := jB.frozen 4
      have y5 : w7.cell? ⟨V3.heap.size, 5, none⟩ = some (.int .i64 0) := by rw [jB.cell]; rfl
      have z5 : w7.frozen? ⟨V3.heap.size, 5, none⟩ = false := jB.frozen 5
      go_simp
      refine Shut.out hK _ _ ?_ (fun hHeld => ?_)
      · obtain ⟨_, _, _, _, _, _, _, _, _, _, _, _, _, _, hq⟩ := SO; exact hq
      clear hK K
      try simp only [Act.put, List.setIfInBounds_toArray, List.set_cons_zero, List.set_cons_succ]
      refine tK7_012345678_9 (.bool r) (fun _ _ _ h => h) (Or.inl ⟨by rfl, fun W' hSw => ?_⟩) hHeld ?_
      · skip
        unfold qK7_9
        go_simp
      try simp only [Act.put, List.setIfInBounds_toArray, List.set_cons_zero, List.set_cons_succ]
      refine wpAnyH_done (by kernel_rfl) ?_ _
      clear hHeld
      go_wp2_with fail
      go_meet
      exact SO
  case rest =>
  obtain ⟨j4, A4, c4, lo4, hi4, rfl, rfl, nb, nr, f14, f24, f34, f44, f54, hb⟩ := hcut
  obtain ⟨u4, hwc⟩ : ∃ z, z = wc := ⟨_, rfl⟩
  subst hwc
  have sz6 := hb.size
  have B6 := Lib.hid (below_chain B5.out hb)
  have X2_6 := Lib.hid (X2_5.out.below hb)
  have X3_6 := Lib.hid (X3_5.out.below hb)
  have L0_6 := Lib.hid (L0_5.out.below hb)
  have RR_6 := Lib.hid (RR_5.out.below hb)
  have w0_6 := Lib.hid (w0_5.out.below hb)
  have x0_6 := Lib.hid (x0_5.out.below hb)
  clear hb B5 X2_5 X3_5 L0_5 RR_5 w0_5 x0_5
  have X4_6 := Lib.hid nr
  clear nr
  have g0_6 := Lib.hid nb
  clear nb
  have ltg0 : j4 < u4.heap.size := g0_6.out.lt
  have xg00 : u4.cell? ⟨j4, 0, none⟩ = some (.int .i64 p) := by rw [g0_6.out.cell]; rfl
  have xg01 : u4.cell? ⟨j4, 1, none⟩ = some (.slice A4 m c4) := by rw [g0_6.out.cell]; rfl
  have xg02 : u4.cell? ⟨j4, 2, none⟩ = some (.int .i64 (turnI r a (-1))) := by rw [g0_6.out.cell]; rfl
  have xg03 : u4.cell? ⟨j4, 3, none⟩ = some (.int .i64 b) := by rw [g0_6.out.cell]; rfl
  have xg04 : u4.cell? ⟨j4, 4, none⟩ = some (.int .i64 (turnI r s 1)) := by rw [g0_6.out.cell]; rfl
  have xg05 : u4.cell? ⟨j4, 5, none⟩ = some (.int .i64 g) := by rw [g0_6.out.cell]; rfl
  have xw00 : u4.cell? ⟨j2, 0, none⟩ = some (.int .i64 p) := by rw [w0_6.out.cell]; rfl
  have xw01 : u4.cell? ⟨j2, 1, none⟩ = some (.slice A2 m c2) := by rw [w0_6.out.cell]; rfl
  have xw02 : u4.cell? ⟨j2, 2, none⟩ = some (.int .i64 (turnI r a (-1))) := by rw [w0_6.out.cell]; rfl
  have xw03 : u4.cell? ⟨j2, 3, none⟩ = some (.int .i64 b) := by rw [w0_6.out.cell]; rfl
  have xw04 : u4.cell? ⟨j2, 4, none⟩ = some (.int .i64 (turnI r s 1)) := by rw [w0_6.out.cell]; rfl
  have xw05 : u4.cell? ⟨j2, 5, none⟩ = some (.int .i64 g) := by rw [w0_6.out.cell]; rfl
  go_wp2_with fail
  clear xg00 xg01 xg02 xg03 xg04 xg05 xw00 xw01 xw02 xw03 xw04 xw05
  refine (eqLk_row p (turnI r a (-1)) b (turnI r s 1) g X4_6.out X2_6.out (by omega)).mono ?_
  rintro e w5 ⟨rfl, hb⟩
  have sz7 := hb.size
  have B7 := Lib.hid (below_chain B6.out hb)
  have X2_7 := Lib.hid (X2_6.out.below hb)
  have X3_7 := Lib.hid (X3_6.out.below hb)
  have X4_7 := Lib.hid (X4_6.out.below hb)
  have L0_7 := Lib.hid (L0_6.out.below hb)
  have RR_7 := Lib.hid (RR_6.out.below hb)
  have w0_7 := Lib.hid (w0_6.out.below hb)
  have x0_7 := Lib.hid (x0_6.out.below hb)
  have g0_7 := Lib.hid (g0_6.out.below hb)
  clear hb B6 X2_6 X3_6 X4_6 L0_6 RR_6 w0_6 x0_6 g0_6
  go_upto_region 10 with fail
  have k0 : w5.cell? ⟨w3.heap.size, 0, none⟩ = some (.int .i64 p) := by rw [x0_7.out.cell]; rfl
  have k1 : w5.cell? ⟨w3.heap.size, 1, none⟩ = some (.slice A3 n c3) := by rw [x0_7.out.cell]; rfl
  have k2 : w5.cell? ⟨w3.heap.size, 2, none⟩ = some (.int .i64 a) := by rw [x0_7.out.cell]; rfl
  have k3 : w5.cell? ⟨w3.heap.size, 3, none⟩ = some (.int .i64 b) := by rw [x0_7.out.cell]; rfl
  have k4 : w5.cell? ⟨w3.heap.size, 4, none⟩ = some (.int .i64 s) := by rw [x0_7.out.cell]; rfl
  have k5 : w5.cell? ⟨w3.heap.size, 5, none⟩ = some (.int .i64 g) := by rw [x0_7.out.cell]; rfl
  have k6 : w5.cell? ⟨w.heap.size, 0, none⟩ = some (.int .i64 p) := by rw [L0_7.out.cell]; rfl
  have k7 : w5.cell? ⟨w.heap.size, 1, none⟩ = some (.slice A n c) := by rw [L0_7.out.cell]; rfl
  have k8 : w5.cell? ⟨w.heap.size, 2, none⟩ = some (.int .i64 a) := by rw [L0_7.out.cell]; rfl
  have k9 : w5.cell? ⟨w.heap.size, 3, none⟩ = some (.int .i64 b) := by rw [L0_7.out.cell]; rfl
  have k10 : w5.cell? ⟨w.heap.size, 4, none⟩ = some (.int .i64 s) := by rw [L0_7.out.cell]; rfl
  have k11 : w5.cell? ⟨w.heap.size, 5, none⟩ = some (.int .i64 g) := by rw [L0_7.out.cell]; rfl
  have kb := Below.refl w5.heap.size w5
  have ks := (S.out.below B7.out)
  have kx := X3_7.out
  go_cut [51] (fun t wx => t = .bool false ∧ Below w5.heap.size w5 wx)
  case first =>
    go_region_held3 (fun w' => w'.cell? ⟨w3.heap.size, 0, none⟩ = some (.int .i64 p) ∧ w'.cell? ⟨w3.heap.size, 1, none⟩ = some (.slice A3 n c3) ∧ w'.cell? ⟨w3.heap.size, 2, none⟩ = some (.int .i64 a) ∧ w'.cell? ⟨w3.heap.size, 3, none⟩ = some (.int .i64 b) ∧ w'.cell? ⟨w3.heap.size, 4, none⟩ = some (.int .i64 s) ∧ w'.cell? ⟨w3.heap.size, 5, none⟩ = some (.int .i64 g) ∧ w'.cell? ⟨w.heap.size, 0, none⟩ = some (.int .i64 p) ∧ w'.cell? ⟨w.heap.size, 1, none⟩ = some (.slice A n c) ∧ w'.cell? ⟨w.heap.size, 2, none⟩ = some (.int .i64 a) ∧ w'.cell? ⟨w.heap.size, 3, none⟩ = some (.int .i64 b) ∧ w'.cell? ⟨w.heap.size, 4, none⟩ = some (.int .i64 s) ∧ w'.cell? ⟨w.heap.size, 5, none⟩ = some (.int .i64 g) ∧ Rcs w' A zs ∧ Below w5.heap.size w5 w')
      (((try go_split_ands); refine ⟨?_, ?_, ?_, ?_, ?_, ?_, ?_, ?_, ?_, ?_, ?_, ?_, ?_, ?_⟩ <;> (repeat (first | with_reducible assumption | with_reducible refine drew_keep ?_ | with_reducible refine below_keep hbd ?_ | with_reducible refine rcs_drew ?_ | with_reducible refine Rcs.below ?_ hbd | with_reducible refine Below.drew ?_ | with_reducible refine below_chain ?_ hbd))))
      (first | (go_at_call 37; (try go_split_ands); (with_reducible refine (toLk_row A n c zs Z.out p a b s g _ (by assumption) le0).mono ?_); rintro e w5 ⟨A5, c5, rfl, s5, hbd⟩) | (go_at_call 33; (try go_split_ands); (with_reducible refine (eqLk_row p a b s g (Row.below kx (by assumption)) s5 (by omega)).mono ?_); rintro e w6 ⟨rfl, hbd⟩))
    all_goals (
      go_wp2_with fail
      go_meet
      refine ⟨rfl, ?_⟩
      (try go_split_ands)
      assumption)
  case rest =>
  obtain ⟨rfl, hb⟩ := hcut
  clear kb ks kx k0 k1 k2 k3 k4 k5 k6 k7 k8 k9 k10 k11
  obtain ⟨u3, hwc⟩ : ∃ z, z = wc := ⟨_, rfl⟩
  subst hwc
  have sz8 := hb.size
  have B8 := Lib.hid (below_chain B7.out hb)
  have X2_8 := Lib.hid (X2_7.out.below hb)
  have X3_8 := Lib.hid (X3_7.out.below hb)
  have X4_8 := Lib.hid (X4_7.out.below hb)
  have L0_8 := Lib.hid (L0_7.out.below hb)
  have RR_8 := Lib.hid (RR_7.out.below hb)
  have w0_8 := Lib.hid (w0_7.out.below hb)
  have x0_8 := Lib.hid (x0_7.out.below hb)
  have g0_8 := Lib.hid (g0_7.out.below hb)
  clear hb B7 X2_7 X3_7 X4_7 L0_7 RR_7 w0_7 x0_7 g0_7
  have xx00 : u3.cell? ⟨w3.heap.size, 0, none⟩ = some (.int .i64 p) := by rw [x0_8.out.cell]; rfl
  have xx01 : u3.cell? ⟨w3.heap.size, 1, none⟩ = some (.slice A3 n c3) := by rw [x0_8.out.cell]; rfl
  have xx02 : u3.cell? ⟨w3.heap.size, 2, none⟩ = some (.int .i64 a) := by rw [x0_8.out.cell]; rfl
  have xx03 : u3.cell? ⟨w3.heap.size, 3, none⟩ = some (.int .i64 b) := by rw [x0_8.out.cell]; rfl
  have xx04 : u3.cell? ⟨w3.heap.size, 4, none⟩ = some (.int .i64 s) := by rw [x0_8.out.cell]; rfl
  have xx05 : u3.cell? ⟨w3.heap.size, 5, none⟩ = some (.int .i64 g) := by rw [x0_8.out.cell]; rfl
  go_wp2_with fail
  clear xx00 xx01 xx02 xx03 xx04 xx05
  refine (markLk_row 1 p a b s g X3_8.out (by omega) (by omega)).mono ?_
  rintro e w7 ⟨rfl, om, gw⟩
  have sz9 := gw.size
  have B9 := Lib.hid (below_wrote B8.out gw (by omega))
  have X2_9 := Lib.hid (X2_8.out.wrote gw (by omega))
  have X3_9 := Lib.hid om
  have X4_9 := Lib.hid (X4_8.out.wrote gw (by omega))
  have L0_9 := Lib.hid (L0_8.out.wrote gw (by omega))
  have RR_9 := Lib.hid (RR_8.out.wrote gw (by omega))
  have w0_9 := Lib.hid (w0_8.out.wrote gw (by omega))
  have x0_9 := Lib.hid (x0_8.out.wrote gw (by omega))
  have g0_9 := Lib.hid (g0_8.out.wrote gw (by omega))
  clear om gw B8 X2_8 X3_8 X4_8 L0_8 RR_8 w0_8 x0_8 g0_8
  have xg00 : w7.cell? ⟨j4, 0, none⟩ = some (.int .i64 p) := by rw [g0_9.out.cell]; rfl
  have xg01 : w7.cell? ⟨j4, 1, none⟩ = some (.slice A4 m c4) := by rw [g0_9.out.cell]; rfl
  have xg02 : w7.cell? ⟨j4, 2, none⟩ = some (.int .i64 (turnI r a (-1))) := by rw [g0_9.out.cell]; rfl
  have xg03 : w7.cell? ⟨j4, 3, none⟩ = some (.int .i64 b) := by rw [g0_9.out.cell]; rfl
  have xg04 : w7.cell? ⟨j4, 4, none⟩ = some (.int .i64 (turnI r s 1)) := by rw [g0_9.out.cell]; rfl
  have xg05 : w7.cell? ⟨j4, 5, none⟩ = some (.int .i64 g) := by rw [g0_9.out.cell]; rfl
  have xw00 : w7.cell? ⟨j2, 0, none⟩ = some (.int .i64 p) := by rw [w0_9.out.cell]; rfl
  have xw01 : w7.cell? ⟨j2, 1, none⟩ = some (.slice A2 m c2) := by rw [w0_9.out.cell]; rfl
  have xw02 : w7.cell? ⟨j2, 2, none⟩ = some (.int .i64 (turnI r a (-1))) := by rw [w0_9.out.cell]; rfl
  have xw03 : w7.cell? ⟨j2, 3, none⟩ = some (.int .i64 b) := by rw [w0_9.out.cell]; rfl
  have xw04 : w7.cell? ⟨j2, 4, none⟩ = some (.int .i64 (turnI r s 1)) := by rw [w0_9.out.cell]; rfl
  have xw05 : w7.cell? ⟨j2, 5, none⟩ = some (.int .i64 g) := by rw [w0_9.out.cell]; rfl
  go_wp2_with fail
  clear xg00 xg01 xg02 xg03 xg04 xg05 xw00 xw01 xw02 xw03 xw04 xw05
  refine (eqLk_row p (turnI r a (-1)) b (turnI r s 1) g X4_9.out X2_9.out (by omega)).mono ?_
  rintro e w8 ⟨rfl, hb⟩
  have sz10 := hb.size
  have B10 := Lib.hid (below_chain B9.out hb)
  have X2_10 := Lib.hid (X2_9.out.below hb)
  have X3_10 := Lib.hid (X3_9.out.below hb)
  have X4_10 := Lib.hid (X4_9.out.below hb)
  have L0_10 := Lib.hid (L0_9.out.below hb)
  have RR_10 := Lib.hid (RR_9.out.below hb)
  have w0_10 := Lib.hid (w0_9.out.below hb)
  have x0_10 := Lib.hid (x0_9.out.below hb)
  have g0_10 := Lib.hid (g0_9.out.below hb)
  clear hb B9 X2_9 X3_9 X4_9 L0_9 RR_9 w0_9 x0_9 g0_9
  have xg00 : w8.cell? ⟨j4, 0, none⟩ = some (.int .i64 p) := by rw [g0_10.out.cell]; rfl
  have xg01 : w8.cell? ⟨j4, 1, none⟩ = some (.slice A4 m c4) := by rw [g0_10.out.cell]; rfl
  have xg02 : w8.cell? ⟨j4, 2, none⟩ = some (.int .i64 (turnI r a (-1))) := by rw [g0_10.out.cell]; rfl
  have xg03 : w8.cell? ⟨j4, 3, none⟩ = some (.int .i64 b) := by rw [g0_10.out.cell]; rfl
  have xg04 : w8.cell? ⟨j4, 4, none⟩ = some (.int .i64 (turnI r s 1)) := by rw [g0_10.out.cell]; rfl
  have xg05 : w8.cell? ⟨j4, 5, none⟩ = some (.int .i64 g) := by rw [g0_10.out.cell]; rfl
  go_wp2_with fail
  clear xg00 xg01 xg02 xg03 xg04 xg05
  refine (markLk_row 1 p (turnI r a (-1)) b (turnI r s 1) g X4_10.out (by omega) (by omega)).mono ?_
  rintro e w9 ⟨rfl, om, gw⟩
  have sz11 := gw.size
  have B11 := Lib.hid (below_wrote B10.out gw (by omega))
  have X2_11 := Lib.hid (X2_10.out.wrote gw (by omega))
  have X3_11 := Lib.hid (X3_10.out.wrote gw (by omega))
  have X4_11 := Lib.hid om
  have L0_11 := Lib.hid (L0_10.out.wrote gw (by omega))
  have RR_11 := Lib.hid (RR_10.out.wrote gw (by omega))
  have w0_11 := Lib.hid (w0_10.out.wrote gw (by omega))
  have x0_11 := Lib.hid (x0_10.out.wrote gw (by omega))
  have g0_11 := Lib.hid (g0_10.out.wrote gw (by omega))
  clear om gw B10 X2_10 X3_10 X4_10 L0_10 RR_10 w0_10 x0_10 g0_10
  have xg00 : w9.cell? ⟨j4, 0, none⟩ = some (.int .i64 p) := by rw [g0_11.out.cell]; rfl
  have xg01 : w9.cell? ⟨j4, 1, none⟩ = some (.slice A4 m c4) := by rw [g0_11.out.cell]; rfl
  have xg02 : w9.cell? ⟨j4, 2, none⟩ = some (.int .i64 (turnI r a (-1))) := by rw [g0_11.out.cell]; rfl
  have xg03 : w9.cell? ⟨j4, 3, none⟩ = some (.int .i64 b) := by rw [g0_11.out.cell]; rfl
  have xg04 : w9.cell? ⟨j4, 4, none⟩ = some (.int .i64 (turnI r s 1)) := by rw [g0_11.out.cell]; rfl
  have xg05 : w9.cell? ⟨j4, 5, none⟩ = some (.int .i64 g) := by rw [g0_11.out.cell]; rfl
  go_wp2_with fail
  clear xg00 xg01 xg02 xg03 xg04 xg05
  refine (heldLk_row 1 p (turnI r a (-1)) b (turnI r s 1) g X4_11.out (by omega) (by omega)).mono ?_
  rintro e w10 ⟨rfl, hb⟩
  have sz12 := hb.size
  have B12 := Lib.hid (below_chain B11.out hb)
  have X2_12 := Lib.hid (X2_11.out.below hb)
  have X3_12 := Lib.hid (X3_11.out.below hb)
  have X4_12 := Lib.hid (X4_11.out.below hb)
  have L0_12 := Lib.hid (L0_11.out.below hb)
  have RR_12 := Lib.hid (RR_11.out.below hb)
  have w0_12 := Lib.hid (w0_11.out.below hb)
  have x0_12 := Lib.hid (x0_11.out.below hb)
  have g0_12 := Lib.hid (g0_11.out.below hb)
  clear hb B11 X2_11 X3_11 X4_11 L0_11 RR_11 w0_11 x0_11 g0_11
  clear X3_12
  go_upto_region 24 with fail
  go_cut [14, 15] (fun t u wx => SentOn w10 p (turnI r a (-1)) b (turnI r s 1) g r us m t u wx)
  case first =>
    refine wp_region_held_drew (S := fun w' => Below w10.heap.size w10 w') (by kernel_rfl) ?_ (fun hHeld => ?_)
    · exact (Below.refl _ _).drew
    change wpAnyH _ _ opsK24 _ _ 11 (#[false, false, false, false, false, false, false, false, false, false, false] : Array Bool) _ _
    refine tK24_e_0 (.agg #[.int .i64 p, .slice A n c, .int .i64 a, .int .i64 b, .int .i64 s, .int .i64 g]) (fun _ _ _ h => h) (Or.inl ⟨by rfl, fun W' hSw => ?_⟩) hHeld ?_
    · skip
      unfold qK24_0
      have c0 : W'.cell? ⟨w.heap.size, 0, none⟩ = some (.int .i64 p) := by rw [(L0_12.out.below hSw).cell]; rfl
      have c1 : W'.cell? ⟨w.heap.size, 1, none⟩ = some (.slice A n c) := by rw [(L0_12.out.below hSw).cell]; rfl
      have c2 : W'.cell? ⟨w.heap.size, 2, none⟩ = some (.int .i64 a) := by rw [(L0_12.out.below hSw).cell]; rfl
      have c3 : W'.cell? ⟨w.heap.size, 3, none⟩ = some (.int .i64 b) := by rw [(L0_12.out.below hSw).cell]; rfl
      have c4 : W'.cell? ⟨w.heap.size, 4, none⟩ = some (.int .i64 s) := by rw [(L0_12.out.below hSw).cell]; rfl
      have c5 : W'.cell? ⟨w.heap.size, 5, none⟩ = some (.int .i64 g) := by rw [(L0_12.out.below hSw).cell]; rfl
      go_simp
    try simp only [Act.put, List.setIfInBounds_toArray, List.set_cons_zero, List.set_cons_succ]
    refine tK24_0_2 (.agg #[.int .i64 p0, .int .i64 p1, .int .i64 p2, .int .i64 p3, .int .i64 p4]) (fun _ _ _ h => h) (Or.inl ⟨by rfl, fun W' hSw => ?_⟩) hHeld ?_
    · skip
      unfold qK24_2
      have c0 : W'.cell? ⟨w.heap.size + 1, 0, none⟩ = some (.int .i64 p0) := by rw [(RR_12.out.below hSw).cell]; rfl
      have c1 : W'.cell? ⟨w.heap.size + 1, 1, none⟩ = some (.int .i64 p1) := by rw [(RR_12.out.below hSw).cell]; rfl
      have c2 : W'.cell? ⟨w.heap.size + 1, 2, none⟩ = some (.int .i64 p2) := by rw [(RR_12.out.below hSw).cell]; rfl
      have c3 : W'.cell? ⟨w.heap.size + 1, 3, none⟩ = some (.int .i64 p3) := by rw [(RR_12.out.below hSw).cell]; rfl
      have c4 : W'.cell? ⟨w.heap.size + 1, 4, none⟩ = some (.int .i64 p4) := by rw [(RR_12.out.below hSw).cell]; rfl
      go_simp
    try simp only [Act.put, List.setIfInBounds_toArray, List.set_cons_zero, List.set_cons_succ]
    refine cK24_02_18 (fun K hK => ?_) (fun K hK => ?_)
    · rw [if_pos (by rfl)]
      unfold qK24_1
      go_simp
      refine (toLk_row A n c zs Z.out p a b s g _ ((S.out.below B12.out).below hHeld) le0).mono ?_
      rintro e w5 ⟨A5, c5, rfl, r5, hb5⟩
      have hHeld := below_chain hHeld hb5
      clear hb5
      refine Shut.out hK _ _ ?_ (fun hHeld => ?_)
      · exact hHeld
      clear hK K
      try simp only [Act.put, List.setIfInBounds_toArray, List.set_cons_zero, List.set_cons_succ]
      refine cK24_012_38 (fun K hK => ?_) (fun K hK => ?_)
      · rw [if_pos (by rfl)]
        unfold qK24_3
        go_simp
        refine (toRecord_any p0 p1 p2 p3 p4 _).mono ?_
        rintro e w6 ⟨rfl, hb6⟩
        have hHeld := below_chain hHeld hb6
        replace r5 := r5.below hb6
        clear hb6
        refine Shut.out hK _ _ ?_ (fun hHeld => ?_)
        · exact hHeld
        clear hK K
        try simp only [Act.put, List.setIfInBounds_toArray, List.set_cons_zero, List.set_cons_succ]
        refine cK24_0123_48 (fun K hK => ?_) (fun K hK => ?_)
        · rw [if_pos (by rfl)]
          unfold qK24_4
          go_simp
          have hsz := hHeld.size
          refine (implSend_any n zs Z.out A5 c5 r5.nil p a b s g p0 p1 p2 p3 p4 hGZ _ r5.rc le0 HR.out HU.out HM.out).mono ?_
          rintro e w7 ⟨A7, c7, rfl, o7, hb7⟩
          obtain ⟨A7', c7', he, r7⟩ := row_of o7
          simp only [Value.slice.injEq, true_and] at he
          obtain ⟨rfl, rfl⟩ := he
          clear o7
          have hsz7 := hb7.size
          have hHeld := below_chain hHeld hb7
          clear hb7
          refine Shut.out hK _ _ ?_ (fun hHeld => ?_)
          · exact hHeld
          clear hK K
          try simp only [Act.put, List.setIfInBounds_toArray, List.set_cons_zero, List.set_cons_succ]
          refine tK24_01234_5 (.tuple #[.agg #[.int .i64 p, .slice A7 m c7, .int .i64 (turnI r a (-1)), .int .i64 b, .int .i64 (turnI r s 1), .int .i64 g], .bool r]) (fun _ _ _ h => h) (Or.inl ⟨by rfl, fun W' hSw => ?_⟩) hHeld ?_
          · skip
            unfold qK24_5
            go_simp
          try simp only [Act.put, List.setIfInBounds_toArray, List.set_cons_zero, List.set_cons_succ]
          refine tK24_012345_6 (.agg #[.int .i64 p, .slice A7 m c7, .int .i64 (turnI r a (-1)), .int .i64 b, .int .i64 (turnI r s 1), .int .i64 g]) (fun _ _ _ h => h) (Or.inl ⟨by rfl, fun W' hSw => ?_⟩) hHeld ?_
          · skip
            unfold qK24_6
            go_simp
          try simp only [Act.put, List.setIfInBounds_toArray, List.set_cons_zero, List.set_cons_succ]
          refine tK24_0123456_7 (.bool r) (fun _ _ _ h => h) (Or.inl ⟨by rfl, fun W' hSw => ?_⟩) hHeld ?_
          · skip
            unfold qK24_7
            go_simp
          try simp only [Act.put, List.setIfInBounds_toArray, List.set_cons_zero, List.set_cons_succ]
          refine cK24_01234567_8 (fun K hK => ?_)
          rw [if_pos (by rfl)]
          unfold qK24_8
          go_simp
          generalize hV : World.alloc _ _ = V
          have jB := (show Blk V _ 26 #[.int .i64 0, .slice none 0 0, .int .i64 0, .int .i64 0, .int .i64 0, .int .i64 0] by rw [← hV]; exact Blk.new _ _ _)
          have hsv := hHeld.size
          have hbv := (show Below _ _ V by rw [← hV]; exact (Below.refl _ _).alloc (Nat.le_refl _) _)
          have hHeld := below_chain hHeld hbv
          have hszv := hbv.size
          replace r7 := r7.below hbv
          clear hbv hV
          refine Shut.out hK _ _ ?_ (fun hHeld => ?_)
          · exact hHeld
          clear hK K
          try simp only [Act.put, List.setIfInBounds_toArray, List.set_cons_zero, List.set_cons_succ]
          have SO := sentOn_mk (W := w10) (p := p) (x := turnI r a (-1)) (b := b) (y := turnI r s 1) (g := g) (r := r) jB r7 (by omega) (by omega) (by omega) (by omega) (by omega) hHeld
          refine cK24_012345678_9 (fun K hK => ?_)
          rw [if_pos (by rfl)]
          unfold qK24_9
          have y0 : V.cell? ⟨w7.heap.size, 0, none⟩ = some (.int .i64 0) := by rw [jB.cell]; rfl
          have z0 : V.frozen? ⟨w7.heap.size, 0, none⟩ = false := jB.frozen 0
          have y1 : V.cell? ⟨w7.heap.size, 1, none⟩ = some (.slice none 0 0) := by rw [jB.cell]; rfl
          have z1 : V.frozen? ⟨w7.heap.size, 1, none⟩ = false := jB.frozen 1
          have y2 : V.cell? ⟨w7.heap.size, 2, none⟩ = some (.int .i64 0) := by rw [jB.cell]; rfl
          have z2 : V.frozen? ⟨w7.heap.size, 2, none⟩ = false := jB.frozen 2
          have y3 : V.cell? ⟨w7.heap.size, 3, none⟩ = some (.int .i64 0) := by rw [jB.cell]; rfl
          have z3 : V.frozen? ⟨w7.heap.size, 3, none⟩ = false := jB.frozen 3
          have y4 : V.cell? ⟨w7.heap.size, 4, none⟩ = some (.int .i64 0) := by rw [jB.cell]; rfl
          have z4 : V.frozen? ⟨w7.heap.size, 4, none⟩ = false := jB.frozen 4
          have y5 : V.cell? ⟨w7.heap.size, 5, none⟩ = some (.int .i64 0) := by rw [jB.cell]; rfl
          have z5 : V.frozen? ⟨w7.heap.size, 5, none⟩ = false := jB.frozen 5
          go_simp
          refine Shut.out hK _ _ ?_ (fun hHeld => ?_)
          · obtain ⟨_, _, _, _, _, _, _, _, _, _, _, _, _, _, hq⟩ := SO; exact hq
          clear hK K
          try simp only [Act.put, List.setIfInBounds_toArray, List.set_cons_zero, List.set_cons_succ]
          refine tK24_0123456789_10 (.bool r) (fun _ _ _ h => h) (Or.inl ⟨by rfl, fun W' hSw => ?_⟩) hHeld ?_
          · skip
            unfold qK24_10
            go_simp
          try simp only [Act.put, List.setIfInBounds_toArray, List.set_cons_zero, List.set_cons_succ]
          refine wpAnyH_done (by kernel_rfl) ?_ _
          clear hHeld
          go_wp2_with fail
          go_meet
          exact SO
        · rw [if_pos (by rfl)]
          unfold qK24_8
          go_simp
          generalize hV : World.alloc _ _ = V
          have jB := (show Blk V _ 26 #[.int .i64 0, .slice none 0 0, .int .i64 0, .int .i64 0, .int .i64 0, .int .i64 0] by rw [← hV]; exact Blk.new _ _ _)
          have hsv := hHeld.size
          have hbv := (show Below _ _ V by rw [← hV]; exact (Below.refl _ _).alloc (Nat.le_refl _) _)
          have hHeld := below_chain hHeld hbv
          have hszv := hbv.size
          replace r5 := r5.below hbv
          clear hbv hV
          refine Shut.out hK _ _ ?_ (fun hHeld => ?_)
          · exact hHeld
          clear hK K
          try simp only [Act.put, List.setIfInBounds_toArray, List.set_cons_zero, List.set_cons_succ]
          refine cK24_01238_4 (fun K hK => ?_)
          rw [if_pos (by rfl)]
          unfold qK24_4
          go_simp
          have hsz := hHeld.size
          refine (implSend_any n zs Z.out A5 c5 r5.nil p a b s g p0 p1 p2 p3 p4 hGZ _ r5.rc le0 HR.out HU.out HM.out).mono ?_
          rintro e w7 ⟨A7, c7, rfl, o7, hb7⟩
          obtain ⟨A7', c7', he, r7⟩ := row_of o7
          simp only [Value.slice.injEq, true_and] at he
          obtain ⟨rfl, rfl⟩ := he
          clear o7
          have hsz7 := hb7.size
          have hHeld := below_chain hHeld hb7
          have jlt := jB.lt
          replace jB := jB.below hb7
          clear hb7
          refine Shut.out hK _ _ ?_ (fun hHeld => ?_)
          · exact hHeld
          clear hK K
          try simp only [Act.put, List.setIfInBounds_toArray, List.set_cons_zero, List.set_cons_succ]
          refine tK24_012348_5 (.tuple #[.agg #[.int .i64 p, .slice A7 m c7, .int .i64 (turnI r a (-1)), .int .i64 b, .int .i64 (turnI r s 1), .int .i64 g], .bool r]) (fun _ _ _ h => h) (Or.inl ⟨by rfl, fun W' hSw => ?_⟩) hHeld ?_
          · skip
            unfold qK24_5
            go_simp
          try simp only [Act.put, List.setIfInBounds_toArray, List.set_cons_zero, List.set_cons_succ]
          refine tK24_0123458_6 (.agg #[.int .i64 p, .slice A7 m c7, .int .i64 (turnI r a (-1)), .int .i64 b, .int .i64 (turnI r s 1), .int .i64 g]) (fun _ _ _ h => h) (Or.inl ⟨by rfl, fun W' hSw => ?_⟩) hHeld ?_
          · skip
            unfold qK24_6
            go_simp
          try simp only [Act.put, List.setIfInBounds_toArray, List.set_cons_zero, List.set_cons_succ]
          refine tK24_01234568_7 (.bool r) (fun _ _ _ h => h) (Or.inl ⟨by rfl, fun W' hSw => ?_⟩) hHeld ?_
          · skip
            unfold qK24_7
            go_simp
          try simp only [Act.put, List.setIfInBounds_toArray, List.set_cons_zero, List.set_cons_succ]
          have SO := sentOn_mk (W := w10) (p := p) (x := turnI r a (-1)) (b := b) (y := turnI r s 1) (g := g) (r := r) jB r7 (by omega) (by omega) (by omega) (by omega) (by omega) hHeld
          refine cK24_012345678_9 (fun K hK => ?_)
          rw [if_pos (by rfl)]
          unfold qK24_9
          have y0 : w7.cell? ⟨w6.heap.size, 0, none⟩ = some (.int .i64 0) := by rw [jB.cell]; rfl
          have z0 : w7.frozen? ⟨w6.heap.size, 0, none⟩ = false := jB.frozen 0
          have y1 : w7.cell? ⟨w6.heap.size, 1, none⟩ = some (.slice none 0 0) := by rw [jB.cell]; rfl
          have z1 : w7.frozen? ⟨w6.heap.size, 1, none⟩ = false := jB.frozen 1
          have y2 : w7.cell? ⟨w6.heap.size, 2, none⟩ = some (.int .i64 0) := by rw [jB.cell]; rfl
          have z2 : w7.frozen? ⟨w6.heap.size, 2, none⟩ = false := jB.frozen 2
          have y3 : w7.cell? ⟨w6.heap.size, 3, none⟩ = some (.int .i64 0) := by rw [jB.cell]; rfl
          have z3 : w7.frozen? ⟨w6.heap.size, 3, none⟩ = false := jB.frozen 3
          have y4 : w7.cell? ⟨w6.heap.size, 4, none⟩ = some (.int .i64 0) := by rw [jB.cell]; rfl
          have z4 : w7.frozen? ⟨w6.heap.size, 4, none⟩ = false := jB.frozen 4
          have y5 : w7.cell? ⟨w6.heap.size, 5, none⟩ = some (.int .i64 0) := by rw [jB.cell]; rfl
          have z5 : w7.frozen? ⟨w6.heap.size, 5, none⟩ = false := jB.frozen 5
          go_simp
          refine Shut.out hK _ _ ?_ (fun hHeld => ?_)
          · obtain ⟨_, _, _, _, _, _, _, _, _, _, _, _, _, _, hq⟩ := SO; exact hq
          clear hK K
          try simp only [Act.put, List.setIfInBounds_toArray, List.set_cons_zero, List.set_cons_succ]
          refine tK24_0123456789_10 (.bool r) (fun _ _ _ h => h) (Or.inl ⟨by rfl, fun W' hSw => ?_⟩) hHeld ?_
          · skip
            unfold qK24_10
            go_simp
          try simp only [Act.put, List.setIfInBounds_toArray, List.set_cons_zero, List.set_cons_succ]
          refine wpAnyH_done (by kernel_rfl) ?_ _
          clear hHeld
          go_wp2_with fail
          go_meet
          exact SO
      · rw [if_pos (by rfl)]
        unfold qK24_8
        go_simp
        generalize hV : World.alloc _ _ = V
        have jB := (show Blk V _ 26 #[.int .i64 0, .slice none 0 0, .int .i64 0, .int .i64 0, .int .i64 0, .int .i64 0] by rw [← hV]; exact Blk.new _ _ _)
        have hsv := hHeld.size
        have hbv := (show Below _ _ V by rw [← hV]; exact (Below.refl _ _).alloc (Nat.le_refl _) _)
        have hHeld := below_chain hHeld hbv
        have hszv := hbv.size
        replace r5 := r5.below hbv
        clear hbv hV
        refine Shut.out hK _ _ ?_ (fun hHeld => ?_)
        · exact hHeld
        clear hK K
        try simp only [Act.put, List.setIfInBounds_toArray, List.set_cons_zero, List.set_cons_succ]
        refine cK24_0128_3 (fun K hK => ?_)
        rw [if_pos (by rfl)]
        unfold qK24_3
        go_simp
        refine (toRecord_any p0 p1 p2 p3 p4 _).mono ?_
        rintro e w6 ⟨rfl, hb6⟩
        have hHeld := below_chain hHeld hb6
        replace r5 := r5.below hb6
        replace jB := jB.below hb6
        clear hb6
        refine Shut.out hK _ _ ?_ (fun hHeld => ?_)
        · exact hHeld
        clear hK K
        try simp only [Act.put, List.setIfInBounds_toArray, List.set_cons_zero, List.set_cons_succ]
        refine cK24_01238_4 (fun K hK => ?_)
        rw [if_pos (by rfl)]
        unfold qK24_4
        go_simp
        have hsz := hHeld.size
        refine (implSend_any n zs Z.out A5 c5 r5.nil p a b s g p0 p1 p2 p3 p4 hGZ _ r5.rc le0 HR.out HU.out HM.out).mono ?_
        rintro e w7 ⟨A7, c7, rfl, o7, hb7⟩
        obtain ⟨A7', c7', he, r7⟩ := row_of o7
        simp only [Value.slice.injEq, true_and] at he
        obtain ⟨rfl, rfl⟩ := he
        clear o7
        have hsz7 := hb7.size
        have hHeld := below_chain hHeld hb7
        have jlt := jB.lt
        replace jB := jB.below hb7
        clear hb7
        refine Shut.out hK _ _ ?_ (fun hHeld => ?_)
        · exact hHeld
        clear hK K
        try simp only [Act.put, List.setIfInBounds_toArray, List.set_cons_zero, List.set_cons_succ]
        refine tK24_012348_5 (.tuple #[.agg #[.int .i64 p, .slice A7 m c7, .int .i64 (turnI r a (-1)), .int .i64 b, .int .i64 (turnI r s 1), .int .i64 g], .bool r]) (fun _ _ _ h => h) (Or.inl ⟨by rfl, fun W' hSw => ?_⟩) hHeld ?_
        · skip
          unfold qK24_5
          go_simp
        try simp only [Act.put, List.setIfInBounds_toArray, List.set_cons_zero, List.set_cons_succ]
        refine tK24_0123458_6 (.agg #[.int .i64 p, .slice A7 m c7, .int .i64 (turnI r a (-1)), .int .i64 b, .int .i64 (turnI r s 1), .int .i64 g]) (fun _ _ _ h => h) (Or.inl ⟨by rfl, fun W' hSw => ?_⟩) hHeld ?_
        · skip
          unfold qK24_6
          go_simp
        try simp only [Act.put, List.setIfInBounds_toArray, List.set_cons_zero, List.set_cons_succ]
        refine tK24_01234568_7 (.bool r) (fun _ _ _ h => h) (Or.inl ⟨by rfl, fun W' hSw => ?_⟩) hHeld ?_
        · skip
          unfold qK24_7
          go_simp
        try simp only [Act.put, List.setIfInBounds_toArray, List.set_cons_zero, List.set_cons_succ]
        have SO := sentOn_mk (W := w10) (p := p) (x := turnI r a (-1)) (b := b) (y := turnI r s 1) (g := g) (r := r) jB r7 (by omega) (by omega) (by omega) (by omega) (by omega) hHeld
        refine cK24_012345678_9 (fun K hK => ?_)
        rw [if_pos (by rfl)]
        unfold qK24_9
        have y0 : w7.cell? ⟨w5.heap.size, 0, none⟩ = some (.int .i64 0) := by rw [jB.cell]; rfl
        have z0 : w7.frozen? ⟨w5.heap.size, 0, none⟩ = false := jB.frozen 0
        have y1 : w7.cell? ⟨w5.heap.size, 1, none⟩ = some (.slice none 0 0) := by rw [jB.cell]; rfl
        have z1 : w7.frozen? ⟨w5.heap.size, 1, none⟩ = false := jB.frozen 1
        have y2 : w7.cell? ⟨w5.heap.size, 2, none⟩ = some (.int .i64 0) := by rw [jB.cell]; rfl
        have z2 : w7.frozen? ⟨w5.heap.size, 2, none⟩ = false := jB.frozen 2
        have y3 : w7.cell? ⟨w5.heap.size, 3, none⟩ = some (.int .i64 0) := by rw [jB.cell]; rfl
        have z3 : w7.frozen? ⟨w5.heap.size, 3, none⟩ = false := jB.frozen 3
        have y4 : w7.cell? ⟨w5.heap.size, 4, none⟩ = some (.int .i64 0) := by rw [jB.cell]; rfl
        have z4 : w7.frozen? ⟨w5.heap.size, 4, none⟩ = false := jB.frozen 4
        have y5 : w7.cell? ⟨w5.heap.size, 5, none⟩ = some (.int .i64 0) := by rw [jB.cell]; rfl
        have z5 : w7.frozen? ⟨w5.heap.size, 5, none⟩ = false := jB.frozen 5
        go_simp
        refine Shut.out hK _ _ ?_ (fun hHeld => ?_)
        · obtain ⟨_, _, _, _, _, _, _, _, _, _, _, _, _, _, hq⟩ := SO; exact hq
        clear hK K
        try simp only [Act.put, List.setIfInBounds_toArray, List.set_cons_zero, List.set_cons_succ]
        refine tK24_0123456789_10 (.bool r) (fun _ _ _ h => h) (Or.inl ⟨by rfl, fun W' hSw => ?_⟩) hHeld ?_
        · skip
          unfold qK24_10
          go_simp
        try simp only [Act.put, List.setIfInBounds_toArray, List.set_cons_zero, List.set_cons_succ]
        refine wpAnyH_done (by kernel_rfl) ?_ _
        clear hHeld
        go_wp2_with fail
        go_meet
        exact SO
    · rw [if_pos (by rfl)]
      unfold qK24_8
      go_simp
      generalize hV0 : World.alloc _ _ = V0
      obtain ⟨V, hV⟩ : ∃ z, z = World.drew V0 := ⟨_, rfl⟩
      rw [← hV]
      have jB : Blk V w10.heap.size 26 #[.int .i64 0, .slice none 0 0, .int .i64 0, .int .i64 0, .int .i64 0, .int .i64 0] := by rw [hV, ← hV0]; exact Blk.new _ _ _
      have hbv : Below w10.heap.size w10 V := by rw [hV, ← hV0]; exact ((Below.refl _ _).alloc (Nat.le_refl _) _).drew
      have hHeld := hbv
      have hszv := hbv.size
      clear hbv hV hV0
      refine Shut.out hK _ _ ?_ (fun hHeld => ?_)
      · exact hHeld
      clear hK K
      try simp only [Act.put, List.setIfInBounds_toArray, List.set_cons_zero, List.set_cons_succ]
      refine cK24_028_1 (fun K hK => ?_)
      rw [if_pos (by rfl)]
      unfold qK24_1
      go_simp
      refine (toLk_row A n c zs Z.out p a b s g _ ((S.out.below B12.out).below hHeld) le0).mono ?_
      rintro e w5 ⟨A5, c5, rfl, r5, hb5⟩
      have hHeld := below_chain hHeld hb5
      replace jB := jB.below hb5
      clear hb5
      refine Shut.out hK _ _ ?_ (fun hHeld => ?_)
      · exact hHeld
      clear hK K
      try simp only [Act.put, List.setIfInBounds_toArray, List.set_cons_zero, List.set_cons_succ]
      refine cK24_0128_3 (fun K hK => ?_)
      rw [if_pos (by rfl)]
      unfold qK24_3
      go_simp
      refine (toRecord_any p0 p1 p2 p3 p4 _).mono ?_
      rintro e w6 ⟨rfl, hb6⟩
      have hHeld := below_chain hHeld hb6
      replace r5 := r5.below hb6
      replace jB := jB.below hb6
      clear hb6
      refine Shut.out hK _ _ ?_ (fun hHeld => ?_)
      · exact hHeld
      clear hK K
      try simp only [Act.put, List.setIfInBounds_toArray, List.set_cons_zero, List.set_cons_succ]
      refine cK24_01238_4 (fun K hK => ?_)
      rw [if_pos (by rfl)]
      unfold qK24_4
      go_simp
      have hsz := hHeld.size
      refine (implSend_any n zs Z.out A5 c5 r5.nil p a b s g p0 p1 p2 p3 p4 hGZ _ r5.rc le0 HR.out HU.out HM.out).mono ?_
      rintro e w7 ⟨A7, c7, rfl, o7, hb7⟩
      obtain ⟨A7', c7', he, r7⟩ := row_of o7
      simp only [Value.slice.injEq, true_and] at he
      obtain ⟨rfl, rfl⟩ := he
      clear o7
      have hsz7 := hb7.size
      have hHeld := below_chain hHeld hb7
      have jlt := jB.lt
      replace jB := jB.below hb7
      clear hb7
      refine Shut.out hK _ _ ?_ (fun hHeld => ?_)
      · exact hHeld
      clear hK K
      try simp only [Act.put, List.setIfInBounds_toArray, List.set_cons_zero, List.set_cons_succ]
      refine tK24_012348_5 (.tuple #[.agg #[.int .i64 p, .slice A7 m c7, .int .i64 (turnI r a (-1)), .int .i64 b, .int .i64 (turnI r s 1), .int .i64 g], .bool r]) (fun _ _ _ h => h) (Or.inl ⟨by rfl, fun W' hSw => ?_⟩) hHeld ?_
      · skip
        unfold qK24_5
        go_simp
      try simp only [Act.put, List.setIfInBounds_toArray, List.set_cons_zero, List.set_cons_succ]
      refine tK24_0123458_6 (.agg #[.int .i64 p, .slice A7 m c7, .int .i64 (turnI r a (-1)), .int .i64 b, .int .i64 (turnI r s 1), .int .i64 g]) (fun _ _ _ h => h) (Or.inl ⟨by rfl, fun W' hSw => ?_⟩) hHeld ?_
      · skip
        unfold qK24_6
        go_simp
      try simp only [Act.put, List.setIfInBounds_toArray, List.set_cons_zero, List.set_cons_succ]
      refine tK24_01234568_7 (.bool r) (fun _ _ _ h => h) (Or.inl ⟨by rfl, fun W' hSw => ?_⟩) hHeld ?_
      · skip
        unfold qK24_7
        go_simp
      try simp only [Act.put, List.setIfInBounds_toArray, List.set_cons_zero, List.set_cons_succ]
      have SO := sentOn_mk (W := w10) (p := p) (x := turnI r a (-1)) (b := b) (y := turnI r s 1) (g := g) (r := r) jB r7 (by omega) (by omega) (by omega) (by omega) (by omega) hHeld
      refine cK24_012345678_9 (fun K hK => ?_)
      rw [if_pos (by rfl)]
      unfold qK24_9
      have y0 : w7.cell? ⟨w10.heap.size, 0, none⟩ = some (.int .i64 0) := by rw [jB.cell]; rfl
      have z0 : w7.frozen? ⟨w10.heap.size, 0, none⟩ = false := jB.frozen 0
      have y1 : w7.cell? ⟨w10.heap.size, 1, none⟩ = some (.slice none 0 0) := by rw [jB.cell]; rfl
      have z1 : w7.frozen? ⟨w10.heap.size, 1, none⟩ = false := jB.frozen 1
      have y2 : w7.cell? ⟨w10.heap.size, 2, none⟩ = some (.int .i64 0) := by rw [jB.cell]; rfl
      have z2 : w7.frozen? ⟨w10.heap.size, 2, none⟩ = false := jB.frozen 2
      have y3 : w7.cell? ⟨w10.heap.size, 3, none⟩ = some (.int .i64 0) := by rw [jB.cell]; rfl
      have z3 : w7.frozen? ⟨w10.heap.size, 3, none⟩ = false := jB.frozen 3
      have y4 : w7.cell? ⟨w10.heap.size, 4, none⟩ = some (.int .i64 0) := by rw [jB.cell]; rfl
      have z4 : w7.frozen? ⟨w10.heap.size, 4, none⟩ = false := jB.frozen 4
      have y5 : w7.cell? ⟨w10.heap.size, 5, none⟩ = some (.int .i64 0) := by rw [jB.cell]; rfl
      have z5 : w7.frozen? ⟨w10.heap.size, 5, none⟩ = false := jB.frozen 5
      go_simp
      refine Shut.out hK _ _ ?_ (fun hHeld => ?_)
      · obtain ⟨_, _, _, _, _, _, _, _, _, _, _, _, _, _, hq⟩ := SO; exact hq
      clear hK K
      try simp only [Act.put, List.setIfInBounds_toArray, List.set_cons_zero, List.set_cons_succ]
      refine tK24_0123456789_10 (.bool r) (fun _ _ _ h => h) (Or.inl ⟨by rfl, fun W' hSw => ?_⟩) hHeld ?_
      · skip
        unfold qK24_10
        go_simp
      try simp only [Act.put, List.setIfInBounds_toArray, List.set_cons_zero, List.set_cons_succ]
      refine wpAnyH_done (by kernel_rfl) ?_ _
      clear hHeld
      go_wp2_with fail
      go_meet
      exact SO
  case rest =>
  obtain ⟨j12, A12, c12, lo12, hi12, rfl, rfl, nb, nr, f112, f212, f312, f412, f512, hb⟩ := hcut
  obtain ⟨u12, hwc⟩ : ∃ z, z = wc := ⟨_, rfl⟩
  subst hwc
  have sz13 := hb.size
  have B13 := Lib.hid (below_chain B12.out hb)
  have X2_13 := Lib.hid (X2_12.out.below hb)
  have X4_13 := Lib.hid (X4_12.out.below hb)
  have L0_13 := Lib.hid (L0_12.out.below hb)
  have RR_13 := Lib.hid (RR_12.out.below hb)
  have w0_13 := Lib.hid (w0_12.out.below hb)
  have x0_13 := Lib.hid (x0_12.out.below hb)
  have g0_13 := Lib.hid (g0_12.out.below hb)
  clear hb B12 X2_12 X4_12 L0_12 RR_12 w0_12 x0_12 g0_12
  have X12_13 := Lib.hid nr
  clear nr
  have h0_13 := Lib.hid nb
  clear nb
  have lth0 : j12 < u12.heap.size := h0_13.out.lt
  have xh00 : u12.cell? ⟨j12, 0, none⟩ = some (.int .i64 p) := by rw [h0_13.out.cell]; rfl
  have xh01 : u12.cell? ⟨j12, 1, none⟩ = some (.slice A12 m c12) := by rw [h0_13.out.cell]; rfl
  have xh02 : u12.cell? ⟨j12, 2, none⟩ = some (.int .i64 (turnI r a (-1))) := by rw [h0_13.out.cell]; rfl
  have xh03 : u12.cell? ⟨j12, 3, none⟩ = some (.int .i64 b) := by rw [h0_13.out.cell]; rfl
  have xh04 : u12.cell? ⟨j12, 4, none⟩ = some (.int .i64 (turnI r s 1)) := by rw [h0_13.out.cell]; rfl
  have xh05 : u12.cell? ⟨j12, 5, none⟩ = some (.int .i64 g) := by rw [h0_13.out.cell]; rfl
  have xw00 : u12.cell? ⟨j2, 0, none⟩ = some (.int .i64 p) := by rw [w0_13.out.cell]; rfl
  have xw01 : u12.cell? ⟨j2, 1, none⟩ = some (.slice A2 m c2) := by rw [w0_13.out.cell]; rfl
  have xw02 : u12.cell? ⟨j2, 2, none⟩ = some (.int .i64 (turnI r a (-1))) := by rw [w0_13.out.cell]; rfl
  have xw03 : u12.cell? ⟨j2, 3, none⟩ = some (.int .i64 b) := by rw [w0_13.out.cell]; rfl
  have xw04 : u12.cell? ⟨j2, 4, none⟩ = some (.int .i64 (turnI r s 1)) := by rw [w0_13.out.cell]; rfl
  have xw05 : u12.cell? ⟨j2, 5, none⟩ = some (.int .i64 g) := by rw [w0_13.out.cell]; rfl
  go_wp2_with fail
  clear xh00 xh01 xh02 xh03 xh04 xh05 xw00 xw01 xw02 xw03 xw04 xw05
  refine (eqLk_row p (turnI r a (-1)) b (turnI r s 1) g X12_13.out X2_13.out (by omega)).mono ?_
  rintro e w13 ⟨rfl, hb⟩
  have sz14 := hb.size
  have B14 := Lib.hid (below_chain B13.out hb)
  have X2_14 := Lib.hid (X2_13.out.below hb)
  have X4_14 := Lib.hid (X4_13.out.below hb)
  have X12_14 := Lib.hid (X12_13.out.below hb)
  have L0_14 := Lib.hid (L0_13.out.below hb)
  have RR_14 := Lib.hid (RR_13.out.below hb)
  have w0_14 := Lib.hid (w0_13.out.below hb)
  have x0_14 := Lib.hid (x0_13.out.below hb)
  have g0_14 := Lib.hid (g0_13.out.below hb)
  have h0_14 := Lib.hid (h0_13.out.below hb)
  clear hb B13 X2_13 X4_13 X12_13 L0_13 RR_13 w0_13 x0_13 g0_13 h0_13
  have xg00 : w13.cell? ⟨j4, 0, none⟩ = some (.int .i64 p) := by rw [g0_14.out.cell]; rfl
  have xg01 : w13.cell? ⟨j4, 1, none⟩ = some (.slice A4 m c4) := by rw [g0_14.out.cell]; rfl
  have xg02 : w13.cell? ⟨j4, 2, none⟩ = some (.int .i64 (turnI r a (-1))) := by rw [g0_14.out.cell]; rfl
  have xg03 : w13.cell? ⟨j4, 3, none⟩ = some (.int .i64 b) := by rw [g0_14.out.cell]; rfl
  have xg04 : w13.cell? ⟨j4, 4, none⟩ = some (.int .i64 (turnI r s 1)) := by rw [g0_14.out.cell]; rfl
  have xg05 : w13.cell? ⟨j4, 5, none⟩ = some (.int .i64 g) := by rw [g0_14.out.cell]; rfl
  go_wp2_with fail
  clear xg00 xg01 xg02 xg03 xg04 xg05
  refine (heldLk_row 1 p (turnI r a (-1)) b (turnI r s 1) g X4_14.out (by omega) (by omega)).mono ?_
  rintro e w14 ⟨rfl, hb⟩
  have sz15 := hb.size
  have B15 := Lib.hid (below_chain B14.out hb)
  have X2_15 := Lib.hid (X2_14.out.below hb)
  have X4_15 := Lib.hid (X4_14.out.below hb)
  have X12_15 := Lib.hid (X12_14.out.below hb)
  have L0_15 := Lib.hid (L0_14.out.below hb)
  have RR_15 := Lib.hid (RR_14.out.below hb)
  have w0_15 := Lib.hid (w0_14.out.below hb)
  have x0_15 := Lib.hid (x0_14.out.below hb)
  have g0_15 := Lib.hid (g0_14.out.below hb)
  have h0_15 := Lib.hid (h0_14.out.below hb)
  clear hb B14 X2_14 X4_14 X12_14 L0_14 RR_14 w0_14 x0_14 g0_14 h0_14
  go_wp2
  go_ret
  exact ⟨rfl, B15.out⟩
end Go.Proofs.Ytidpjpakodndhaa.fnExactSendOn
