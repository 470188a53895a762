/-
  The reference's SortRecords: the contract of spec.SortRecords.
-/
import Derived.Test.YtdmbkjebagnloaaGreatDoorJ12
import Derived.Test.YtdmbkjebagnloaaGreatDoorRegS7

namespace Go.Proofs.YtdmbkjebagnloaaGreatDoor.hexes
open Go.RowKit

structure RcX (W : World) (b : Nat) (p0 p1 p2 p3 p4 : Int) (g o : Nat) (q0 q1' q2' q3 q4 : Int) (w' : World) : Prop where
  c0 : w'.cell? ⟨b, 0, none⟩ = some (.int .i64 p0)
  c1 : w'.cell? ⟨b, 1, none⟩ = some (.int .i64 p1)
  c2 : w'.cell? ⟨b, 2, none⟩ = some (.int .i64 p2)
  c3 : w'.cell? ⟨b, 3, none⟩ = some (.int .i64 p3)
  c4 : w'.cell? ⟨b, 4, none⟩ = some (.int .i64 p4)
  d0 : w'.cell? ⟨g, o, none⟩ = some (.int .i64 q0)
  d1 : w'.cell? ⟨g, o + 1, none⟩ = some (.int .i64 q1')
  d2 : w'.cell? ⟨g, o + 2, none⟩ = some (.int .i64 q2')
  d3 : w'.cell? ⟨g, o + 3, none⟩ = some (.int .i64 q3)
  d4 : w'.cell? ⟨g, o + 4, none⟩ = some (.int .i64 q4)
  bel : Below W.heap.size W w'
theorem RcX.drew {W : World} {b : Nat} {p0 p1 p2 p3 p4 : Int} {g o : Nat} {q0 q1' q2' q3 q4 : Int} {w' : World} (h : RcX W b p0 p1 p2 p3 p4 g o q0 q1' q2' q3 q4 w') : RcX W b p0 p1 p2 p3 p4 g o q0 q1' q2' q3 q4 w'.drew := ⟨h.c0, h.c1, h.c2, h.c3, h.c4, h.d0, h.d1, h.d2, h.d3, h.d4, h.bel.drew⟩
theorem RcX.below {W : World} {b : Nat} {p0 p1 p2 p3 p4 : Int} {g o : Nat} {q0 q1' q2' q3 q4 : Int} {w' w2 : World} (h : RcX W b p0 p1 p2 p3 p4 g o q0 q1' q2' q3 q4 w') (hb : Below w'.heap.size w' w2) : RcX W b p0 p1 p2 p3 p4 g o q0 q1' q2' q3 q4 w2 := ⟨below_keep hb h.c0, below_keep hb h.c1, below_keep hb h.c2, below_keep hb h.c3, below_keep hb h.c4, below_keep hb h.d0, below_keep hb h.d1, below_keep hb h.d2, below_keep hb h.d3, below_keep hb h.d4, below_chain h.bel hb⟩
structure BelW (W : World) (w' : World) : Prop where
  bel : Below W.heap.size W w'
theorem BelW.drew {W : World} {w' : World} (h : BelW W w') : BelW W w'.drew := ⟨h.bel.drew⟩
theorem BelW.below {W : World} {w' w2 : World} (h : BelW W w') (hb : Below w'.heap.size w' w2) : BelW W w2 := ⟨below_chain h.bel hb⟩

theorem set_mid {L T : List Rc} {h a : Rc} {k : Nat} (hk : k = L.length) : (L ++ h :: T).set k a = L ++ a :: T := by subst hk; simp
theorem ys_split {ys : List Rc} {i : Nat} (hi : i < ys.length) : ys = ys.take i ++ ys[i] :: ys.drop (i + 1) := by
  rw [← List.drop_eq_getElem_cons hi, List.take_append_drop]
theorem ins_perm (L M R : List Rc) (x : Rc) : (L ++ x :: (M ++ R)).Perm (L ++ M ++ x :: R) := by
  rw [List.append_assoc]
  exact List.Perm.append_left L List.perm_middle.symm
theorem ins_take {L M R : List Rc} {x : Rc} {i : Nat} (h : L.length + M.length = i) : (L ++ x :: (M ++ R)).take (i + 1) = L ++ x :: M := by
  rw [show L ++ x :: (M ++ R) = (L ++ x :: M) ++ R by simp, List.take_append_of_le_length (by simp; omega), List.take_of_length_le (by simp; omega)]
theorem ins_asc {L M : List Rc} {x : Rc} (h : AscR (L ++ M)) (hM : ∀ a ∈ M, ltR x a) (hL : ∀ a L', L = L' ++ [a] → ¬ltR x a) : AscR (L ++ x :: M) := by
  obtain ⟨h1, h2, h3⟩ := List.pairwise_append.1 h
  refine List.pairwise_append.2 ⟨h1, List.pairwise_cons.2 ⟨fun a ha => ltR_asymm (hM a ha), h2⟩, fun a ha b hb => ?_⟩
  rcases List.mem_cons.1 hb with rfl | hb
  · rcases List.eq_nil_or_concat L with rfl | ⟨L', c, hc⟩
    · cases ha
    · have hc' : L = L' ++ [c] := by simpa using hc
      have hx := hL c L' hc'
      rw [hc'] at ha h1
      rcases List.mem_append.1 ha with h' | h'
      · have := (List.pairwise_append.1 h1).2.2 a h' c (by simp)
        exact ltR_ntrans hx this
      · simp only [List.mem_singleton] at h'
        rw [h']; exact hx
  · exact h3 a ha b hb
theorem asc_one (zs : List Rc) : AscR (zs.take 1) := by
  rcases zs with _ | ⟨z, zs⟩
  · exact List.Pairwise.nil
  · simp [AscR]
theorem own_at_rc {w : World} {base e g n cap j : Nat} {zs : List Rc} (h : w.ownsRow base e 5 (.slice (some ⟨g, 0, none⟩) n cap) n (rcCells zs)) (hz : zs.length = n) (hj : j < zs.length) : w.cell? ⟨g, j * 5, none⟩ = some (.int .i64 zs[j].1) ∧ w.cell? ⟨g, j * 5 + 1, none⟩ = some (.int .i64 zs[j].2.1.1) ∧ w.cell? ⟨g, j * 5 + 2, none⟩ = some (.int .i64 zs[j].2.1.2) ∧ w.cell? ⟨g, j * 5 + 3, none⟩ = some (.int .i64 zs[j].2.2.1) ∧ w.cell? ⟨g, j * 5 + 4, none⟩ = some (.int .i64 zs[j].2.2.2) := by
  obtain ⟨e0, e1, e2, e3, e4⟩ := rcCells_at zs j hj
  exact ⟨by rw [h.cellAt _ (by omega)]; exact e0, by rw [h.cellAt _ (by omega)]; exact e1, by rw [h.cellAt _ (by omega)]; exact e2, by rw [h.cellAt _ (by omega)]; exact e3, by rw [h.cellAt _ (by omega)]; exact e4⟩
theorem specRcOrd_is {p0 p1 p2 p3 p4 q0 q1' q2' q3 q4 r : Int} (h : ordRc (p0, (p1, p2), p3, p4) (q0, (q1', q2'), q3, q4) = r) (W : World) :
    Calls Tryz.prog 20 #[.agg #[.int .i64 p0, .int .i64 p1, .int .i64 p2, .int .i64 p3, .int .i64 p4], .agg #[.int .i64 q0, .int .i64 q1', .int .i64 q2', .int .i64 q3, .int .i64 q4]] W fun e w' => e = .returned (.int .i64 r) ∧ Below W.heap.size W w' := by
  subst h; exact specRcOrd_any _ _ _ _ _ _ _ _ _ _ W

set_option maxRecDepth 1000000 in
set_option maxHeartbeats 8000000 in
theorem specSort_any (n : Nat) (zs : List Rc) (hz : zs.length = n) (A : Option Addr) (c : Nat) (hA : A = none → c = 0) (w : World) (h1 : Rcs w A zs) (hn : n ≤ 1048576) :
    Calls Tryz.prog 8 #[.slice A n c] w fun e w' => ∃ v, e = .returned v ∧ w'.ownsRow w.heap.size 32 5 v n (rcCells (sortR zs)) ∧ Below w.heap.size w w' := by
  have hb := Below.alloc (Below.refl w.heap.size w) (Nat.le_refl _) (.cells #[] 32)
  have S := Lib.hid (h1.below hb)
  have HB0 := Lib.hid hb
  have HZ := Lib.hid hz
  have HA := Lib.hid hA
  clear h1 hz hA hb
  go_enter Tryz.func8, Tryz.ntmps8
  go_wp2_with (at_builtin; refine wpList_append_rc rfl (.tmp 7) (.tmp 8) (by rfl) w.heap.size (.slice (some ⟨w.heap.size, 0, none⟩) 0 0) 0 [] (by rfl) (World.ownsRow_lit w #[] 0 (Nat.le_refl _) (by decide) (by rfl)) A n c zs rfl HA.out HZ.out S.out (by omega) HB0.out.size ?_; intro v' w2 own2 gr2)
  have hb2 := HB0.out.grown gr2 HB0.out.size (fun k hk => Nat.le_of_eq (Option.some.inj hk))
  rw [Nat.zero_add, List.nil_append] at own2
  obtain ⟨A2, c2, rfl, hf⟩ := own_form own2
  have O2 := Lib.hid own2
  have B2 := Lib.hid hb2
  have HF := Lib.hid hf
  clear own2 gr2 hb2 hf S
  go_wp2
  go_loopw [4] (fun ii wr => ∃ (i : Nat) (ys : List Rc), 1 ≤ i ∧ ii = .int .i64 i ∧ ys.length = n ∧ ys.Perm zs ∧ AscR (ys.take i) ∧ wr.ownsRow w.heap.size 32 5 (.slice A2 n c2) n (rcCells ys) ∧ Below w.heap.size w wr) (fun ii _ => n - (intOf ii).toNat)
  case atStart => exact ⟨1, zs, Nat.le_refl _, rfl, HZ.out, List.Perm.refl _, asc_one zs, O2.out, B2.out⟩
  case round =>
    obtain ⟨i, ys, hi1, rfl, hyl, hyp, hya, hown, hb⟩ := hrel
    have HYL := Lib.hid hyl
    have HP := Lib.hid hyp
    have HAS := Lib.hid hya
    have HO := Lib.hid hown
    have HB := Lib.hid hb
    clear hyl hyp hya hown hb
    by_cases hlt : i < n
    · obtain ⟨g, rfl⟩ := HF.out (by omega)
      have hgB : w.heap.size ≤ g := own_ge HO.out g (by simp [Value.ownBlock])
      have hgl : g < wr.heap.size := own_lt HO.out
      have li : i < ys.length := by rw [HYL.out]; exact hlt
      obtain ⟨e0, e1, e2, e3, e4⟩ := own_at_rc HO.out HYL.out li
      obtain ⟨⟨p0, ⟨p1, p2⟩, p3, p4⟩, hx⟩ : ∃ x, ys[i] = x := ⟨_, rfl⟩
      rw [hx] at e0 e1 e2 e3 e4
      dsimp only at e0 e1 e2 e3 e4
      have X1 := Lib.hid hx
      have i0 : (0 : Int) ≤ (i : Int) := by omega
      have i1 : (i : Int) < (n : Int) := by omega
      obtain ⟨bx, hbx⟩ : ∃ bx, wr.heap.size = bx := ⟨_, rfl⟩
      obtain ⟨wa, hwa⟩ : ∃ wa, wr.alloc (.cells #[.int .i64 p0, .int .i64 p1, .int .i64 p2, .int .i64 p3, .int .i64 p4] 32) = wa := ⟨_, rfl⟩
      have OA := Lib.hid (show wa.ownsRow w.heap.size 32 5 (.slice (some ⟨g, 0, none⟩) n c2) n (rcCells ys) by rw [← hwa]; exact HO.out.alloc _)
      have BA := Lib.hid (show Below w.heap.size w wa by rw [← hwa]; exact HB.out.alloc HB.out.size _)
      have XA0 := Lib.hid (show wa.cell? ⟨bx, 0, none⟩ = some (.int .i64 p0) by rw [← hwa, ← hbx]; simp)
      have XA1 := Lib.hid (show wa.cell? ⟨bx, 1, none⟩ = some (.int .i64 p1) by rw [← hwa, ← hbx]; simp)
      have XA2 := Lib.hid (show wa.cell? ⟨bx, 2, none⟩ = some (.int .i64 p2) by rw [← hwa, ← hbx]; simp)
      have XA3 := Lib.hid (show wa.cell? ⟨bx, 3, none⟩ = some (.int .i64 p3) by rw [← hwa, ← hbx]; simp)
      have XA4 := Lib.hid (show wa.cell? ⟨bx, 4, none⟩ = some (.int .i64 p4) by rw [← hwa, ← hbx]; simp)
      have hbxg : bx ≠ g := by omega
      clear hx HO HB
      go_wp2
      clear hwa hbx e0 e1 e2 e3 e4
      go_loopw [6] (fun kk wq => ∃ (k : Nat) (L M : List Rc) (h : Rc), k = L.length ∧ kk = .int .i64 k ∧ L ++ M = ys.take i ∧ (∀ a ∈ M, ltR (p0, (p1, p2), p3, p4) a) ∧ wq.ownsRow w.heap.size 32 5 (.slice (some ⟨g, 0, none⟩) n c2) n (rcCells (L ++ h :: (M ++ ys.drop (i + 1)))) ∧ wq.cell? ⟨bx, 0, none⟩ = some (.int .i64 p0) ∧ wq.cell? ⟨bx, 1, none⟩ = some (.int .i64 p1) ∧ wq.cell? ⟨bx, 2, none⟩ = some (.int .i64 p2) ∧ wq.cell? ⟨bx, 3, none⟩ = some (.int .i64 p3) ∧ wq.cell? ⟨bx, 4, none⟩ = some (.int .i64 p4) ∧ Below w.heap.size w wq) (fun kk _ => (intOf kk).toNat)
      case atStart => exact ⟨i, ys.take i, [], ys[i], by rw [List.length_take]; omega, rfl, by simp, (fun a ha => by cases ha), by rw [List.nil_append, ← ys_split li]; exact OA.out, XA0.out, XA1.out, XA2.out, XA3.out, XA4.out, BA.out⟩
      case round =>
        obtain ⟨k, L, M, h, hkl, rfl, hlm, hM, hown, x0, x1, x2, x3, x4, hb⟩ := hrel
        obtain ⟨wq, hwq⟩ : ∃ wq, wq = wr := ⟨_, rfl⟩
        subst hwq
        have hli : L.length + M.length = i := by have := congrArg List.length hlm; rw [List.length_append, List.length_take, HYL.out] at this; omega
        have hrl : (L ++ h :: (M ++ ys.drop (i + 1))).length = n := by have := hown.1; rw [rcCells_length] at this; omega
        have HKL := Lib.hid hkl
        have HLM := Lib.hid hlm
        have HM := Lib.hid hM
        have HO := Lib.hid hown
        have HB := Lib.hid hb
        have HLI := Lib.hid hli
        have X0 := Lib.hid x0
        have X1' := Lib.hid x1
        have X2 := Lib.hid x2
        have X3 := Lib.hid x3
        have X4 := Lib.hid x4
        have hkn : k < n := by omega
        have kk0 : (0 : Int) ≤ (k : Int) := by omega
        have kk1 : (k : Int) < (n : Int) := by omega
        clear hkl hlm hM hown hb x0 x1 x2 x3 x4
        rcases Nat.eq_zero_or_pos k with hk0 | hk0
        · have HK0 := Lib.hid hk0
          have q1 : decide ((k : Int) > 0) = false := by simp; omega
          have T0 := Lib.hid (show BelW wq wq from ⟨Below.refl _ _⟩)
          clear hk0 hli hrl
          go_wp2_with fail
          refine wp_region_held_drew (S := BelW wq) (by kernel_rfl) ?_ (fun hHeld => ?_)
          · skip
            exact T0.out.drew
          change wpAnyH _ _ opsS7 _ _ 12 (LS7 0) _ _
          refine tS7_0 (.int .i64 (k : Int)) (fun _ _ _ h => h) (Or.inl ⟨by rfl, fun W hSw => ?_⟩) hHeld ?_
          · skip
            unfold qS7_0
            go_simp
          try simp only [Act.put, List.setIfInBounds_toArray, List.set_cons_zero, List.set_cons_succ]
          refine tS7_1 (.bool false) (fun _ _ _ h => h) (Or.inl ⟨by rfl, fun W hSw => ?_⟩) hHeld ?_
          · skip
            unfold qS7_1
            go_simp
            exact HK0.out
          try simp only [Act.put, List.setIfInBounds_toArray, List.set_cons_zero, List.set_cons_succ]
          refine tS7_2 (.bool false) (fun _ _ _ h => h) (Or.inl ⟨by rfl, fun W hSw => ?_⟩) hHeld ?_
          · skip
            unfold qS7_2
            go_simp
          try simp only [Act.put, List.setIfInBounds_toArray, List.set_cons_zero, List.set_cons_succ]
          refine tS7_3 undef (fun _ _ _ h => h) (Or.inr ⟨by rfl, rfl⟩) hHeld ?_
          try simp only [Act.put, List.setIfInBounds_toArray, List.set_cons_zero, List.set_cons_succ]
          refine tS7_4 undef (fun _ _ _ h => h) (Or.inr ⟨by rfl, rfl⟩) hHeld ?_
          try simp only [Act.put, List.setIfInBounds_toArray, List.set_cons_zero, List.set_cons_succ]
          refine tS7_5 undef (fun _ _ _ h => h) (Or.inr ⟨by rfl, rfl⟩) hHeld ?_
          try simp only [Act.put, List.setIfInBounds_toArray, List.set_cons_zero, List.set_cons_succ]
          refine tS7_6 undef (fun _ _ _ h => h) (Or.inr ⟨by rfl, rfl⟩) hHeld ?_
          try simp only [Act.put, List.setIfInBounds_toArray, List.set_cons_zero, List.set_cons_succ]
          refine tS7_7 undef (fun _ _ _ h => h) (Or.inr ⟨by rfl, rfl⟩) hHeld ?_
          try simp only [Act.put, List.setIfInBounds_toArray, List.set_cons_zero, List.set_cons_succ]
          refine tS7_8 undef (fun _ _ _ h => h) (Or.inr ⟨by rfl, rfl⟩) hHeld ?_
          try simp only [Act.put, List.setIfInBounds_toArray, List.set_cons_zero, List.set_cons_succ]
          refine tS7_9 undef (fun _ _ _ h => h) (Or.inr ⟨by rfl, rfl⟩) hHeld ?_
          try simp only [Act.put, List.setIfInBounds_toArray, List.set_cons_zero, List.set_cons_succ]
          refine tS7_10 undef (fun _ _ _ h => h) (Or.inr ⟨by rfl, rfl⟩) hHeld ?_
          try simp only [Act.put, List.setIfInBounds_toArray, List.set_cons_zero, List.set_cons_succ]
          refine tS7_11 (Value.bool false) (fun _ _ _ h => h) (Or.inl ⟨by rfl, fun W hSw => ?_⟩) hHeld ?_
          · skip
            unfold qS7_11
            go_simp
          try simp only [Act.put, List.setIfInBounds_toArray, List.set_cons_zero, List.set_cons_succ]
          refine wpAnyH_done (by kernel_rfl) ?_ _
          obtain ⟨w6, hw6⟩ : ∃ w6, w6 = wq.drew := ⟨_, rfl⟩
          have B6 := Lib.hid (show Below wq.heap.size wq w6 by rw [hw6]; exact hHeld.bel)
          rw [← hw6]
          clear hw6 hHeld
          have O6 := Lib.hid (own_below HO.out B6.out)
          have BW6 := Lib.hid (below_chain HB.out B6.out)
          have x0 := below_keep B6.out X0.out
          have x1 := below_keep B6.out X1'.out
          have x2 := below_keep B6.out X2.out
          have x3 := below_keep B6.out X3.out
          have x4 := below_keep B6.out X4.out
          obtain ⟨u0, cu0⟩ : ∃ u, w6.cell? ⟨g, k * 5, none⟩ = some u := ⟨_, by rw [O6.out.cellAt (k * 5) (by omega)]; exact List.getElem?_eq_getElem (by rw [O6.out.1]; omega)⟩
          have fr0 := O6.out.frozenAt (k * 5)
          obtain ⟨u1, cu1⟩ : ∃ u, w6.cell? ⟨g, k * 5 + 1, none⟩ = some u := ⟨_, by rw [O6.out.cellAt (k * 5 + 1) (by omega)]; exact List.getElem?_eq_getElem (by rw [O6.out.1]; omega)⟩
          have fr1 := O6.out.frozenAt (k * 5 + 1)
          obtain ⟨u2, cu2⟩ : ∃ u, w6.cell? ⟨g, k * 5 + 2, none⟩ = some u := ⟨_, by rw [O6.out.cellAt (k * 5 + 2) (by omega)]; exact List.getElem?_eq_getElem (by rw [O6.out.1]; omega)⟩
          have fr2 := O6.out.frozenAt (k * 5 + 2)
          obtain ⟨u3, cu3⟩ : ∃ u, w6.cell? ⟨g, k * 5 + 3, none⟩ = some u := ⟨_, by rw [O6.out.cellAt (k * 5 + 3) (by omega)]; exact List.getElem?_eq_getElem (by rw [O6.out.1]; omega)⟩
          have fr3 := O6.out.frozenAt (k * 5 + 3)
          obtain ⟨u4, cu4⟩ : ∃ u, w6.cell? ⟨g, k * 5 + 4, none⟩ = some u := ⟨_, by rw [O6.out.cellAt (k * 5 + 4) (by omega)]; exact List.getElem?_eq_getElem (by rw [O6.out.1]; omega)⟩
          have fr4 := O6.out.frozenAt (k * 5 + 4)
          have st := own_stored_rc O6.out k p0 p1 p2 p3 p4
          rw [set_mid (HKL.out)] at st
          have ST := Lib.hid st.1
          have BS := Lib.hid (BW6.out.grown st.2 BW6.out.size (fun q hq => by cases hq; exact hgB))
          have PM := Lib.hid (show (L ++ (p0, (p1, p2), p3, p4) :: (M ++ ys.drop (i + 1))).Perm zs from (ins_perm L M (ys.drop (i + 1)) _).trans (by
            have e : L ++ M ++ (p0, (p1, p2), p3, p4) :: ys.drop (i + 1) = ys := by rw [HLM.out, ← X1.out]; exact (ys_split li).symm
            rw [e]
            exact HP.out))
          have AS := Lib.hid (show AscR ((L ++ (p0, (p1, p2), p3, p4) :: (M ++ ys.drop (i + 1))).take (i + 1)) by
            rw [ins_take HLI.out]
            exact ins_asc (by rw [HLM.out]; exact HAS.out) HM.out (fun a L2 h2 => by have h3 := HKL.out; have h4 := HK0.out; rw [h2] at h3; simp at h3; omega))
          have LN := Lib.hid (show (L ++ (p0, (p1, p2), p3, p4) :: (M ++ ys.drop (i + 1))).length = n by have := ST.out.1; rw [rcCells_length] at this; omega)
          clear st O6 HO
          go_wp2
          go_roundw
          case rel => exact ⟨i + 1, _, by omega, by go_num, LN.out, PM.out, AS.out, ST.out, BS.out⟩
          case measure => simp [intOf]; omega
        · have HK0 := Lib.hid hk0
          obtain ⟨L', a, hL⟩ : ∃ L' a, L = L' ++ [a] := by
            rcases List.eq_nil_or_concat L with h' | ⟨L', a, h'⟩
            · rw [h'] at HKL
              have := HKL.out
              simp at this
              omega
            · exact ⟨L', a, by simpa using h'⟩
          obtain ⟨j, hj⟩ : ∃ j, L'.length = j := ⟨_, rfl⟩
          have hkj : k = j + 1 := by rw [HKL.out, hL]; simp [hj]
          have hrow : L ++ h :: (M ++ ys.drop (i + 1)) = L' ++ a :: (h :: (M ++ ys.drop (i + 1))) := by rw [hL]; simp
          have hget : ∀ (hh : j < (L' ++ a :: (h :: (M ++ ys.drop (i + 1)))).length), (L' ++ a :: (h :: (M ++ ys.drop (i + 1))))[j] = a := fun hh => by simp [← hj]
          have hj2 : j < (L' ++ a :: (h :: (M ++ ys.drop (i + 1)))).length := by rw [← hrow, hrl]; omega
          have hown' := HO.out
          rw [hrow] at hown' hrl
          obtain ⟨d0, d1, d2, d3, d4⟩ := own_at_rc hown' hrl hj2
          rw [hget] at d0 d1 d2 d3 d4
          obtain ⟨q0, ⟨q1', q2'⟩, q3, q4⟩ := a
          dsimp only at d0 d1 d2 d3 d4
          have D0 := Lib.hid d0
          have D1 := Lib.hid d1
          have D2 := Lib.hid d2
          have D3 := Lib.hid d3
          have D4 := Lib.hid d4
          have HL := Lib.hid hL
          have HLJ := Lib.hid hj.symm
          have hsub : (k : Int) - 1 = (j : Int) := by omega
          have hwr : IntKind.i64.wrap (j : Int) = (j : Int) := IntWalk.i64_in _ (by omega)
          have j0 : (0 : Int) ≤ (j : Int) := by omega
          have j1 : (j : Int) < (n : Int) := by omega
          have qq : decide ((k : Int) > 0) = true := by simp; omega
          obtain ⟨ov, hov⟩ : ∃ ov, ordRc (p0, (p1, p2), p3, p4) (q0, (q1', q2'), q3, q4) = ov := ⟨_, rfl⟩
          have E := Lib.hid (fun W => specRcOrd_is hov W)
          have T0 := Lib.hid (show RcX wq bx p0 p1 p2 p3 p4 g (j * 5) q0 q1' q2' q3 q4 wq from ⟨X0.out, X1'.out, X2.out, X3.out, X4.out, d0, d1, d2, d3, d4, Below.refl _ _⟩)
          have HKJ := Lib.hid hkj
          by_cases hc : ltR (p0, (p1, p2), p3, p4) (q0, (q1', q2'), q3, q4)
          · have HLT := Lib.hid hc
            have qo : decide (ov < 0) = true := decide_eq_true (by rw [← hov]; exact (ordRc_neg _ _).2 hc)
            clear hk0 hli hrl hL hj hkj hrow hget hj2 hown' d0 d1 d2 d3 d4 hov hc
            go_wp2_with fail
            refine wp_region_held_drew (S := RcX wq bx p0 p1 p2 p3 p4 g (j * 5) q0 q1' q2' q3 q4) (by kernel_rfl) ?_ (fun hHeld => ?_)
            · skip
              exact T0.out.drew
            change wpAnyH _ _ opsS7 _ _ 12 (LS7 0) _ _
            refine tS7_0 (.int .i64 (k : Int)) (fun _ _ _ h => h) (Or.inl ⟨by rfl, fun W hSw => ?_⟩) hHeld ?_
            · skip
              unfold qS7_0
              go_simp
            try simp only [Act.put, List.setIfInBounds_toArray, List.set_cons_zero, List.set_cons_succ]
            refine tS7_1 (.bool true) (fun _ _ _ h => h) (Or.inl ⟨by rfl, fun W hSw => ?_⟩) hHeld ?_
            · skip
              unfold qS7_1
              go_simp
              exact HK0.out
            try simp only [Act.put, List.setIfInBounds_toArray, List.set_cons_zero, List.set_cons_succ]
            refine tS7_2 (.bool true) (fun _ _ _ h => h) (Or.inl ⟨by rfl, fun W hSw => ?_⟩) hHeld ?_
            · skip
              unfold qS7_2
              go_simp
            try simp only [Act.put, List.setIfInBounds_toArray, List.set_cons_zero, List.set_cons_succ]
            refine tS7_3 (.agg #[.int .i64 p0, .int .i64 p1, .int .i64 p2, .int .i64 p3, .int .i64 p4]) (fun _ _ _ h => h) (Or.inl ⟨by rfl, fun W hSw => ?_⟩) hHeld ?_
            · skip
              unfold qS7_3
              obtain ⟨c0, c1, c2, c3, c4, d0, d1, d2, d3, d4, bl⟩ := hSw
              go_simp
            try simp only [Act.put, List.setIfInBounds_toArray, List.set_cons_zero, List.set_cons_succ]
            refine tS7_4 (.slice (some ⟨g, 0, none⟩) n c2) (fun _ _ _ h => h) (Or.inl ⟨by rfl, fun W hSw => ?_⟩) hHeld ?_
            · skip
              unfold qS7_4
              go_simp
            try simp only [Act.put, List.setIfInBounds_toArray, List.set_cons_zero, List.set_cons_succ]
            refine tS7_5 (.int .i64 (k : Int)) (fun _ _ _ h => h) (Or.inl ⟨by rfl, fun W hSw => ?_⟩) hHeld ?_
            · skip
              unfold qS7_5
              go_simp
            try simp only [Act.put, List.setIfInBounds_toArray, List.set_cons_zero, List.set_cons_succ]
            refine tS7_6 (.int .i64 (j : Int)) (fun _ _ _ h => h) (Or.inl ⟨by rfl, fun W hSw => ?_⟩) hHeld ?_
            · skip
              unfold qS7_6
              go_simp
            try simp only [Act.put, List.setIfInBounds_toArray, List.set_cons_zero, List.set_cons_succ]
            refine tS7_7 (.pointer (some ⟨g, j * 5, none⟩)) (fun _ _ _ h => h) (Or.inl ⟨by rfl, fun W hSw => ?_⟩) hHeld ?_
            · skip
              unfold qS7_7
              go_simp
            try simp only [Act.put, List.setIfInBounds_toArray, List.set_cons_zero, List.set_cons_succ]
            refine tS7_8 (.agg #[.int .i64 q0, .int .i64 q1', .int .i64 q2', .int .i64 q3, .int .i64 q4]) (fun _ _ _ h => h) (Or.inl ⟨by rfl, fun W hSw => ?_⟩) hHeld ?_
            · skip
              unfold qS7_8
              obtain ⟨c0, c1, c2, c3, c4, d0, d1, d2, d3, d4, bl⟩ := hSw
              go_simp
            try simp only [Act.put, List.setIfInBounds_toArray, List.set_cons_zero, List.set_cons_succ]
            refine cS7_9 (fun K hK => ?_)
            rw [if_pos (by rfl)]
            unfold qS7_9
            go_simp
            with_reducible refine (E.out _).mono ?_
            rintro e w9 ⟨rfl, hbd⟩
            dsimp only
            refine Shut.out hK _ _ ?_ (fun hHeld => ?_)
            · skip
              exact hHeld.below hbd
            clear hK K
            try simp only [Act.put, List.setIfInBounds_toArray, List.set_cons_zero, List.set_cons_succ]
            refine tS7_10 (.bool true) (fun _ _ _ h => h) (Or.inl ⟨by rfl, fun W hSw => ?_⟩) hHeld ?_
            · skip
              unfold qS7_10
              go_simp
            try simp only [Act.put, List.setIfInBounds_toArray, List.set_cons_zero, List.set_cons_succ]
            refine tS7_11 (.bool true) (fun _ _ _ h => h) (Or.inl ⟨by rfl, fun W hSw => ?_⟩) hHeld ?_
            · skip
              unfold qS7_11
              go_simp
            try simp only [Act.put, List.setIfInBounds_toArray, List.set_cons_zero, List.set_cons_succ]
            refine wpAnyH_done (by kernel_rfl) ?_ _
            obtain ⟨w6, hw6⟩ : ∃ w6, w6 = w9 := ⟨_, rfl⟩
            have B6 := Lib.hid (show Below wq.heap.size wq w6 by rw [hw6]; exact hHeld.bel)
            rw [← hw6]
            clear hw6 hHeld
            have O6 := Lib.hid (own_below HO.out B6.out)
            have BW6 := Lib.hid (below_chain HB.out B6.out)
            have x0 := below_keep B6.out X0.out
            have x1 := below_keep B6.out X1'.out
            have x2 := below_keep B6.out X2.out
            have x3 := below_keep B6.out X3.out
            have x4 := below_keep B6.out X4.out
            obtain ⟨u0, cu0⟩ : ∃ u, w6.cell? ⟨g, k * 5, none⟩ = some u := ⟨_, by rw [O6.out.cellAt (k * 5) (by omega)]; exact List.getElem?_eq_getElem (by rw [O6.out.1]; omega)⟩
            have fr0 := O6.out.frozenAt (k * 5)
            obtain ⟨u1, cu1⟩ : ∃ u, w6.cell? ⟨g, k * 5 + 1, none⟩ = some u := ⟨_, by rw [O6.out.cellAt (k * 5 + 1) (by omega)]; exact List.getElem?_eq_getElem (by rw [O6.out.1]; omega)⟩
            have fr1 := O6.out.frozenAt (k * 5 + 1)
            obtain ⟨u2, cu2⟩ : ∃ u, w6.cell? ⟨g, k * 5 + 2, none⟩ = some u := ⟨_, by rw [O6.out.cellAt (k * 5 + 2) (by omega)]; exact List.getElem?_eq_getElem (by rw [O6.out.1]; omega)⟩
            have fr2 := O6.out.frozenAt (k * 5 + 2)
            obtain ⟨u3, cu3⟩ : ∃ u, w6.cell? ⟨g, k * 5 + 3, none⟩ = some u := ⟨_, by rw [O6.out.cellAt (k * 5 + 3) (by omega)]; exact List.getElem?_eq_getElem (by rw [O6.out.1]; omega)⟩
            have fr3 := O6.out.frozenAt (k * 5 + 3)
            obtain ⟨u4, cu4⟩ : ∃ u, w6.cell? ⟨g, k * 5 + 4, none⟩ = some u := ⟨_, by rw [O6.out.cellAt (k * 5 + 4) (by omega)]; exact List.getElem?_eq_getElem (by rw [O6.out.1]; omega)⟩
            have fr4 := O6.out.frozenAt (k * 5 + 4)
            have y0 := below_keep B6.out D0.out
            have y1 := below_keep B6.out D1.out
            have y2 := below_keep B6.out D2.out
            have y3 := below_keep B6.out D3.out
            have y4 := below_keep B6.out D4.out
            have st := own_stored_rc O6.out k q0 q1' q2' q3 q4
            rw [set_mid (HKL.out)] at st
            have ST := Lib.hid st.1
            have BS := Lib.hid (BW6.out.grown st.2 BW6.out.size (fun q hq => by cases hq; exact hgB))
            have hbx : bx ≠ g := hbxg
            have X0_2 := Lib.hid (World.grownBy.cell st.2 x0 (by simpa using hbxg))
            have X1_2 := Lib.hid (World.grownBy.cell st.2 x1 (by simpa using hbxg))
            have X2_2 := Lib.hid (World.grownBy.cell st.2 x2 (by simpa using hbxg))
            have X3_2 := Lib.hid (World.grownBy.cell st.2 x3 (by simpa using hbxg))
            have X4_2 := Lib.hid (World.grownBy.cell st.2 x4 (by simpa using hbxg))
            have wj : IntKind.i64.wrap ((k : Int) - 1) = (j : Int) := by rw [hsub]; exact hwr
            clear st O6 HO
            go_wp2
            go_roundw
            case rel => exact ⟨j, L', (q0, (q1', q2'), q3, q4) :: M, (q0, (q1', q2'), q3, q4), HLJ.out, by go_num, by simpa [HL.out] using HLM.out, fun a ha => by
              rcases List.mem_cons.1 ha with rfl | ha
              · exact HLT.out
              · exact HM.out a ha, by simpa [HL.out] using ST.out, X0_2.out, X1_2.out, X2_2.out, X3_2.out, X4_2.out, BS.out⟩
            case measure => simp [intOf]; omega
          · have HLT := Lib.hid hc
            have qo : decide (ov < 0) = false := decide_eq_false (fun h' => hc ((ordRc_neg _ _).1 (by rw [hov]; exact h')))
            clear hk0 hli hrl hL hj hkj hrow hget hj2 hown' d0 d1 d2 d3 d4 hov hc
            go_wp2_with fail
            refine wp_region_held_drew (S := RcX wq bx p0 p1 p2 p3 p4 g (j * 5) q0 q1' q2' q3 q4) (by kernel_rfl) ?_ (fun hHeld => ?_)
            · skip
              exact T0.out.drew
            change wpAnyH _ _ opsS7 _ _ 12 (LS7 0) _ _
            refine tS7_0 (.int .i64 (k : Int)) (fun _ _ _ h => h) (Or.inl ⟨by rfl, fun W hSw => ?_⟩) hHeld ?_
            · skip
              unfold qS7_0
              go_simp
            try simp only [Act.put, List.setIfInBounds_toArray, List.set_cons_zero, List.set_cons_succ]
            refine tS7_1 (.bool true) (fun _ _ _ h => h) (Or.inl ⟨by rfl, fun W hSw => ?_⟩) hHeld ?_
            · skip
              unfold qS7_1
              go_simp
              exact HK0.out
            try simp only [Act.put, List.setIfInBounds_toArray, List.set_cons_zero, List.set_cons_succ]
            refine tS7_2 (.bool true) (fun _ _ _ h => h) (Or.inl ⟨by rfl, fun W hSw => ?_⟩) hHeld ?_
            · skip
              unfold qS7_2
              go_simp
            try simp only [Act.put, List.setIfInBounds_toArray, List.set_cons_zero, List.set_cons_succ]
            refine tS7_3 (.agg #[.int .i64 p0, .int .i64 p1, .int .i64 p2, .int .i64 p3, .int .i64 p4]) (fun _ _ _ h => h) (Or.inl ⟨by rfl, fun W hSw => ?_⟩) hHeld ?_
            · skip
              unfold qS7_3
              obtain ⟨c0, c1, c2, c3, c4, d0, d1, d2, d3, d4, bl⟩ := hSw
              go_simp
            try simp only [Act.put, List.setIfInBounds_toArray, List.set_cons_zero, List.set_cons_succ]
            refine tS7_4 (.slice (some ⟨g, 0, none⟩) n c2) (fun _ _ _ h => h) (Or.inl ⟨by rfl, fun W hSw => ?_⟩) hHeld ?_
            · skip
              unfold qS7_4
              go_simp
            try simp only [Act.put, List.setIfInBounds_toArray, List.set_cons_zero, List.set_cons_succ]
            refine tS7_5 (.int .i64 (k : Int)) (fun _ _ _ h => h) (Or.inl ⟨by rfl, fun W hSw => ?_⟩) hHeld ?_
            · skip
              unfold qS7_5
              go_simp
            try simp only [Act.put, List.setIfInBounds_toArray, List.set_cons_zero, List.set_cons_succ]
            refine tS7_6 (.int .i64 (j : Int)) (fun _ _ _ h => h) (Or.inl ⟨by rfl, fun W hSw => ?_⟩) hHeld ?_
            · skip
              unfold qS7_6
              go_simp
            try simp only [Act.put, List.setIfInBounds_toArray, List.set_cons_zero, List.set_cons_succ]
            refine tS7_7 (.pointer (some ⟨g, j * 5, none⟩)) (fun _ _ _ h => h) (Or.inl ⟨by rfl, fun W hSw => ?_⟩) hHeld ?_
            · skip
              unfold qS7_7
              go_simp
            try simp only [Act.put, List.setIfInBounds_toArray, List.set_cons_zero, List.set_cons_succ]
            refine tS7_8 (.agg #[.int .i64 q0, .int .i64 q1', .int .i64 q2', .int .i64 q3, .int .i64 q4]) (fun _ _ _ h => h) (Or.inl ⟨by rfl, fun W hSw => ?_⟩) hHeld ?_
            · skip
              unfold qS7_8
              obtain ⟨c0, c1, c2, c3, c4, d0, d1, d2, d3, d4, bl⟩ := hSw
              go_simp
            try simp only [Act.put, List.setIfInBounds_toArray, List.set_cons_zero, List.set_cons_succ]
            refine cS7_9 (fun K hK => ?_)
            rw [if_pos (by rfl)]
            unfold qS7_9
            go_simp
            with_reducible refine (E.out _).mono ?_
            rintro e w9 ⟨rfl, hbd⟩
            dsimp only
            refine Shut.out hK _ _ ?_ (fun hHeld => ?_)
            · skip
              exact hHeld.below hbd
            clear hK K
            try simp only [Act.put, List.setIfInBounds_toArray, List.set_cons_zero, List.set_cons_succ]
            refine tS7_10 (.bool false) (fun _ _ _ h => h) (Or.inl ⟨by rfl, fun W hSw => ?_⟩) hHeld ?_
            · skip
              unfold qS7_10
              go_simp
            try simp only [Act.put, List.setIfInBounds_toArray, List.set_cons_zero, List.set_cons_succ]
            refine tS7_11 (.bool false) (fun _ _ _ h => h) (Or.inl ⟨by rfl, fun W hSw => ?_⟩) hHeld ?_
            · skip
              unfold qS7_11
              go_simp
            try simp only [Act.put, List.setIfInBounds_toArray, List.set_cons_zero, List.set_cons_succ]
            refine wpAnyH_done (by kernel_rfl) ?_ _
            obtain ⟨w6, hw6⟩ : ∃ w6, w6 = w9 := ⟨_, rfl⟩
            have B6 := Lib.hid (show Below wq.heap.size wq w6 by rw [hw6]; exact hHeld.bel)
            rw [← hw6]
            clear hw6 hHeld
            have O6 := Lib.hid (own_below HO.out B6.out)
            have BW6 := Lib.hid (below_chain HB.out B6.out)
            have x0 := below_keep B6.out X0.out
            have x1 := below_keep B6.out X1'.out
            have x2 := below_keep B6.out X2.out
            have x3 := below_keep B6.out X3.out
            have x4 := below_keep B6.out X4.out
            obtain ⟨u0, cu0⟩ : ∃ u, w6.cell? ⟨g, k * 5, none⟩ = some u := ⟨_, by rw [O6.out.cellAt (k * 5) (by omega)]; exact List.getElem?_eq_getElem (by rw [O6.out.1]; omega)⟩
            have fr0 := O6.out.frozenAt (k * 5)
            obtain ⟨u1, cu1⟩ : ∃ u, w6.cell? ⟨g, k * 5 + 1, none⟩ = some u := ⟨_, by rw [O6.out.cellAt (k * 5 + 1) (by omega)]; exact List.getElem?_eq_getElem (by rw [O6.out.1]; omega)⟩
            have fr1 := O6.out.frozenAt (k * 5 + 1)
            obtain ⟨u2, cu2⟩ : ∃ u, w6.cell? ⟨g, k * 5 + 2, none⟩ = some u := ⟨_, by rw [O6.out.cellAt (k * 5 + 2) (by omega)]; exact List.getElem?_eq_getElem (by rw [O6.out.1]; omega)⟩
            have fr2 := O6.out.frozenAt (k * 5 + 2)
            obtain ⟨u3, cu3⟩ : ∃ u, w6.cell? ⟨g, k * 5 + 3, none⟩ = some u := ⟨_, by rw [O6.out.cellAt (k * 5 + 3) (by omega)]; exact List.getElem?_eq_getElem (by rw [O6.out.1]; omega)⟩
            have fr3 := O6.out.frozenAt (k * 5 + 3)
            obtain ⟨u4, cu4⟩ : ∃ u, w6.cell? ⟨g, k * 5 + 4, none⟩ = some u := ⟨_, by rw [O6.out.cellAt (k * 5 + 4) (by omega)]; exact List.getElem?_eq_getElem (by rw [O6.out.1]; omega)⟩
            have fr4 := O6.out.frozenAt (k * 5 + 4)
            have st := own_stored_rc O6.out k p0 p1 p2 p3 p4
            rw [set_mid (HKL.out)] at st
            have ST := Lib.hid st.1
            have BS := Lib.hid (BW6.out.grown st.2 BW6.out.size (fun q hq => by cases hq; exact hgB))
            have PM := Lib.hid (show (L ++ (p0, (p1, p2), p3, p4) :: (M ++ ys.drop (i + 1))).Perm zs from (ins_perm L M (ys.drop (i + 1)) _).trans (by
              have e : L ++ M ++ (p0, (p1, p2), p3, p4) :: ys.drop (i + 1) = ys := by rw [HLM.out, ← X1.out]; exact (ys_split li).symm
              rw [e]
              exact HP.out))
            have AS := Lib.hid (show AscR ((L ++ (p0, (p1, p2), p3, p4) :: (M ++ ys.drop (i + 1))).take (i + 1)) by
              rw [ins_take HLI.out]
              exact ins_asc (by rw [HLM.out]; exact HAS.out) HM.out (fun a L2 h2 => by have h3 := HL.out; rw [h2] at h3; have h4 := congrArg List.getLast? h3; simp only [List.getLast?_concat, Option.some.injEq] at h4; rw [h4]; exact HLT.out))
            have LN := Lib.hid (show (L ++ (p0, (p1, p2), p3, p4) :: (M ++ ys.drop (i + 1))).length = n by have := ST.out.1; rw [rcCells_length] at this; omega)
            clear st O6 HO
            go_wp2
            go_roundw
            case rel => exact ⟨i + 1, _, by omega, by go_num, LN.out, PM.out, AS.out, ST.out, BS.out⟩
            case measure => simp [intOf]; omega
    · have hfin : sortR zs = ys := sortR_is HP.out (by have := HAS.out; rwa [List.take_of_length_le (by rw [HYL.out]; omega)] at this)
      have O3 := Lib.hid (show wr.ownsRow w.heap.size 32 5 (.slice A2 n c2) n (rcCells (sortR zs)) by rw [hfin]; exact HO.out)
      clear hfin HO
      go_wp2
      go_ret
      exact ⟨_, rfl, O3.out, HB.out⟩
end Go.Proofs.YtdmbkjebagnloaaGreatDoor.hexes

