/-
  The reference's SameBag: the contract of spec.SameBag.
  The draw of SameBag's arguments: the contract of spec.DrawSameBag.
-/
import Derived.Test.YtdmbkjebagnloaaGreatDoorJ14
import Derived.Test.YtdmbkjebagnloaaGreatDoorJ22
import Derived.Test.YtdmbkjebagnloaaGreatDoorJ16

namespace Go.Proofs.YtdmbkjebagnloaaGreatDoor.hexes
open Go.RowKit

set_option maxRecDepth 100000 in
theorem specBag_any (n m : Nat) (zs ys : List Rc) (hz : zs.length = n) (hy : ys.length = m) (A1 A2 : Option Addr) (c1 c2 : Nat) (hA1 : A1 = none → c1 = 0) (hA2 : A2 = none → c2 = 0) (w : World) (h1 : Rcs w A1 zs) (h2 : Rcs w A2 ys) (hn : n ≤ 1048576) (hm : m ≤ 1048576) :
    Calls Tryz.prog 15 #[.slice A1 n c1, .slice A2 m c2] w fun e w' => e = .returned (.bool (bagR zs ys)) ∧ Below w.heap.size w w' := by
  by_cases hnm : n = m
  · subst hnm
    have H2 := Lib.hid h2
    have HZ := Lib.hid hz
    have HY := Lib.hid hy
    have HA2 := Lib.hid hA2
    have C := Lib.hid (specSort_any n zs hz A1 c1 hA1 w h1 hn)
    clear h1 h2 hz hy hA1 hA2
    go_enter Tryz.func15, Tryz.ntmps15
    go_wp2_with fail
    refine C.out.mono ?_
    rintro e w1 ⟨v1, rfl, o1, b1⟩
    have O1 := Lib.hid o1
    have B1 := Lib.hid b1
    clear o1 b1 C
    go_wp2_with fail
    refine (specSort_any n ys HY.out A2 c2 HA2.out w1 (H2.out.below B1.out) hn).mono ?_
    rintro e w2 ⟨v2, rfl, o2, b2⟩
    obtain ⟨A3, c3, rfl, hl3, s3⟩ := Rcs.of_own (own_below O1.out b2)
    obtain ⟨A4, c4, rfl, hl4, s4⟩ := Rcs.of_own o2
    have B2 := Lib.hid (below_chain B1.out b2)
    have S3 := Lib.hid s3
    have S4 := Lib.hid s4
    have L3 := Lib.hid hl3
    have L4 := Lib.hid hl4
    clear o2 b2 O1 B1 s3 s4 hl3 hl4
    go_wp2_with fail
    refine (rcSame_any n n (sortR zs) (sortR ys) L3.out L4.out A3 A4 c3 c4 w2 S3.out S4.out (by omega)).mono ?_
    rintro e w3 ⟨rfl, b3⟩
    have B3 := Lib.hid (below_chain B2.out b3)
    clear b3
    rw [show decide (sortR zs = sortR ys) = bagR zs ys from rfl]
    go_wp2
    go_ret
    exact ⟨rfl, B3.out⟩
  · have q : ((n : Int) == (m : Int)) = false := by simp; omega
    have HF := Lib.hid (bagR_len (a := zs) (b := ys) (by omega))
    clear h1 h2
    go_enter Tryz.func15, Tryz.ntmps15
    go_wp2
    go_ret
    exact ⟨congrArg (fun b => Ending.returned (Value.bool b)) HF.out.symm, Below.refl _ _⟩
end Go.Proofs.YtdmbkjebagnloaaGreatDoor.hexes

namespace Go.Proofs.YtdmbkjebagnloaaGreatDoor.hexes
open Go.RowKit

/-- How a draw of two lists ends. -/
def RlDraw2 (w : World) (e : Ending) (w' : World) : Prop := ∃ A n c zs A' n' c' ys, e = .returned (.tuple #[.slice A n c, .slice A' n' c']) ∧ RTab w' A n c zs ∧ RTab w' A' n' c' ys ∧ Below w.heap.size w w'
theorem wf_sort {zs : List Rc} (h : ∀ z ∈ zs, wfRc z) : ∀ z ∈ sortR zs, wfRc z := fun z hz => h z ((sortR_perm zs).mem_iff.1 hz)
theorem wf_set {zs : List Rc} {i : Nat} {z : Rc} (h : ∀ z ∈ zs, wfRc z) (hz : wfRc z) : ∀ y ∈ zs.set i z, wfRc y := fun y hy => by
  rcases List.mem_or_eq_of_mem_set hy with h' | h'
  · exact h y h'
  · rw [h']; exact hz

set_option maxRecDepth 100000 in
set_option maxHeartbeats 2000000 in
theorem drawBag_any (w : World) (A : Option Addr) (len cap : Nat) (hlen : len ≤ 2097152) (hcame : Came w A len) :
    Calls Tryz.prog 11 #[.slice A len cap] w (RlDraw2 w) := by
  have HC := Lib.hid hcame
  clear hcame
  go_enter Tryz.func11, Tryz.ntmps11
  go_wp2_with fail
  refine (new_any w A len cap hlen HC.out).mono ?_
  rintro e w1 ⟨c, rfl, hcw, hcur, hb1⟩
  have hck : ∀ k, some c = some k → w.heap.size ≤ k := fun k hk => by simp at hk; omega
  have C1 := Lib.hid hcur
  have B1 := Lib.hid hb1
  have hcl := hcur.lt
  clear hcur hb1 HC
  go_wp2_with fail
  refine (listRc_draw w1 c A len cap hlen C1.out).mono ?_
  rintro e w2 ⟨n, zs, v, hn, hl, hw, rfl, ho, hc2, g2⟩
  have C2 := Lib.hid hc2
  have O2 := Lib.hid ho
  have W2 := Lib.hid hw
  have ZL := Lib.hid hl
  have B2 := Lib.hid (B1.out.grown g2 B1.out.size hck)
  have hs2 := g2.size
  clear ho hc2 g2 hw C1 B1 hl
  go_wp2_with fail
  refine (below_any 3 (by omega) (by omega) w2 c A len cap hlen C2.out).mono ?_
  rintro e w3 ⟨x, hx, rfl, hc3, g3⟩
  have O3 := Lib.hid (own_kept_c O2.out g3 hcl)
  have C3 := Lib.hid hc3
  have B3 := Lib.hid (B2.out.grown g3 B2.out.size hck)
  have hs3 := g3.size
  clear hc3 g3 O2 C2 B2
  obtain ⟨A2, n2, c2, rfl, ht⟩ := RTab.of_own O3.out hn W2.out
  obtain rfl : n2 = n := ht.len.symm.trans ZL.out
  have T3 := Lib.hid ht
  clear ht
  by_cases x0 : x = 0
  · subst x0
    go_wp2_with fail
    refine (specSort_any n2 zs T3.out.len A2 c2 T3.out.nil w3 T3.out.rcs (by omega)).mono ?_
    rintro e w4 ⟨v4, rfl, o4, b4⟩
    obtain ⟨A4, n4, c4, rfl, ht4⟩ := RTab.of_own o4 hn (wf_sort W2.out)
    have T4 := Lib.hid ht4
    have T5 := Lib.hid (T3.out.below b4)
    have B4 := Lib.hid (below_chain B3.out b4)
    clear ht4 o4 b4
    go_wp2_with fail
    exact bodyPost_ret (v := .tuple #[.slice A2 n2 c2, .slice A4 n4 c4]) (by simp [results, Tryz.results11, go_sem]) rfl ⟨_, _, _, _, _, _, _, _, rfl, T5.out, T4.out, B4.out⟩
  · by_cases x1 : x = 1
    · subst x1
      have hba := Below.alloc (Below.refl w3.heap.size w3) (Nat.le_refl _) (.cells #[] 32)
      have SA := Lib.hid (T3.out.rcs.below hba)
      have BA := Lib.hid hba
      clear hba
      go_wp2_with (at_builtin; refine wpList_append_rc rfl (.tmp 20) (.tmp 21) (by rfl) w3.heap.size (.slice (some ⟨w3.heap.size, 0, none⟩) 0 0) 0 [] (by rfl) (World.ownsRow_lit w3 #[] 0 (Nat.le_refl _) (by decide) (by rfl)) A2 n2 c2 zs rfl T3.out.nil T3.out.len SA.out (by omega) BA.out.size ?_; intro v5 w5 own5 gr5; generalize hG : wpList _ _ _ _ _ _ = G)
      rw [Nat.zero_add, List.nil_append] at own5
      obtain ⟨A5, c5, rfl, hf5⟩ := own_form own5
      subst hG
      have b5 := BA.out.grown gr5 BA.out.size (fun k hk => Nat.le_of_eq (Option.some.inj hk))
      have O5 := Lib.hid own5
      have T5 := Lib.hid (T3.out.below b5)
      have BW := Lib.hid b5
      have B5 := Lib.hid (below_chain B3.out b5)
      have hs5 := b5.size
      clear own5 gr5 b5 SA BA
      by_cases hn1 : 1 < n2
      · have qn : decide ((n2 : Int) > 1) = true := by simp; omega
        obtain ⟨g, rfl⟩ := hf5 (by omega)
        have hgB : w3.heap.size ≤ g := own_ge O5.out g (by simp [Value.ownBlock])
        obtain ⟨e0, e1, e2, e3, e4⟩ := own_at_rc (j := 1) O5.out ZL.out (by rw [ZL.out]; exact hn1)
        have WZ := Lib.hid (W2.out (zs[1]'(by rw [ZL.out]; exact hn1)) (List.getElem_mem _))
        obtain ⟨⟨p0, ⟨p1, p2⟩, p3, p4⟩, hz⟩ : ∃ z, zs[1]'(by rw [ZL.out]; exact hn1) = z := ⟨_, rfl⟩
        rw [hz] at e0 e1 e2 e3 e4 WZ
        simp only [Nat.reduceMul, Nat.reduceAdd] at e0 e1 e2 e3 e4
        have st := own_stored_rc O5.out 0 p0 p1 p2 p3 p4
        simp only [Nat.zero_mul, Nat.zero_add] at st
        obtain ⟨u0, cu0⟩ : ∃ u, w5.cell? ⟨g, 0, none⟩ = some u := ⟨_, by rw [O5.out.cellAt 0 (by omega)]; exact List.getElem?_eq_getElem (by rw [O5.out.1]; omega)⟩
        have fr0 := O5.out.frozenAt 0
        obtain ⟨u1, cu1⟩ : ∃ u, w5.cell? ⟨g, 1, none⟩ = some u := ⟨_, by rw [O5.out.cellAt 1 (by omega)]; exact List.getElem?_eq_getElem (by rw [O5.out.1]; omega)⟩
        have fr1 := O5.out.frozenAt 1
        obtain ⟨u2, cu2⟩ : ∃ u, w5.cell? ⟨g, 2, none⟩ = some u := ⟨_, by rw [O5.out.cellAt 2 (by omega)]; exact List.getElem?_eq_getElem (by rw [O5.out.1]; omega)⟩
        have fr2 := O5.out.frozenAt 2
        obtain ⟨u3, cu3⟩ : ∃ u, w5.cell? ⟨g, 3, none⟩ = some u := ⟨_, by rw [O5.out.cellAt 3 (by omega)]; exact List.getElem?_eq_getElem (by rw [O5.out.1]; omega)⟩
        have fr3 := O5.out.frozenAt 3
        obtain ⟨u4, cu4⟩ : ∃ u, w5.cell? ⟨g, 4, none⟩ = some u := ⟨_, by rw [O5.out.cellAt 4 (by omega)]; exact List.getElem?_eq_getElem (by rw [O5.out.1]; omega)⟩
        have fr4 := O5.out.frozenAt 4
        obtain ⟨A6, n6, c6, hA6, ht6⟩ := RTab.of_own st.1 hn (wf_set W2.out WZ.out)
        simp only [Value.slice.injEq] at hA6
        obtain ⟨rfl, rfl, rfl⟩ := hA6
        have T6 := Lib.hid ht6
        have T7 := Lib.hid (show RTab (((((w5.setCell ⟨g, 0, none⟩ (.int .i64 p0)).setCell ⟨g, 1, none⟩ (.int .i64 p1)).setCell ⟨g, 2, none⟩ (.int .i64 p2)).setCell ⟨g, 3, none⟩ (.int .i64 p3)).setCell ⟨g, 4, none⟩ (.int .i64 p4)) A2 n2 c2 zs from
          ⟨T5.out.few, T5.out.len, T5.out.nil, T3.out.rcs.below (BW.out.grown st.2 BW.out.size (fun k hk => by cases hk; exact hgB)), T5.out.wf⟩)
        have B7 := Lib.hid (B5.out.grown st.2 B5.out.size (fun k hk => by cases hk; exact Nat.le_trans B3.out.size hgB))
        clear st ht6 hz hf5 O5 T5 B5
        go_wp2_with fail
        exact bodyPost_ret (v := .tuple #[.slice A2 n2 c2, .slice (some ⟨g, 0, none⟩) n2 c5]) (by simp [results, Tryz.results11, go_sem]) rfl ⟨_, _, _, _, _, _, _, _, rfl, T7.out, T6.out, B7.out⟩
      · have qn : decide ((n2 : Int) > 1) = false := by simp; omega
        obtain ⟨A6, n6, c6, hA6, ht6⟩ := RTab.of_own O5.out hn W2.out
        simp only [Value.slice.injEq] at hA6
        obtain ⟨rfl, rfl, rfl⟩ := hA6
        have T6 := Lib.hid ht6
        clear ht6 hf5
        go_wp2_with fail
        exact bodyPost_ret (v := .tuple #[.slice A2 n2 c2, .slice A5 n2 c5]) (by simp [results, Tryz.results11, go_sem]) rfl ⟨_, _, _, _, _, _, _, _, rfl, T5.out, T6.out, B5.out⟩
    · have q0 : ((x : Int) == 0) = false := by simp; omega
      have q1 : ((x : Int) == 1) = false := by simp; omega
      go_wp2_with fail
      refine (listRc_draw w3 c A len cap hlen C3.out).mono ?_
      rintro e w4 ⟨m, ys, v4, hm, hl4, hw4, rfl, o4, hc4, g4⟩
      obtain ⟨A4, n4, c4, rfl, ht4⟩ := RTab.of_own o4 hm hw4
      obtain ⟨A3, n3, c3, hA3, ht3⟩ := RTab.of_own (own_kept_c O3.out g4 hcl) hn W2.out
      simp only [Value.slice.injEq] at hA3
      obtain ⟨rfl, rfl, rfl⟩ := hA3
      have T4 := Lib.hid ht4
      have T5 := Lib.hid ht3
      have B4 := Lib.hid (B3.out.grown g4 B3.out.size hck)
      clear ht4 ht3 o4 hc4 g4
      go_wp2_with fail
      exact bodyPost_ret (v := .tuple #[.slice A2 n2 c2, .slice A4 n4 c4]) (by simp [results, Tryz.results11, go_sem]) rfl ⟨_, _, _, _, _, _, _, _, rfl, T5.out, T4.out, B4.out⟩
end Go.Proofs.YtdmbkjebagnloaaGreatDoor.hexes

