/-
  GraphOk of the program.
-/
import Derived.Test.YtbbagpnjjjohpaaJ5

namespace Go.Proofs.Ytbbagpnjjjohpaa.hexes
open Go.RowKit

/-- What A less 1 comes to with 64 bits. -/
def dec1 (a : Int) : Int := IntKind.i64.wrap (a - 1)

/-- The first i nodes are right in their graph. -/
def Upto (gs : List Nd) (d : Int → Int) (i : Nat) : Prop := ∀ j (hj : j < gs.length), j < i → nodeB gs d j gs[j] = true
theorem upto_zero (gs : List Nd) (d : Int → Int) : Upto gs d 0 := fun _ _ h => absurd h (Nat.not_lt_zero _)
theorem upto_succ {gs : List Nd} {d : Int → Int} {i : Nat} {x : Nd} (hi : i < gs.length) (hx : gs[i] = x) (hb : nodeB gs d i x = true) (h : Upto gs d i) : Upto gs d (i + 1) := by
  intro j hj hji
  by_cases e : j = i
  · subst e; rw [hx]; exact hb
  · exact h j hj (by omega)
theorem upto_end {gs : List Nd} {d : Int → Int} {i : Nat} (hi : gs.length ≤ i) (h : Upto gs d i) : allB gs d = true := allB_of fun j hj => h j hj (by omega)

theorem okGr_size {gs : List Nd} {d : Int → Int} {wk cp : Int} (h : ¬(1 ≤ gs.length ∧ gs.length ≤ 8)) : okGr gs d wk cp = false := by
  unfold okGr
  rw [decide_eq_false h]
  rfl
theorem okGr_sizes {gs : List Nd} {d : Int → Int} {wk cp : Int} (h : sizesB wk cp = false) : okGr gs d wk cp = false := by
  unfold okGr
  unfold sizesB at h
  rw [Bool.and_assoc (decide (1 ≤ gs.length ∧ gs.length ≤ 8)), h]
  simp
theorem okGr_bad {gs : List Nd} {d : Int → Int} {wk cp : Int} {i : Nat} {x : Nd} (hi : i < gs.length) (hx : gs[i] = x) (h : nodeB gs d i x = false) : okGr gs d wk cp = false := by
  unfold okGr
  rw [allB_bad hi hx h]
  simp
theorem okGr_yes {gs : List Nd} {d : Int → Int} {wk cp : Int} (h1 : 1 ≤ gs.length ∧ gs.length ≤ 8) (h2 : sizesB wk cp = true) (h3 : allB gs d = true) : okGr gs d wk cp = true := by
  unfold okGr
  unfold sizesB at h2
  rw [decide_eq_true h1, h3, Bool.and_assoc (true), h2]
  rfl
theorem okN_outs {x : Nd} {d : Int} (h : okN x d = true) : ∀ z ∈ x.2.2.2, 0 ≤ z ∧ z ≤ 7 := by
  unfold okN okNd at h
  simp only [Bool.and_eq_true] at h
  have := h.2
  unfold outsB at this
  exact (of_decide_eq_true this).2.2.1
theorem okN_len {x : Nd} {d : Int} (h : okN x d = true) : x.2.2.2.length ≤ 2 := by
  unfold okN okNd at h
  simp only [Bool.and_eq_true] at h
  have := h.2
  unfold outsB at this
  exact (of_decide_eq_true this).1

set_option maxRecDepth 100000 in
set_option maxHeartbeats 4000000 in
theorem implGrOk_any (gs : List Nd) (wk cp : Int) (A : Option Addr) (n c : Nat) (hl : gs.length = n) (hs : ∀ x ∈ gs, x.2.2.2.length ≤ 1048576) (hn : n ≤ 1048576) {r : Bool} (hr : okGr gs dec1 wk cp = r) (w : World) (h : Nds w A gs) :
    Calls Try.prog 60 #[.agg #[.slice A n c, .int .i64 wk, .int .i64 cp]] w fun e w' => e = .returned (.bool r) ∧ Below w.heap.size w w' := by
  obtain ⟨W, hW⟩ : ∃ W, w.alloc (.cells #[.slice A n c, .int .i64 wk, .int .i64 cp] 26) = W := ⟨_, rfl⟩
  have BW := Lib.hid (show Below w.heap.size w W by rw [← hW]; exact (Below.refl w.heap.size w).alloc (Nat.le_refl _) _)
  have KW := Lib.hid (show Blk W w.heap.size 26 #[.slice A n c, .int .i64 wk, .int .i64 cp] by rw [← hW]; exact Blk.new _ _ _)
  have HR := Lib.hid hr
  have HL := Lib.hid hl
  have HS := Lib.hid hs
  have H1 := Lib.hid (h.below BW.out)
  have x0 : W.cell? ⟨w.heap.size, 0, none⟩ = some (.slice A n c) := by rw [KW.out.cell]; rfl
  have x1 : W.cell? ⟨w.heap.size, 1, none⟩ = some (.int .i64 wk) := by rw [KW.out.cell]; rfl
  have x2 : W.cell? ⟨w.heap.size, 2, none⟩ = some (.int .i64 cp) := by rw [KW.out.cell]; rfl
  clear hr hs h
  by_cases g1 : 1 ≤ n ∧ n ≤ 8
  · have q1 : decide ((n : Int) < 1) = false := by simp; omega
    have q2 : decide ((n : Int) > 8) = false := by simp; omega
    have G := Lib.hid (show 1 ≤ gs.length ∧ gs.length ≤ 8 by rw [hl]; exact g1)
    clear g1 hl
    cases hz : sizesB wk cp with
    | false =>
      have E := Lib.hid (fun W => sizesOk_is hz A n c W)
      have HE := Lib.hid (show r = false by rw [← HR.out]; exact okGr_sizes hz)
      clear hz
      go_enter Try.func60, Try.ntmps60
      go_wp2_with fail
      refine (E.out _).mono ?_
      rintro e w1 ⟨rfl, hb⟩
      have B1 := Lib.hid (below_chain BW.out hb)
      clear hb x0 x1 x2 hW
      go_wp2
      go_ret
      exact ⟨congrArg (fun b => Ending.returned (Value.bool b)) HE.out.symm, B1.out⟩
    | true =>
      have E := Lib.hid (fun W => sizesOk_is hz A n c W)
      have Z := Lib.hid hz
      clear hz
      go_enter Try.func60, Try.ntmps60
      go_wp2_with fail
      refine (E.out _).mono ?_
      rintro e w1 ⟨rfl, hb⟩
      have K1 := Lib.hid (KW.out.below hb)
      have N1 := Lib.hid (H1.out.below hb)
      have B1 := Lib.hid (below_chain BW.out hb)
      clear hb x0 x1 x2 hW
      have y0 : w1.cell? ⟨w.heap.size, 0, none⟩ = some (.slice A n c) := by rw [K1.out.cell]; rfl
      go_wp2
      clear y0
      go_loopw [24] (fun i wr => ∃ j : Nat, j ≤ n ∧ i = .int .i64 (j : Int) ∧ Upto gs dec1 j ∧ Below w1.heap.size w1 wr) (fun i _ => n - (intOf i).toNat)
      case atStart => exact ⟨0, Nat.zero_le _, rfl, upto_zero _ _, Below.refl _ _⟩
      case round =>
        obtain ⟨j, hj, rfl, ht, hb⟩ := hrel
        have HT := Lib.hid ht
        have HB := Lib.hid hb
        have KR := Lib.hid (K1.out.below hb)
        have NR := Lib.hid (N1.out.below hb)
        clear ht hb q1 q2
        by_cases hlt : j < n
        · have lj : j < gs.length := by rw [HL.out]; exact hlt
          obtain ⟨b, off, k, a, bb, zs, A1, n1, c1, rfl, hx, hz, hc1, hin, e0, e1, e2, e3⟩ := NR.out.at lj
          have X := Lib.hid hx
          have HO : n1 ≤ 1048576 := by have := HS.out _ (List.getElem_mem lj); rw [hx] at this; rw [← hz]; exact this
          obtain ⟨V, hV⟩ : ∃ V, wr.alloc (.cells #[.int .i64 k, .int .i64 a, .int .i64 bb, .slice A1 n1 c1] 46) = V := ⟨_, rfl⟩
          have BV := Lib.hid (show Below wr.heap.size wr V by rw [← hV]; exact (Below.refl _ _).alloc (Nat.le_refl _) _)
          have KV := Lib.hid (show Blk V wr.heap.size 46 #[.int .i64 k, .int .i64 a, .int .i64 bb, .slice A1 n1 c1] by rw [← hV]; exact Blk.new _ _ _)
          have v0 : V.cell? ⟨wr.heap.size, 0, none⟩ = some (.int .i64 k) := by rw [KV.out.cell]; rfl
          have v1 : V.cell? ⟨wr.heap.size, 1, none⟩ = some (.int .i64 a) := by rw [KV.out.cell]; rfl
          have v2 : V.cell? ⟨wr.heap.size, 2, none⟩ = some (.int .i64 bb) := by rw [KV.out.cell]; rfl
          have v3 : V.cell? ⟨wr.heap.size, 3, none⟩ = some (.slice A1 n1 c1) := by rw [KV.out.cell]; rfl
          have i0 : (0 : Int) ≤ (j : Int) := by omega
          have i1 : (j : Int) < (n : Int) := by omega
          obtain ⟨o, ho⟩ : ∃ o, okN (k, a, bb, zs) (dec1 a) = o := ⟨_, rfl⟩
          have EN := Lib.hid (show Calls Try.prog 89 #[.agg #[.int .i64 k, .int .i64 a, .int .i64 bb, .slice A1 n1 c1]] V fun e w' => e = .returned (.bool o) ∧ Below V.heap.size V w' by
            have q := implNdOk_any k a bb (dec1 a) A1 n1 c1 zs hz hc1 rfl V (hin.below BV.out) HO
            rw [show okNd k a bb (dec1 a) zs = o from ho] at q
            exact q)
          have O := Lib.hid ho
          have B2 := Lib.hid (below_chain HB.out BV.out)
          clear hx hz hc1 hin HO ho
          cases o with
          | false =>
            have HE := Lib.hid (show r = false by
              rw [← HR.out]
              exact okGr_bad lj X.out (by unfold nodeB; rw [show okN (k, a, bb, zs) (dec1 (k, a, bb, zs).2.1) = false from O.out]; rfl))
            clear X lj
            go_wp2_with fail
            refine EN.out.mono ?_
            rintro e w2 ⟨rfl, hb⟩
            have B3 := Lib.hid (below_chain B1.out (below_chain B2.out hb))
            clear hb e0 e1 e2 e3 v0 v1 v2 v3 hV
            go_wp2
            go_ret
            exact ⟨congrArg (fun b => Ending.returned (Value.bool b)) HE.out.symm, B3.out⟩
          | true =>
            by_cases hin : ((k == 1) == (j == 0)) = true
            · have hd : ((k == 1) = true ∧ ((j : Int) == 0) = true) ∨ ((k == 1) = false ∧ ((j : Int) == 0) = false) := by
                have e : ((j : Int) == 0) = (j == 0) := by rw [Bool.eq_iff_iff]; simp
                rw [e]
                revert hin
                cases (k == 1) <;> cases (j == 0) <;> simp
              obtain ⟨s, hs⟩ : ∃ s, zs.all (edgeB gs j k) = s := ⟨_, rfl⟩
              have EE := Lib.hid (fun W (hw : Nds W (some ⟨b, off, none⟩) gs) => edgesOk_is (gs := gs) (i := j) (r := s) lj (by rw [X.out]; exact fun z hz => (okN_outs O.out z hz).1) (by rw [X.out]; exact Nat.le_trans (okN_len O.out) (by omega)) (by rw [X.out]; exact hs) c HL.out.symm hn hw)
              have NB := Lib.hid (show nodeB gs dec1 j (k, a, bb, zs) = s by
                unfold nodeB
                rw [show okN (k, a, bb, zs) (dec1 (k, a, bb, zs).2.1) = true from O.out, show ((((k, a, bb, zs) : Nd).1 == 1) == (j == 0)) = true from hin, ← hs]
                rfl)
              clear hs
              cases s with
              | false =>
                have HE := Lib.hid (show r = false by rw [← HR.out]; exact okGr_bad lj X.out NB.out)
                clear X lj hin
                rcases hd with ⟨d1, d0⟩ | ⟨d1, d0⟩
                all_goals
                  go_wp2_with fail
                  refine EN.out.mono ?_
                  rintro e w2 ⟨rfl, hb⟩
                  have K3 := Lib.hid ((KR.out.below BV.out).below hb)
                  have N3 := Lib.hid ((NR.out.below BV.out).below hb)
                  have B3 := Lib.hid (below_chain B1.out (below_chain B2.out hb))
                  clear hb e0 e1 e2 e3 v0 v1 v2 v3 hV
                  have y0 : w2.cell? ⟨w.heap.size, 0, none⟩ = some (.slice (some ⟨b, off, none⟩) n c) := by rw [K3.out.cell]; rfl
                  go_wp2_with fail
                  refine (EE.out _ N3.out).mono ?_
                  rintro e w3 ⟨rfl, rfl⟩
                  go_wp2
                  go_ret
                  exact ⟨congrArg (fun b => Ending.returned (Value.bool b)) HE.out.symm, B3.out⟩
              | true =>
                have HT2 := Lib.hid (upto_succ lj X.out NB.out HT.out)
                clear X lj hin
                rcases hd with ⟨d1, d0⟩ | ⟨d1, d0⟩
                all_goals
                  go_wp2_with fail
                  refine EN.out.mono ?_
                  rintro e w2 ⟨rfl, hb⟩
                  have K3 := Lib.hid ((KR.out.below BV.out).below hb)
                  have N3 := Lib.hid ((NR.out.below BV.out).below hb)
                  have B3 := Lib.hid (below_chain B2.out hb)
                  clear hb e0 e1 e2 e3 v0 v1 v2 v3 hV
                  have y0 : w2.cell? ⟨w.heap.size, 0, none⟩ = some (.slice (some ⟨b, off, none⟩) n c) := by rw [K3.out.cell]; rfl
                  go_wp2_with fail
                  refine (EE.out _ N3.out).mono ?_
                  rintro e w3 ⟨rfl, rfl⟩
                  go_wp2
                  go_roundw
                  case rel => exact ⟨j + 1, by omega, by go_num, HT2.out, B3.out⟩
                  case measure => simp [intOf]; omega
            · have hin' : ((k == 1) == (j == 0)) = false := by simpa using hin
              have hd : ((k == 1) = true ∧ ((j : Int) == 0) = false) ∨ ((k == 1) = false ∧ ((j : Int) == 0) = true) := by
                have e : ((j : Int) == 0) = (j == 0) := by rw [Bool.eq_iff_iff]; simp
                rw [e]
                revert hin'
                cases (k == 1) <;> cases (j == 0) <;> simp
              have HE := Lib.hid (show r = false by
                rw [← HR.out]
                exact okGr_bad lj X.out (by unfold nodeB; rw [show ((((k, a, bb, zs) : Nd).1 == 1) == (j == 0)) = false from hin']; simp))
              clear X lj hin hin'
              rcases hd with ⟨d1, d0⟩ | ⟨d1, d0⟩
              all_goals
                go_wp2_with fail
                refine EN.out.mono ?_
                rintro e w2 ⟨rfl, hb⟩
                have B3 := Lib.hid (below_chain B1.out (below_chain B2.out hb))
                clear hb e0 e1 e2 e3 v0 v1 v2 v3 hV
                go_wp2
                go_ret
                exact ⟨congrArg (fun b => Ending.returned (Value.bool b)) HE.out.symm, B3.out⟩
        · have HE := Lib.hid (show r = true by
            rw [← HR.out]
            exact okGr_yes G.out Z.out (upto_end (by rw [HL.out]; omega) HT.out))
          clear HT
          go_wp2
          go_ret
          exact ⟨congrArg (fun b => Ending.returned (Value.bool b)) HE.out.symm, below_chain B1.out HB.out⟩
  · have HE := Lib.hid (show r = false by rw [← HR.out]; exact okGr_size (by rw [hl]; exact g1))
    clear hl
    by_cases g2 : n < 1
    · have q1 : decide ((n : Int) < 1) = true := by simp; omega
      clear g1 g2
      go_enter Try.func60, Try.ntmps60
      go_wp2
      go_ret
      exact ⟨congrArg (fun b => Ending.returned (Value.bool b)) HE.out.symm, BW.out⟩
    · have q1 : decide ((n : Int) < 1) = false := by simp; omega
      have q2 : decide ((n : Int) > 8) = true := by simp; omega
      clear g1 g2
      go_enter Try.func60, Try.ntmps60
      go_wp2
      go_ret
      exact ⟨congrArg (fun b => Ending.returned (Value.bool b)) HE.out.symm, BW.out⟩

end Go.Proofs.Ytbbagpnjjjohpaa.hexes

