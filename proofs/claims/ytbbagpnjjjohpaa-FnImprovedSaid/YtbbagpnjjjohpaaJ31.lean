/-
  The program's improvement: its contract.
-/
import Derived.Test.YtbbagpnjjjohpaaJ24
import Derived.Test.YtbbagpnjjjohpaaJ29
import Derived.Test.YtbbagpnjjjohpaaJ30

namespace Go.Proofs.Ytbbagpnjjjohpaa.hexes
open Go.RowKit

/-- How improvement ends. -/
def ImvEnd (w : World) (q : List Ce × List Ce) (on : Bool) (e : Ending) (w' : World) : Prop :=
  ∃ (A3 : Option Addr) (c3 m3 : Nat) (A4 : Option Addr) (c4 m4 : Nat), q.1.length = m3 ∧ q.2.length = m4 ∧ e = .returned (.tuple #[.slice A3 m3 c3, .slice A4 m4 c4, .bool on]) ∧ Wce w' w.heap.size w'.heap.size A3 m3 c3 q.1 ∧ Wce w' w.heap.size w'.heap.size A4 m4 c4 q.2 ∧ ApartC A3 A4 ∧ Below w.heap.size w w'
/-- What improvement keeps around its first statement. -/
structure ImvSt (w wr : World) (gs : List Nd) (wk cp : Int) (A : Option Addr) (n c : Nat) (x0 x1 x2 x3 : Int) : Prop where
  g : Blk wr w.heap.size 26 #[.slice A n c, .int .i64 wk, .int .i64 cp]
  x : Blk wr (w.heap.size + 1) 38 #[.int .i64 x0, .int .i64 x1, .int .i64 x2, .int .i64 x3]
  bel : Below w.heap.size w wr
  n0 : Nds w A gs
structure ImvHeld (g : Nat) (A : Option Addr) (n c : Nat) (wk cp x0 x1 x2 x3 : Int) (w : World) : Prop where
  g0 : w.cell? ⟨g, 0, none⟩ = some (.slice A n c)
  g1 : w.cell? ⟨g, 1, none⟩ = some (.int .i64 wk)
  g2 : w.cell? ⟨g, 2, none⟩ = some (.int .i64 cp)
  c0 : w.cell? ⟨g + 1, 0, none⟩ = some (.int .i64 x0)
  c1 : w.cell? ⟨g + 1, 1, none⟩ = some (.int .i64 x1)
  c2 : w.cell? ⟨g + 1, 2, none⟩ = some (.int .i64 x2)
  c3 : w.cell? ⟨g + 1, 3, none⟩ = some (.int .i64 x3)
section
variable {w wr w' : World} {gs : List Nd} {wk cp : Int} {A : Option Addr} {n c : Nat} {x0 x1 x2 x3 : Int}
theorem ImvSt.fresh (h : ImvSt w wr gs wk cp A n c x0 x1 x2 x3) (hb : Below wr.heap.size wr w') : ImvSt w w' gs wk cp A n c x0 x1 x2 x3 := ⟨h.g.below hb, h.x.below hb, below_chain h.bel hb, h.n0⟩
theorem ImvSt.nds (h : ImvSt w wr gs wk cp A n c x0 x1 x2 x3) : Nds wr A gs := h.n0.below h.bel
theorem ImvSt.put {g : Nat} {cs : Array Value} (h : ImvSt w wr gs wk cp A n c x0 x1 x2 x3) (_k : Blk wr g 46 cs) (gr : wr.grownBy w' (some g)) (hg : w.heap.size + 1 < g) : ImvSt w w' gs wk cp A n c x0 x1 x2 x3 :=
  ⟨h.g.grown gr (by simp; omega), h.x.grown gr (by simp; omega), h.bel.grown gr h.bel.size (fun q hq => by have e : g = q := Option.some.inj hq; omega), h.n0⟩
theorem ImvSt.held (h : ImvSt w wr gs wk cp A n c x0 x1 x2 x3) : ImvHeld w.heap.size A n c wk cp x0 x1 x2 x3 wr :=
  ⟨by rw [h.g.cell]; rfl, by rw [h.g.cell]; rfl, by rw [h.g.cell]; rfl, by rw [h.x.cell]; rfl, by rw [h.x.cell]; rfl, by rw [h.x.cell]; rfl, by rw [h.x.cell]; rfl⟩
end
theorem impG_off2 {gs : List Nd} {wk cp : Int} {best us : List Ce} {c : Ce} (h : recL best c = (us, false)) : impG gs wk cp best c = (us, []) := by
  have h1 : recC 5 best c = (us, false) := by simpa [recC] using h
  have h2 := recL_no (zs := best) (x := c) (by rw [h])
  rw [h] at h2
  have h3 : us = best := h2
  rw [impG_off h1, h3]

theorem ints_own {w : World} {B e n c : Nat} {A : Option Addr} {zs : List Int} (h : w.ownsRow B e 1 (.slice A n c) n (isCells zs)) : Ints w A zs := by
  obtain ⟨A', c', he, _, hs⟩ := Ints.of_own h
  simp only [Value.slice.injEq, true_and] at he
  obtain ⟨rfl, rfl⟩ := he
  exact hs
theorem rowUp {w : World} {lo hi hi' e size n c : Nat} {A : Option Addr} {xs : List Value} (h : Row w lo hi e size A n c xs) (hh : hi ≤ hi') : Row w lo hi' e size A n c xs := ⟨h.own, fun g hg => Nat.lt_of_lt_of_le (h.lt g hg) hh⟩
theorem imv_end {w w' : World} {us vs : List Ce} {A3 A4 : Option Addr} {m3 c3 m4 c4 lo3 lo4 hi3 : Nat} {on : Bool} (h3 : us.length = m3) (h4 : vs.length = m4) (r3 : Row w' lo3 hi3 38 4 A3 m3 c3 (ceCells us)) (r4 : Row w' lo4 w'.heap.size 38 4 A4 m4 c4 (ceCells vs)) (hl : w.heap.size ≤ lo3) (hlo : lo3 ≤ hi3) (hd : hi3 ≤ lo4) (hh : hi3 ≤ w'.heap.size) (hb : Below w.heap.size w w') :
    ImvEnd w (us, vs) on (.returned (.tuple #[.slice A3 m3 c3, .slice A4 m4 c4, .bool on])) w' := by
  refine ⟨A3, c3, m3, A4, c4, m4, h3, h4, rfl, (Wce.of_row r3).bounds hl hh, (Wce.of_row r4).bounds (Nat.le_trans hl (Nat.le_trans hlo hd)) (Nat.le_refl _), fun g o o' hA hB => ?_, hb⟩
  have h5 : (Value.slice A3 m3 c3).ownBlock = some g := by rw [hA]; rfl
  have h6 : (Value.slice A4 m4 c4).ownBlock = some g := by rw [hB]; rfl
  have h7 := r3.lt g h5
  have h8 := own_ge r4.own g h6
  omega

set_option maxRecDepth 1000000 in
set_option maxHeartbeats 8000000 in
theorem implImv_any (gs : List Nd) (wk cp : Int) (A : Option Addr) (n c : Nat) (hl : gs.length = n) (ho : ∀ x ∈ gs, x.2.2.2.length ≤ 1048576) (hn : n ≤ 1048576) (ces : List Ce) (A2 : Option Addr) (n2 c2 : Nat) (hl2 : ces.length = n2) (hA2 : A2 = none → c2 = 0) (hc2 : n2 ≤ c2) (hn2 : n2 ≤ 2000000) (x0 x1 x2 x3 : Int) (w : World) (h : Nds w A gs) (h2 : Ces w A2 ces) :
    Calls Try.prog 48 #[.agg #[.slice A n c, .int .i64 wk, .int .i64 cp], .slice A2 n2 c2, .agg #[.int .i64 x0, .int .i64 x1, .int .i64 x2, .int .i64 x3]] w (ImvEnd w (impG gs wk cp ces (x0, x1, x2, x3)) (impB gs wk cp (x0, x1, x2, x3) && (recL ces (x0, x1, x2, x3)).2)) := by
  obtain ⟨gk, hb0⟩ : ∃ q, impB gs wk cp (x0, x1, x2, x3) = q := ⟨_, rfl⟩
  have hgk : (hasB gs x0 && okGr gs dec1 wk cp && okRc (x0, (x1, 0), x2, x3)) = gk := by rw [impB_rc, hb0]
  obtain ⟨⟨k, a, b, zs⟩, hx⟩ : ∃ x, (if gk = true then nodeAt gs x0 else (0, 0, 0, [])) = x := ⟨_, rfl⟩
  obtain ⟨m, hm⟩ : ∃ m, zs.length = m := ⟨_, rfl⟩
  obtain ⟨⟨us, out⟩, hq⟩ : ∃ q, impG gs wk cp ces (x0, x1, x2, x3) = q := ⟨_, rfl⟩
  obtain ⟨on, hon⟩ : ∃ q, (impB gs wk cp (x0, x1, x2, x3) && (recL ces (x0, x1, x2, x3)).2) = q := ⟨_, rfl⟩
  have hmn : m ≤ 1048576 := by
    have h := nodeAt_few ho x0
    cases gk with
    | false => rw [if_neg (by simp)] at hx; simp only [Prod.mk.injEq] at hx; rw [← hm, ← hx.2.2.2]; simp
    | true => rw [if_pos rfl] at hx; rw [hx] at h; rw [← hm]; exact h
  rw [hq, hon]
  have HX := Lib.hid hx
  have HM := Lib.hid hm
  have HQ := Lib.hid hq
  have HON := Lib.hid hon
  have HB0 := Lib.hid hb0
  have HGK := Lib.hid hgk
  have HL := Lib.hid hl
  have HO := Lib.hid ho
  have H2L := Lib.hid hl2
  have HA2 := Lib.hid hA2
  have S0 := Lib.hid h
  have H2 := Lib.hid h2
  clear hx hm hq hon hb0 hgk hl ho hl2 hA2 h h2
  obtain ⟨V9, hV⟩ : ∃ z, ((w.alloc (.cells #[.slice A n c, .int .i64 wk, .int .i64 cp] 26)).alloc (.cells #[.int .i64 x0, .int .i64 x1, .int .i64 x2, .int .i64 x3] 38)).drew = z := ⟨_, rfl⟩
  have SV := Lib.hid (show ImvSt w V9 gs wk cp A n c x0 x1 x2 x3 by
    rw [← hV]
    exact ⟨((Below.heap_alloc _ _ _ (by simp)).trans (Blk.new _ _ _)), ((show w.heap.size + 1 = ((w.alloc (.cells #[.slice A n c, .int .i64 wk, .int .i64 cp] 26)).heap.size) by simp) ▸ Blk.new _ _ _), (((Below.refl _ _).alloc (Nat.le_refl _) _).alloc (by simp) _).drew, S0.out⟩)
  have sv := SV.out.bel.size
  have sx : w.heap.size + 1 < V9.heap.size := SV.out.x.lt
  go_enter Try.func48, Try.ntmps48
  go_wp2_with fail
  refine wp_region_held_drew (S := ImvHeld w.heap.size A n c wk cp x0 x1 x2 x3) (by kernel_rfl) ?_ (fun hHeld => ?_)
  · rw [hV]; exact SV.out.held
  change wpAnyH _ _ opsV1 _ _ 10 (#[false, false, false, false, false, false, false, false, false, false] : Array Bool) _ _
  rw [hV] at hHeld ⊢
  clear hV
  refine regY tV1_e_0 (.agg #[.slice A n c, .int .i64 wk, .int .i64 cp]) (fun W hSw => by unfold qV1_0; obtain ⟨g0, g1, g2, c0, c1, c2, c3⟩ := hSw; go_simp) hHeld ?_
  try simp only [pt, List.set]
  refine regY tV1_0_1 (.agg #[.int .i64 x0, .int .i64 x1, .int .i64 x2, .int .i64 x3]) (fun W hSw => by unfold qV1_1; obtain ⟨g0, g1, g2, c0, c1, c2, c3⟩ := hSw; go_simp) hHeld ?_
  try simp only [pt, List.set]
  refine cV1_01_27 (fun K hK => ?_) (fun K hK => ?_)
  · rw [if_pos (by rfl)]
    unfold qV1_2
    go_simp
    refine (recordOf_any x0 x1 x2 x3 V9).mono ?_
    rintro e w3 ⟨rfl, bq⟩
    have T3 := Lib.hid (SV.out.fresh bq)
    have z3 := bq.size
    clear bq
    refine Shut.out hK _ _ ?_ (fun hHeld => ?_)
    · exact T3.out.held
    clear hK K
    try simp only [pt, List.set]
    refine cV1_012_37 (fun K hK => ?_) (fun K hK => ?_)
    · rw [if_pos (by rfl)]
      unfold qV1_3
      go_simp
      refine (nodeFor_one gs wk cp A n c HL.out HO.out hn x0 x1 0 x2 x3 HGK.out HX.out HM.out w3 T3.out.nds).mono ?_
      rintro e w5 ⟨An, cn, rfl, rZ, bq⟩
      have Z5 := Lib.hid (own_base rZ (show w.heap.size ≤ w3.heap.size from T3.out.bel.size))
      have T5 := Lib.hid (T3.out.fresh bq)
      have z5 := bq.size
      clear bq rZ
      refine Shut.out hK _ _ ?_ (fun hHeld => ?_)
      · exact T5.out.held
      clear hK K
      try simp only [pt, List.set]
      refine regY tV1_0123_4 (.tuple #[.agg #[.int .i64 k, .int .i64 a, .int .i64 b, .slice An m cn], .bool gk]) (fun W hSw => by unfold qV1_4; go_simp) hHeld ?_
      try simp only [pt, List.set]
      refine regY tV1_01234_5 (.agg #[.int .i64 k, .int .i64 a, .int .i64 b, .slice An m cn]) (fun W hSw => by unfold qV1_5; go_simp) hHeld ?_
      try simp only [pt, List.set]
      refine regY tV1_012345_6 (.bool gk) (fun W hSw => by unfold qV1_6; go_simp) hHeld ?_
      try simp only [pt, List.set]
      refine cV1_0123456_7 (fun K hK => ?_)
      rw [if_pos (by rfl)]
      unfold qV1_7
      go_simp
      obtain ⟨nb, hnb⟩ : ∃ g, g = w5.heap.size := ⟨_, rfl⟩
      rw [← hnb]
      generalize hU : World.alloc _ _ = w6
      have bU : Below w5.heap.size w5 w6 := by rw [← hU]; exact (Below.refl _ _).alloc (Nat.le_refl _) _
      have K6 := Lib.hid (show Blk w6 nb 46 #[.int .i64 0, .int .i64 0, .int .i64 0, .slice none 0 0] by rw [← hU, hnb]; exact Blk.new _ _ _)
      have T6 := Lib.hid (T5.out.fresh bU)
      have n6 : w5.heap.size ≤ nb := by omega
      have Z6 := Lib.hid (own_below Z5.out bU)
      clear hU bU hnb
      refine Shut.out hK _ _ ?_ (fun hHeld => ?_)
      · exact T6.out.held
      clear hK K
      try simp only [pt, List.set]
      refine cV1_01234567_8 (fun K hK => ?_)
      rw [if_pos (by rfl)]
      unfold qV1_8
      have l0 : w6.cell? ⟨nb, 0, none⟩ = some (.int .i64 0) := by rw [K6.out.cell]; rfl
      have l1 : w6.cell? ⟨nb, 1, none⟩ = some (.int .i64 0) := by rw [K6.out.cell]; rfl
      have l2 : w6.cell? ⟨nb, 2, none⟩ = some (.int .i64 0) := by rw [K6.out.cell]; rfl
      have l3 : w6.cell? ⟨nb, 3, none⟩ = some (.slice none 0 0) := by rw [K6.out.cell]; rfl
      have lf0 := K6.out.frozen 0
      have lf1 := K6.out.frozen 1
      have lf2 := K6.out.frozen 2
      have lf3 := K6.out.frozen 3
      go_simp
      clear l0 lf0 l1 lf1 l2 lf2 l3 lf3
      generalize hS : (((World.setCell w6 _ _).setCell _ _).setCell _ _).setCell _ _ = w7
      have gS : w6.grownBy w7 (some nb) := by rw [← hS]; exact grown_trans (grown_trans (grown_trans (grown_set _ _ _) (grown_set _ _ _)) (grown_set _ _ _)) (grown_set _ _ _)
      have K7 := Lib.hid (show Blk w7 nb 46 #[.int .i64 k, .int .i64 a, .int .i64 b, .slice An m cn] by rw [← hS]; exact (((K6.out.put 0 _).put 1 _).put 2 _).put 3 _)
      have T7 := Lib.hid (T6.out.put K6.out gS (by omega))
      have Z7 := Lib.hid (Z6.out.kept gS (.inr (own_type Z6.out K6.out (by decide))))
      clear hS gS
      refine Shut.out hK _ _ ?_ (fun hHeld => ?_)
      · exact T7.out.held
      clear hK K
      try simp only [pn]
      refine regY tV1_012345678_9 (.bool gk) (fun W hSw => by unfold qV1_9; go_simp) hHeld ?_
      try simp only [pt, List.set]
      refine wpAnyH_done (by kernel_rfl) ?_ _
      clear hHeld
      have G7 := T7.out
      have hw7 : w.heap.size ≤ w7.heap.size := T7.out.bel.size
      have NB := Lib.hid (show nb < w7.heap.size from K7.out.lt)
      cases gk with
      | false =>
        obtain ⟨rfl, rfl⟩ : us = ces ∧ out = [] := by
          have h := HQ.out
          rw [impG_no HB0.out] at h
          simp only [Prod.mk.injEq] at h
          exact ⟨h.1.symm, h.2.symm⟩
        obtain rfl : on = false := by rw [← HON.out, HB0.out]; rfl
        clear G7
        go_wp2_with fail
        refine (cloneCe_any n2 us H2L.out A2 c2 HA2.out _ (H2.out.below T7.out.bel) (by omega)).mono ?_
        rintro e w8 ⟨v, rfl, o8, b8⟩
        obtain ⟨As, cs, rfl, rS⟩ := row_of o8
        have RS := Lib.hid rS
        have B8 := Lib.hid (below_chain T7.out.bel b8)
        have s8 := b8.size
        clear o8 rS b8
        go_wp2
        exact bodyPost_ret (v := .tuple #[.slice As n2 cs, .slice (some ⟨w8.heap.size, 0, none⟩) 0 0, .bool false]) (by simp [results, Try.results48, go_sem]) rfl (imv_end H2L.out rfl (RS.out.below ((Below.refl _ _).alloc (Nat.le_refl _) _)) (rowUp (row_lit (size := 4) (Blk.new w8 38 #[])) (by simp)) (by omega) (by omega) (Nat.le_refl _) (by simp) (B8.out.alloc B8.out.size _))
      | true =>
        have y0 : w7.cell? ⟨w.heap.size + 1, 0, none⟩ = some (.int .i64 x0) := by rw [G7.x.cell]; rfl
        have y1 : w7.cell? ⟨w.heap.size + 1, 1, none⟩ = some (.int .i64 x1) := by rw [G7.x.cell]; rfl
        have y2 : w7.cell? ⟨w.heap.size + 1, 2, none⟩ = some (.int .i64 x2) := by rw [G7.x.cell]; rfl
        have y3 : w7.cell? ⟨w.heap.size + 1, 3, none⟩ = some (.int .i64 x3) := by rw [G7.x.cell]; rfl
        clear G7
        go_wp2_with fail
        clear y0 y1 y2 y3
        obtain ⟨vs, fl, hrl⟩ : ∃ v f, recL ces (x0, x1, x2, x3) = (v, f) := ⟨_, _, rfl⟩
        refine (recLeast_any n2 ces H2L.out A2 c2 HA2.out hc2 x0 x1 x2 x3 _ (H2.out.below T7.out.bel) hn2).mono ?_
        rintro e w8 ⟨v, rfl, o8, b8⟩
        rw [hrl] at o8 ⊢
        obtain ⟨m3, hm3⟩ : ∃ m, vs.length = m := ⟨_, rfl⟩
        rw [show (vs, fl).1 = vs from rfl, hm3] at o8
        obtain ⟨As, cs, rfl, rS⟩ := row_of o8
        have RS := Lib.hid rS
        have B8 := Lib.hid (below_chain T7.out.bel b8)
        have s8 := b8.size
        have K8 := Lib.hid (K7.out.below b8)
        have T8 := Lib.hid (T7.out.fresh b8)
        have Z8 := Lib.hid (own_below Z7.out b8)
        have HRL := Lib.hid hrl
        have HM3 := Lib.hid hm3
        clear o8 rS b8 hrl hm3 T7 K7 Z7
        cases fl with
        | false =>
          obtain ⟨rfl, rfl⟩ : us = vs ∧ out = [] := by
            have h := HQ.out
            rw [impG_off2 HRL.out] at h
            simp only [Prod.mk.injEq] at h
            exact ⟨h.1.symm, h.2.symm⟩
          obtain rfl : on = false := by rw [← HON.out, HRL.out]; simp
          go_wp2
          exact bodyPost_ret (v := .tuple #[.slice As m3 cs, .slice (some ⟨w8.heap.size, 0, none⟩) 0 0, .bool false]) (by simp [results, Try.results48, go_sem]) rfl (imv_end HM3.out rfl (RS.out.below ((Below.refl _ _).alloc (Nat.le_refl _) _)) (rowUp (row_lit (size := 4) (Blk.new w8 38 #[])) (by simp)) (by omega) (by omega) (Nat.le_refl _) (by simp) (B8.out.alloc B8.out.size _))
        | true =>
          obtain ⟨q2, hq2⟩ : ∃ v, okC k a b (dec1 a) x2 x3 zs = v := ⟨_, rfl⟩
          obtain ⟨ky, hky⟩ : ∃ v, chgK q2 k a x2 = v := ⟨_, rfl⟩
          obtain ⟨vy, hvy⟩ : ∃ v, chgV q2 k a x3 = v := ⟨_, rfl⟩
          obtain ⟨go, hgo⟩ : ∃ v, chgO q2 k a b x2 = v := ⟨_, rfl⟩
          have HX2 := Lib.hid (show nodeAt gs x0 = (k, a, b, zs) by have h := HX.out; simpa using h)
          obtain ⟨rfl, hou⟩ : us = vs ∧ (if go = true then emitC zs x1 ky vy else []) = out := by
            have h := HQ.out
            rw [impG_on (gs := gs) (c := (x0, x1, x2, x3)) HB0.out (by simpa [recC] using HRL.out) HX2.out hq2 hky hvy hgo] at h
            simp only [Prod.mk.injEq] at h
            exact ⟨h.1.symm, h.2⟩
          obtain rfl : on = true := by rw [← HON.out, HRL.out, HB0.out]; rfl
          have CA := Lib.hid (fun W hW => cellsAfter_any k a b zs m HM.out hmn An cn (own_capS Z8.out) x0 x1 x2 x3 hq2 hky hvy hgo hou W hW)
          clear hq2 hky hvy hgo hou
          have y0 : w8.cell? ⟨w.heap.size + 1, 0, none⟩ = some (.int .i64 x0) := by rw [T8.out.x.cell]; rfl
          have y1 : w8.cell? ⟨w.heap.size + 1, 1, none⟩ = some (.int .i64 x1) := by rw [T8.out.x.cell]; rfl
          have y2 : w8.cell? ⟨w.heap.size + 1, 2, none⟩ = some (.int .i64 x2) := by rw [T8.out.x.cell]; rfl
          have y3 : w8.cell? ⟨w.heap.size + 1, 3, none⟩ = some (.int .i64 x3) := by rw [T8.out.x.cell]; rfl
          have u0 : w8.cell? ⟨nb, 0, none⟩ = some (.int .i64 k) := by rw [K8.out.cell]; rfl
          have u1 : w8.cell? ⟨nb, 1, none⟩ = some (.int .i64 a) := by rw [K8.out.cell]; rfl
          have u2 : w8.cell? ⟨nb, 2, none⟩ = some (.int .i64 b) := by rw [K8.out.cell]; rfl
          have u3 : w8.cell? ⟨nb, 3, none⟩ = some (.slice An m cn) := by rw [K8.out.cell]; rfl
          go_wp2_with fail
          clear y0 y1 y2 y3 u0 u1 u2 u3
          refine (CA.out _ (ints_own Z8.out)).mono ?_
          rintro e w9 ⟨A9, c9, m9, hm9, rfl, r9, b9⟩
          have R9 := Lib.hid r9
          have HM9 := Lib.hid hm9
          have s9 := b9.size
          have RS9 := Lib.hid (RS.out.below b9)
          have B9 := Lib.hid (below_chain B8.out b9)
          clear r9 hm9 b9
          go_wp2
          exact bodyPost_ret (v := .tuple #[.slice As m3 cs, .slice A9 m9 c9, .bool true]) (by simp [results, Try.results48, go_sem]) rfl (imv_end HM3.out HM9.out RS9.out R9.out (by omega) (by omega) (by omega) (by omega) B9.out)
    · rw [if_pos (by rfl)]
      unfold qV1_7
      go_simp
      obtain ⟨nb, hnb⟩ : ∃ g, g = w3.heap.size := ⟨_, rfl⟩
      rw [← hnb]
      generalize hU : World.alloc _ _ = w6
      have bU : Below w3.heap.size w3 w6 := by rw [← hU]; exact (Below.refl _ _).alloc (Nat.le_refl _) _
      have K6 := Lib.hid (show Blk w6 nb 46 #[.int .i64 0, .int .i64 0, .int .i64 0, .slice none 0 0] by rw [← hU, hnb]; exact Blk.new _ _ _)
      have T6 := Lib.hid (T3.out.fresh bU)
      have n6 : w3.heap.size ≤ nb := by omega
      clear hU bU hnb
      refine Shut.out hK _ _ ?_ (fun hHeld => ?_)
      · exact T6.out.held
      clear hK K
      try simp only [pt, List.set]
      refine cV1_0127_3 (fun K hK => ?_)
      rw [if_pos (by rfl)]
      unfold qV1_3
      go_simp
      refine (nodeFor_one gs wk cp A n c HL.out HO.out hn x0 x1 0 x2 x3 HGK.out HX.out HM.out w6 T6.out.nds).mono ?_
      rintro e w5 ⟨An, cn, rfl, rZ, bq⟩
      have Z5 := Lib.hid (own_base rZ (show w.heap.size ≤ w6.heap.size from T6.out.bel.size))
      have T5 := Lib.hid (T6.out.fresh bq)
      have z5 := bq.size
      have K5 := Lib.hid (K6.out.below bq)
      clear bq rZ
      refine Shut.out hK _ _ ?_ (fun hHeld => ?_)
      · exact T5.out.held
      clear hK K
      try simp only [pt, List.set]
      refine regY tV1_01237_4 (.tuple #[.agg #[.int .i64 k, .int .i64 a, .int .i64 b, .slice An m cn], .bool gk]) (fun W hSw => by unfold qV1_4; go_simp) hHeld ?_
      try simp only [pt, List.set]
      refine regY tV1_012347_5 (.agg #[.int .i64 k, .int .i64 a, .int .i64 b, .slice An m cn]) (fun W hSw => by unfold qV1_5; go_simp) hHeld ?_
      try simp only [pt, List.set]
      refine regY tV1_0123457_6 (.bool gk) (fun W hSw => by unfold qV1_6; go_simp) hHeld ?_
      try simp only [pt, List.set]
      refine cV1_01234567_8 (fun K hK => ?_)
      rw [if_pos (by rfl)]
      unfold qV1_8
      have l0 : w5.cell? ⟨nb, 0, none⟩ = some (.int .i64 0) := by rw [K5.out.cell]; rfl
      have l1 : w5.cell? ⟨nb, 1, none⟩ = some (.int .i64 0) := by rw [K5.out.cell]; rfl
      have l2 : w5.cell? ⟨nb, 2, none⟩ = some (.int .i64 0) := by rw [K5.out.cell]; rfl
      have l3 : w5.cell? ⟨nb, 3, none⟩ = some (.slice none 0 0) := by rw [K5.out.cell]; rfl
      have lf0 := K5.out.frozen 0
      have lf1 := K5.out.frozen 1
      have lf2 := K5.out.frozen 2
      have lf3 := K5.out.frozen 3
      go_simp
      clear l0 lf0 l1 lf1 l2 lf2 l3 lf3
      generalize hS : (((World.setCell w5 _ _).setCell _ _).setCell _ _).setCell _ _ = w7
      have gS : w5.grownBy w7 (some nb) := by rw [← hS]; exact grown_trans (grown_trans (grown_trans (grown_set _ _ _) (grown_set _ _ _)) (grown_set _ _ _)) (grown_set _ _ _)
      have K7 := Lib.hid (show Blk w7 nb 46 #[.int .i64 k, .int .i64 a, .int .i64 b, .slice An m cn] by rw [← hS]; exact (((K5.out.put 0 _).put 1 _).put 2 _).put 3 _)
      have T7 := Lib.hid (T5.out.put K5.out gS (by omega))
      have Z7 := Lib.hid (Z5.out.kept gS (.inr (own_type Z5.out K5.out (by decide))))
      clear hS gS
      refine Shut.out hK _ _ ?_ (fun hHeld => ?_)
      · exact T7.out.held
      clear hK K
      try simp only [pn]
      refine regY tV1_012345678_9 (.bool gk) (fun W hSw => by unfold qV1_9; go_simp) hHeld ?_
      try simp only [pt, List.set]
      refine wpAnyH_done (by kernel_rfl) ?_ _
      clear hHeld
      have G7 := T7.out
      have hw7 : w.heap.size ≤ w7.heap.size := T7.out.bel.size
      have NB := Lib.hid (show nb < w7.heap.size from K7.out.lt)
      cases gk with
      | false =>
        obtain ⟨rfl, rfl⟩ : us = ces ∧ out = [] := by
          have h := HQ.out
          rw [impG_no HB0.out] at h
          simp only [Prod.mk.injEq] at h
          exact ⟨h.1.symm, h.2.symm⟩
        obtain rfl : on = false := by rw [← HON.out, HB0.out]; rfl
        clear G7
        go_wp2_with fail
        refine (cloneCe_any n2 us H2L.out A2 c2 HA2.out _ (H2.out.below T7.out.bel) (by omega)).mono ?_
        rintro e w8 ⟨v, rfl, o8, b8⟩
        obtain ⟨As, cs, rfl, rS⟩ := row_of o8
        have RS := Lib.hid rS
        have B8 := Lib.hid (below_chain T7.out.bel b8)
        have s8 := b8.size
        clear o8 rS b8
        go_wp2
        exact bodyPost_ret (v := .tuple #[.slice As n2 cs, .slice (some ⟨w8.heap.size, 0, none⟩) 0 0, .bool false]) (by simp [results, Try.results48, go_sem]) rfl (imv_end H2L.out rfl (RS.out.below ((Below.refl _ _).alloc (Nat.le_refl _) _)) (rowUp (row_lit (size := 4) (Blk.new w8 38 #[])) (by simp)) (by omega) (by omega) (Nat.le_refl _) (by simp) (B8.out.alloc B8.out.size _))
      | true =>
        have y0 : w7.cell? ⟨w.heap.size + 1, 0, none⟩ = some (.int .i64 x0) := by rw [G7.x.cell]; rfl
        have y1 : w7.cell? ⟨w.heap.size + 1, 1, none⟩ = some (.int .i64 x1) := by rw [G7.x.cell]; rfl
        have y2 : w7.cell? ⟨w.heap.size + 1, 2, none⟩ = some (.int .i64 x2) := by rw [G7.x.cell]; rfl
        have y3 : w7.cell? ⟨w.heap.size + 1, 3, none⟩ = some (.int .i64 x3) := by rw [G7.x.cell]; rfl
        clear G7
        go_wp2_with fail
        clear y0 y1 y2 y3
        obtain ⟨vs, fl, hrl⟩ : ∃ v f, recL ces (x0, x1, x2, x3) = (v, f) := ⟨_, _, rfl⟩
        refine (recLeast_any n2 ces H2L.out A2 c2 HA2.out hc2 x0 x1 x2 x3 _ (H2.out.below T7.out.bel) hn2).mono ?_
        rintro e w8 ⟨v, rfl, o8, b8⟩
        rw [hrl] at o8 ⊢
        obtain ⟨m3, hm3⟩ : ∃ m, vs.length = m := ⟨_, rfl⟩
        rw [show (vs, fl).1 = vs from rfl, hm3] at o8
        obtain ⟨As, cs, rfl, rS⟩ := row_of o8
        have RS := Lib.hid rS
        have B8 := Lib.hid (below_chain T7.out.bel b8)
        have s8 := b8.size
        have K8 := Lib.hid (K7.out.below b8)
        have T8 := Lib.hid (T7.out.fresh b8)
        have Z8 := Lib.hid (own_below Z7.out b8)
        have HRL := Lib.hid hrl
        have HM3 := Lib.hid hm3
        clear o8 rS b8 hrl hm3 T7 K7 Z7
        cases fl with
        | false =>
          obtain ⟨rfl, rfl⟩ : us = vs ∧ out = [] := by
            have h := HQ.out
            rw [impG_off2 HRL.out] at h
            simp only [Prod.mk.injEq] at h
            exact ⟨h.1.symm, h.2.symm⟩
          obtain rfl : on = false := by rw [← HON.out, HRL.out]; simp
          go_wp2
          exact bodyPost_ret (v := .tuple #[.slice As m3 cs, .slice (some ⟨w8.heap.size, 0, none⟩) 0 0, .bool false]) (by simp [results, Try.results48, go_sem]) rfl (imv_end HM3.out rfl (RS.out.below ((Below.refl _ _).alloc (Nat.le_refl _) _)) (rowUp (row_lit (size := 4) (Blk.new w8 38 #[])) (by simp)) (by omega) (by omega) (Nat.le_refl _) (by simp) (B8.out.alloc B8.out.size _))
        | true =>
          obtain ⟨q2, hq2⟩ : ∃ v, okC k a b (dec1 a) x2 x3 zs = v := ⟨_, rfl⟩
          obtain ⟨ky, hky⟩ : ∃ v, chgK q2 k a x2 = v := ⟨_, rfl⟩
          obtain ⟨vy, hvy⟩ : ∃ v, chgV q2 k a x3 = v := ⟨_, rfl⟩
          obtain ⟨go, hgo⟩ : ∃ v, chgO q2 k a b x2 = v := ⟨_, rfl⟩
          have HX2 := Lib.hid (show nodeAt gs x0 = (k, a, b, zs) by have h := HX.out; simpa using h)
          obtain ⟨rfl, hou⟩ : us = vs ∧ (if go = true then emitC zs x1 ky vy else []) = out := by
            have h := HQ.out
            rw [impG_on (gs := gs) (c := (x0, x1, x2, x3)) HB0.out (by simpa [recC] using HRL.out) HX2.out hq2 hky hvy hgo] at h
            simp only [Prod.mk.injEq] at h
            exact ⟨h.1.symm, h.2⟩
          obtain rfl : on = true := by rw [← HON.out, HRL.out, HB0.out]; rfl
          have CA := Lib.hid (fun W hW => cellsAfter_any k a b zs m HM.out hmn An cn (own_capS Z8.out) x0 x1 x2 x3 hq2 hky hvy hgo hou W hW)
          clear hq2 hky hvy hgo hou
          have y0 : w8.cell? ⟨w.heap.size + 1, 0, none⟩ = some (.int .i64 x0) := by rw [T8.out.x.cell]; rfl
          have y1 : w8.cell? ⟨w.heap.size + 1, 1, none⟩ = some (.int .i64 x1) := by rw [T8.out.x.cell]; rfl
          have y2 : w8.cell? ⟨w.heap.size + 1, 2, none⟩ = some (.int .i64 x2) := by rw [T8.out.x.cell]; rfl
          have y3 : w8.cell? ⟨w.heap.size + 1, 3, none⟩ = some (.int .i64 x3) := by rw [T8.out.x.cell]; rfl
          have u0 : w8.cell? ⟨nb, 0, none⟩ = some (.int .i64 k) := by rw [K8.out.cell]; rfl
          have u1 : w8.cell? ⟨nb, 1, none⟩ = some (.int .i64 a) := by rw [K8.out.cell]; rfl
          have u2 : w8.cell? ⟨nb, 2, none⟩ = some (.int .i64 b) := by rw [K8.out.cell]; rfl
          have u3 : w8.cell? ⟨nb, 3, none⟩ = some (.slice An m cn) := by rw [K8.out.cell]; rfl
          go_wp2_with fail
          clear y0 y1 y2 y3 u0 u1 u2 u3
          refine (CA.out _ (ints_own Z8.out)).mono ?_
          rintro e w9 ⟨A9, c9, m9, hm9, rfl, r9, b9⟩
          have R9 := Lib.hid r9
          have HM9 := Lib.hid hm9
          have s9 := b9.size
          have RS9 := Lib.hid (RS.out.below b9)
          have B9 := Lib.hid (below_chain B8.out b9)
          clear r9 hm9 b9
          go_wp2
          exact bodyPost_ret (v := .tuple #[.slice As m3 cs, .slice A9 m9 c9, .bool true]) (by simp [results, Try.results48, go_sem]) rfl (imv_end HM3.out HM9.out RS9.out R9.out (by omega) (by omega) (by omega) (by omega) B9.out)
  · rw [if_pos (by rfl)]
    unfold qV1_7
    go_simp
    obtain ⟨nb, hnb⟩ : ∃ g, g = V9.heap.size := ⟨_, rfl⟩
    rw [← hnb]
    generalize hU : World.alloc _ _ = w6
    have bU : Below V9.heap.size V9 w6 := by rw [← hU]; exact (Below.refl _ _).alloc (Nat.le_refl _) _
    have K6 := Lib.hid (show Blk w6 nb 46 #[.int .i64 0, .int .i64 0, .int .i64 0, .slice none 0 0] by rw [← hU, hnb]; exact Blk.new _ _ _)
    have T6 := Lib.hid (SV.out.fresh bU)
    have n6 : V9.heap.size ≤ nb := by omega
    clear hU bU hnb
    refine Shut.out hK _ _ ?_ (fun hHeld => ?_)
    · exact T6.out.held
    clear hK K
    try simp only [pt, List.set]
    refine cV1_017_2 (fun K hK => ?_)
    rw [if_pos (by rfl)]
    unfold qV1_2
    go_simp
    refine (recordOf_any x0 x1 x2 x3 w6).mono ?_
    rintro e w3 ⟨rfl, bq⟩
    have T3 := Lib.hid (T6.out.fresh bq)
    have z3 := bq.size
    have K3 := Lib.hid (K6.out.below bq)
    clear bq
    refine Shut.out hK _ _ ?_ (fun hHeld => ?_)
    · exact T3.out.held
    clear hK K
    try simp only [pt, List.set]
    refine cV1_0127_3 (fun K hK => ?_)
    rw [if_pos (by rfl)]
    unfold qV1_3
    go_simp
    refine (nodeFor_one gs wk cp A n c HL.out HO.out hn x0 x1 0 x2 x3 HGK.out HX.out HM.out w3 T3.out.nds).mono ?_
    rintro e w5 ⟨An, cn, rfl, rZ, bq⟩
    have Z5 := Lib.hid (own_base rZ (show w.heap.size ≤ w3.heap.size from T3.out.bel.size))
    have T5 := Lib.hid (T3.out.fresh bq)
    have z5 := bq.size
    have K5 := Lib.hid (K3.out.below bq)
    clear bq rZ
    refine Shut.out hK _ _ ?_ (fun hHeld => ?_)
    · exact T5.out.held
    clear hK K
    try simp only [pt, List.set]
    refine regY tV1_01237_4 (.tuple #[.agg #[.int .i64 k, .int .i64 a, .int .i64 b, .slice An m cn], .bool gk]) (fun W hSw => by unfold qV1_4; go_simp) hHeld ?_
    try simp only [pt, List.set]
    refine regY tV1_012347_5 (.agg #[.int .i64 k, .int .i64 a, .int .i64 b, .slice An m cn]) (fun W hSw => by unfold qV1_5; go_simp) hHeld ?_
    try simp only [pt, List.set]
    refine regY tV1_0123457_6 (.bool gk) (fun W hSw => by unfold qV1_6; go_simp) hHeld ?_
    try simp only [pt, List.set]
    refine cV1_01234567_8 (fun K hK => ?_)
    rw [if_pos (by rfl)]
    unfold qV1_8
    have l0 : w5.cell? ⟨nb, 0, none⟩ = some (.int .i64 0) := by rw [K5.out.cell]; rfl
    have l1 : w5.cell? ⟨nb, 1, none⟩ = some (.int .i64 0) := by rw [K5.out.cell]; rfl
    have l2 : w5.cell? ⟨nb, 2, none⟩ = some (.int .i64 0) := by rw [K5.out.cell]; rfl
    have l3 : w5.cell? ⟨nb, 3, none⟩ = some (.slice none 0 0) := by rw [K5.out.cell]; rfl
    have lf0 := K5.out.frozen 0
    have lf1 := K5.out.frozen 1
    have lf2 := K5.out.frozen 2
    have lf3 := K5.out.frozen 3
    go_simp
    clear l0 lf0 l1 lf1 l2 lf2 l3 lf3
    generalize hS : (((World.setCell w5 _ _).setCell _ _).setCell _ _).setCell _ _ = w7
    have gS : w5.grownBy w7 (some nb) := by rw [← hS]; exact grown_trans (grown_trans (grown_trans (grown_set _ _ _) (grown_set _ _ _)) (grown_set _ _ _)) (grown_set _ _ _)
    have K7 := Lib.hid (show Blk w7 nb 46 #[.int .i64 k, .int .i64 a, .int .i64 b, .slice An m cn] by rw [← hS]; exact (((K5.out.put 0 _).put 1 _).put 2 _).put 3 _)
    have T7 := Lib.hid (T5.out.put K5.out gS (by omega))
    have Z7 := Lib.hid (Z5.out.kept gS (.inr (own_type Z5.out K5.out (by decide))))
    clear hS gS
    refine Shut.out hK _ _ ?_ (fun hHeld => ?_)
    · exact T7.out.held
    clear hK K
    try simp only [pn]
    refine regY tV1_012345678_9 (.bool gk) (fun W hSw => by unfold qV1_9; go_simp) hHeld ?_
    try simp only [pt, List.set]
    refine wpAnyH_done (by kernel_rfl) ?_ _
    clear hHeld
    have G7 := T7.out
    have hw7 : w.heap.size ≤ w7.heap.size := T7.out.bel.size
    have NB := Lib.hid (show nb < w7.heap.size from K7.out.lt)
    cases gk with
    | false =>
      obtain ⟨rfl, rfl⟩ : us = ces ∧ out = [] := by
        have h := HQ.out
        rw [impG_no HB0.out] at h
        simp only [Prod.mk.injEq] at h
        exact ⟨h.1.symm, h.2.symm⟩
      obtain rfl : on = false := by rw [← HON.out, HB0.out]; rfl
      clear G7
      go_wp2_with fail
      refine (cloneCe_any n2 us H2L.out A2 c2 HA2.out _ (H2.out.below T7.out.bel) (by omega)).mono ?_
      rintro e w8 ⟨v, rfl, o8, b8⟩
      obtain ⟨As, cs, rfl, rS⟩ := row_of o8
      have RS := Lib.hid rS
      have B8 := Lib.hid (below_chain T7.out.bel b8)
      have s8 := b8.size
      clear o8 rS b8
      go_wp2
      exact bodyPost_ret (v := .tuple #[.slice As n2 cs, .slice (some ⟨w8.heap.size, 0, none⟩) 0 0, .bool false]) (by simp [results, Try.results48, go_sem]) rfl (imv_end H2L.out rfl (RS.out.below ((Below.refl _ _).alloc (Nat.le_refl _) _)) (rowUp (row_lit (size := 4) (Blk.new w8 38 #[])) (by simp)) (by omega) (by omega) (Nat.le_refl _) (by simp) (B8.out.alloc B8.out.size _))
    | true =>
      have y0 : w7.cell? ⟨w.heap.size + 1, 0, none⟩ = some (.int .i64 x0) := by rw [G7.x.cell]; rfl
      have y1 : w7.cell? ⟨w.heap.size + 1, 1, none⟩ = some (.int .i64 x1) := by rw [G7.x.cell]; rfl
      have y2 : w7.cell? ⟨w.heap.size + 1, 2, none⟩ = some (.int .i64 x2) := by rw [G7.x.cell]; rfl
      have y3 : w7.cell? ⟨w.heap.size + 1, 3, none⟩ = some (.int .i64 x3) := by rw [G7.x.cell]; rfl
      clear G7
      go_wp2_with fail
      clear y0 y1 y2 y3
      obtain ⟨vs, fl, hrl⟩ : ∃ v f, recL ces (x0, x1, x2, x3) = (v, f) := ⟨_, _, rfl⟩
      refine (recLeast_any n2 ces H2L.out A2 c2 HA2.out hc2 x0 x1 x2 x3 _ (H2.out.below T7.out.bel) hn2).mono ?_
      rintro e w8 ⟨v, rfl, o8, b8⟩
      rw [hrl] at o8 ⊢
      obtain ⟨m3, hm3⟩ : ∃ m, vs.length = m := ⟨_, rfl⟩
      rw [show (vs, fl).1 = vs from rfl, hm3] at o8
      obtain ⟨As, cs, rfl, rS⟩ := row_of o8
      have RS := Lib.hid rS
      have B8 := Lib.hid (below_chain T7.out.bel b8)
      have s8 := b8.size
      have K8 := Lib.hid (K7.out.below b8)
      have T8 := Lib.hid (T7.out.fresh b8)
      have Z8 := Lib.hid (own_below Z7.out b8)
      have HRL := Lib.hid hrl
      have HM3 := Lib.hid hm3
      clear o8 rS b8 hrl hm3 T7 K7 Z7
      cases fl with
      | false =>
        obtain ⟨rfl, rfl⟩ : us = vs ∧ out = [] := by
          have h := HQ.out
          rw [impG_off2 HRL.out] at h
          simp only [Prod.mk.injEq] at h
          exact ⟨h.1.symm, h.2.symm⟩
        obtain rfl : on = false := by rw [← HON.out, HRL.out]; simp
        go_wp2
        exact bodyPost_ret (v := .tuple #[.slice As m3 cs, .slice (some ⟨w8.heap.size, 0, none⟩) 0 0, .bool false]) (by simp [results, Try.results48, go_sem]) rfl (imv_end HM3.out rfl (RS.out.below ((Below.refl _ _).alloc (Nat.le_refl _) _)) (rowUp (row_lit (size := 4) (Blk.new w8 38 #[])) (by simp)) (by omega) (by omega) (Nat.le_refl _) (by simp) (B8.out.alloc B8.out.size _))
      | true =>
        obtain ⟨q2, hq2⟩ : ∃ v, okC k a b (dec1 a) x2 x3 zs = v := ⟨_, rfl⟩
        obtain ⟨ky, hky⟩ : ∃ v, chgK q2 k a x2 = v := ⟨_, rfl⟩
        obtain ⟨vy, hvy⟩ : ∃ v, chgV q2 k a x3 = v := ⟨_, rfl⟩
        obtain ⟨go, hgo⟩ : ∃ v, chgO q2 k a b x2 = v := ⟨_, rfl⟩
        have HX2 := Lib.hid (show nodeAt gs x0 = (k, a, b, zs) by have h := HX.out; simpa using h)
        obtain ⟨rfl, hou⟩ : us = vs ∧ (if go = true then emitC zs x1 ky vy else []) = out := by
          have h := HQ.out
          rw [impG_on (gs := gs) (c := (x0, x1, x2, x3)) HB0.out (by simpa [recC] using HRL.out) HX2.out hq2 hky hvy hgo] at h
          simp only [Prod.mk.injEq] at h
          exact ⟨h.1.symm, h.2⟩
        obtain rfl : on = true := by rw [← HON.out, HRL.out, HB0.out]; rfl
        have CA := Lib.hid (fun W hW => cellsAfter_any k a b zs m HM.out hmn An cn (own_capS Z8.out) x0 x1 x2 x3 hq2 hky hvy hgo hou W hW)
        clear hq2 hky hvy hgo hou
        have y0 : w8.cell? ⟨w.heap.size + 1, 0, none⟩ = some (.int .i64 x0) := by rw [T8.out.x.cell]; rfl
        have y1 : w8.cell? ⟨w.heap.size + 1, 1, none⟩ = some (.int .i64 x1) := by rw [T8.out.x.cell]; rfl
        have y2 : w8.cell? ⟨w.heap.size + 1, 2, none⟩ = some (.int .i64 x2) := by rw [T8.out.x.cell]; rfl
        have y3 : w8.cell? ⟨w.heap.size + 1, 3, none⟩ = some (.int .i64 x3) := by rw [T8.out.x.cell]; rfl
        have u0 : w8.cell? ⟨nb, 0, none⟩ = some (.int .i64 k) := by rw [K8.out.cell]; rfl
        have u1 : w8.cell? ⟨nb, 1, none⟩ = some (.int .i64 a) := by rw [K8.out.cell]; rfl
        have u2 : w8.cell? ⟨nb, 2, none⟩ = some (.int .i64 b) := by rw [K8.out.cell]; rfl
        have u3 : w8.cell? ⟨nb, 3, none⟩ = some (.slice An m cn) := by rw [K8.out.cell]; rfl
        go_wp2_with fail
        clear y0 y1 y2 y3 u0 u1 u2 u3
        refine (CA.out _ (ints_own Z8.out)).mono ?_
        rintro e w9 ⟨A9, c9, m9, hm9, rfl, r9, b9⟩
        have R9 := Lib.hid r9
        have HM9 := Lib.hid hm9
        have s9 := b9.size
        have RS9 := Lib.hid (RS.out.below b9)
        have B9 := Lib.hid (below_chain B8.out b9)
        clear r9 hm9 b9
        go_wp2
        exact bodyPost_ret (v := .tuple #[.slice As m3 cs, .slice A9 m9 c9, .bool true]) (by simp [results, Try.results48, go_sem]) rfl (imv_end HM3.out HM9.out RS9.out R9.out (by omega) (by omega) (by omega) (by omega) B9.out)
end Go.Proofs.Ytbbagpnjjjohpaa.hexes

