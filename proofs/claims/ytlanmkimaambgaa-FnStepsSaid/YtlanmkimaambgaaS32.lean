/-
  The reference's StepAll: the contract of spec.StepAll.
-/
import Derived.Test.YtlanmkimaambgaaS30
import Derived.Test.YtlanmkimaambgaaS7
import Derived.Test.YtlanmkimaambgaaS31

namespace Go.Proofs.Ytlanmkimaambgaa.hexes
open Go.RowKit

/-- What StepAll keeps from round to round. -/
structure AllSt (w wr : World) (gs : List Nd) (wk cp : Int) (A : Option Addr) (n c : Nat) (A3 : Option Addr) (m3 c3 : Nat) (cs : List Ce) (A4 : Option Addr) (m4 c4 : Nat) (rs : List Rc) : Prop where
  s : wr.ownsRow w.heap.size 75 4 (.slice A3 m3 c3) m3 (ceCells cs)
  r : wr.ownsRow w.heap.size 31 5 (.slice A4 m4 c4) m4 (rcCells rs)
  g : Blk wr w.heap.size 26 #[.slice A n c, .int .i64 wk, .int .i64 cp]
  bel : Below w.heap.size w wr
  n0 : Nds w A gs
variable {w wr w' : World} {gs : List Nd} {wk cp : Int} {A : Option Addr} {n c : Nat} {A3 : Option Addr} {m3 c3 : Nat} {cs : List Ce} {A4 : Option Addr} {m4 c4 : Nat} {rs : List Rc}
theorem AllSt.fresh (h : AllSt w wr gs wk cp A n c A3 m3 c3 cs A4 m4 c4 rs) (hb : Below wr.heap.size wr w') : AllSt w w' gs wk cp A n c A3 m3 c3 cs A4 m4 c4 rs :=
  ⟨own_below h.s hb, own_below h.r hb, h.g.below hb, below_chain h.bel hb, h.n0⟩
theorem AllSt.nds (h : AllSt w wr gs wk cp A n c A3 m3 c3 cs A4 m4 c4 rs) : Nds wr A gs := h.n0.below h.bel
theorem AllSt.wlt (h : AllSt w wr gs wk cp A n c A3 m3 c3 cs A4 m4 c4 rs) : w.heap.size < wr.heap.size := h.g.lt
theorem AllSt.ces (h : AllSt w wr gs wk cp A n c A3 m3 c3 cs A4 m4 c4 rs) : Ces wr A3 cs := by
  obtain ⟨A', c', he, _, hs⟩ := Ces.of_own h.s
  simp only [Value.slice.injEq, true_and] at he
  obtain ⟨rfl, rfl⟩ := he
  exact hs
theorem AllSt.rcs (h : AllSt w wr gs wk cp A n c A3 m3 c3 cs A4 m4 c4 rs) : Rcs wr A4 rs := by
  obtain ⟨A', c', he, _, hs⟩ := Rcs.of_own h.r
  simp only [Value.slice.injEq, true_and] at he
  obtain ⟨rfl, rfl⟩ := he
  exact hs
theorem AllSt.done (h : AllSt w wr gs wk cp A n c A3 m3 c3 cs A4 m4 c4 rs) (h3 : cs.length = m3) (h4 : rs.length = m4) {q : (List Ce × List Rc) × Nat} {j : Nat} (hq : q = ((cs, rs), j)) : AllEnd w q (.returned (.tuple #[.slice A3 m3 c3, .slice A4 m4 c4, .int .i64 (j : Int)])) wr := by
  subst hq
  exact ⟨A3, c3, m3, A4, c4, m4, h3, h4, rfl, h.s, h.r, h.bel⟩
/-- What a round's call reads. -/
structure AllHeld (g : Nat) (A : Option Addr) (n c : Nat) (wk cp : Int) (b4 o4 : Nat) (p0 p1 p2 p3 p4 : Int) (w : World) : Prop where
  g0 : w.cell? ⟨g, 0, none⟩ = some (.slice A n c)
  g1 : w.cell? ⟨g, 1, none⟩ = some (.int .i64 wk)
  g2 : w.cell? ⟨g, 2, none⟩ = some (.int .i64 cp)
  e0 : w.cell? ⟨b4, o4, none⟩ = some (.int .i64 p0)
  e1 : w.cell? ⟨b4, o4 + 1, none⟩ = some (.int .i64 p1)
  e2 : w.cell? ⟨b4, o4 + 2, none⟩ = some (.int .i64 p2)
  e3 : w.cell? ⟨b4, o4 + 3, none⟩ = some (.int .i64 p3)
  e4 : w.cell? ⟨b4, o4 + 4, none⟩ = some (.int .i64 p4)
theorem AllHeld.below {g : Nat} {A : Option Addr} {n c : Nat} {wk cp : Int} {b4 o4 : Nat} {p0 p1 p2 p3 p4 : Int} {w w' : World} (h : AllHeld g A n c wk cp b4 o4 p0 p1 p2 p3 p4 w) (hb : Below w.heap.size w w') : AllHeld g A n c wk cp b4 o4 p0 p1 p2 p3 p4 w' :=
  ⟨below_keep hb h.g0, below_keep hb h.g1, below_keep hb h.g2, below_keep hb h.e0, below_keep hb h.e1, below_keep hb h.e2, below_keep hb h.e3, below_keep hb h.e4⟩
theorem AllSt.held {p0 p1 p2 p3 p4 : Int} (h : AllSt w wr gs wk cp A n c A3 m3 c3 cs A4 m4 c4 ((p0, (p1, p2), p3, p4) :: rs)) : ∃ b4 o4, A4 = some ⟨b4, o4, none⟩ ∧ AllHeld w.heap.size A n c wk cp b4 o4 p0 p1 p2 p3 p4 wr := by
  obtain ⟨b4, o4, q0, q1, q2, q3, q4, hA, hq, h0, h1, h2, h3, h4⟩ := h.rcs.at (k := 0) (by simp)
  simp only [List.getElem_cons_zero, Prod.mk.injEq] at hq
  obtain ⟨rfl, ⟨rfl, rfl⟩, rfl, rfl⟩ := hq
  simp only [Nat.zero_mul, Nat.add_zero] at h0 h1 h2 h3 h4
  exact ⟨b4, o4, hA, by rw [h.g.cell]; rfl, by rw [h.g.cell]; rfl, by rw [h.g.cell]; rfl, h0, h1, h2, h3, h4⟩

set_option maxRecDepth 1000000 in
set_option maxHeartbeats 16000000 in
theorem specAll_any (gs : List Nd) (wk cp : Int) (A : Option Addr) (n c : Nat) (hl : gs.length = n) (ho : ∀ x ∈ gs, x.2.2.2.length ≤ 1048576) (hn : n ≤ 1048576) (ces : List Ce) (A2 : Option Addr) (n2 c2 : Nat) (hl2 : ces.length = n2) (hA2 : A2 = none → c2 = 0) (hn2 : n2 ≤ 1048576) (rcs : List Rc) (A1 : Option Addr) (n1 c1 : Nat) (hl1 : rcs.length = n1) (hA1 : A1 = none → c1 = 0) (hn1 : n1 ≤ 1048576) (mo : Int) (w : World) (h : Nds w A gs) (h2 : Ces w A2 ces) (h1 : Rcs w A1 rcs) :
    Calls Try.prog 17 #[.agg #[.slice A n c, .int .i64 wk, .int .i64 cp], .slice A2 n2 c2, .slice A1 n1 c1, .int .i64 mo] w (AllEnd w (allG gs wk cp ces rcs mo)) := by
  obtain ⟨q, hq⟩ : ∃ q, allG gs wk cp ces rcs mo = q := ⟨_, rfl⟩
  obtain ⟨K, hK⟩ : ∃ K : Nat, brought mo 0 100000 = (K : Int) ∧ K ≤ 100000 := ⟨(brought mo 0 100000).toNat, by have := brought_bd mo 0 100000 (by omega); omega⟩
  obtain ⟨hK, hKb⟩ := hK
  have AT0 := Lib.hid (show StepsAt gs wk cp K 0 q ces rcs by rw [← hq]; unfold allG; rw [hK, Int.toNat_natCast]; exact StepsAt.start _ _ _ _ _ _)
  have HQ := Lib.hid hq
  have HKB := Lib.hid hK
  have HL := Lib.hid hl
  have HO := Lib.hid ho
  have HL2 := Lib.hid hl2
  have HA2 := Lib.hid hA2
  have HL1 := Lib.hid hl1
  have HA1 := Lib.hid hA1
  have S0 := Lib.hid h
  have S2 := Lib.hid h2
  have S1 := Lib.hid h1
  clear hq hK hl ho hl2 hA2 hl1 hA1 h h2 h1
  obtain ⟨V, hW⟩ : ∃ z, w.alloc (.cells #[.slice A n c, .int .i64 wk, .int .i64 cp] 26) = z := ⟨_, rfl⟩
  have B1 := Lib.hid (show Below w.heap.size w V by rw [← hW]; exact (Below.refl _ _).alloc (Nat.le_refl _) _)
  have G1 := Lib.hid (show Blk V w.heap.size 26 #[.slice A n c, .int .i64 wk, .int .i64 cp] by rw [← hW]; exact Blk.new _ _ _)
  have szV : w.heap.size ≤ V.heap.size := by rw [← hW]; simp
  have LIT := Lib.hid (World.ownsRow_lit (base := V.heap.size) (e := 75) (size := 4) V #[] 0 (Nat.le_refl _) (by decide) (by rfl))
  have BA := Lib.hid ((Below.refl V.heap.size V).alloc (Nat.le_refl _) (.cells #[] 75))
  have S3 := Lib.hid ((S2.out.below B1.out).below BA.out)
  go_enter Try.func17, Try.ntmps17
  go_wp2_with (at_builtin; refine wpList_append_ce rfl (.tmp 15) (.tmp 16) (by rfl) V.heap.size (.slice (some ⟨V.heap.size, 0, none⟩) 0 0) 0 [] (by rfl) LIT.out A2 n2 c2 ces (by rfl) HA2.out HL2.out S3.out (by omega) BA.out.size ?_; intro vs w2 own gr; generalize hG : wpList _ _ _ _ _ _ = GG)
  clear hW
  have hb : Below V.heap.size V w2 := BA.out.grown gr BA.out.size (own_ge LIT.out)
  rw [Nat.zero_add, List.nil_append] at own
  obtain ⟨As, cc, rfl, rS⟩ := row_of own
  have B2 := Lib.hid (below_chain B1.out hb)
  have G2 := Lib.hid (G1.out.below hb)
  have sz2 := hb.size
  have S4 := Lib.hid rS.own
  clear own gr LIT BA S3 hb rS B1 G1
  obtain ⟨U, hW⟩ : ∃ z, w2.alloc (.cells #[] 31) = z := ⟨_, rfl⟩
  have hb : Below w2.heap.size w2 U := by rw [← hW]; exact (Below.refl _ _).alloc (Nat.le_refl _) _
  have szU : w2.heap.size ≤ U.heap.size := by rw [← hW]; simp
  have LIT := Lib.hid (show U.ownsRow w2.heap.size 31 5 (.slice (some ⟨w2.heap.size, 0, none⟩) 0 0) 0 (rcCells []) by rw [← hW]; exact World.ownsRow_lit (base := w2.heap.size) (e := 31) (size := 5) w2 #[] 0 (Nat.le_refl _) (by decide) (by rfl))
  have B3 := Lib.hid (below_chain B2.out hb)
  have G3 := Lib.hid (G2.out.below hb)
  have S5 := Lib.hid (own_below S4.out hb)
  have S6 := Lib.hid (S1.out.below B3.out)
  clear hb B2 G2 S4
  subst hG
  go_wp2_with (at_builtin; refine wpList_append_rc rfl (.tmp 18) (.tmp 19) (by rfl) w2.heap.size (.slice (some ⟨w2.heap.size, 0, none⟩) 0 0) 0 [] (by rfl) LIT.out A1 n1 c1 rcs (by rfl) HA1.out HL1.out S6.out (by omega) (by omega) ?_; intro vr w3 own gr; generalize hG : wpList _ _ _ _ _ _ = GG)
  clear hW
  rw [Nat.zero_add, List.nil_append] at own
  obtain ⟨Ar, cr, rfl, hf⟩ := own_form own
  have I0 := Lib.hid (show AllSt w w3 gs wk cp A n c As n2 cc ces Ar n1 cr rcs from ⟨own_base (S5.out.kept gr (own_types S5.out LIT.out (by decide))) (by omega), own_base own (by omega), G3.out.grown gr (Ne.symm (own_type LIT.out G3.out (by decide))), B3.out.grown gr B3.out.size (fun g hg => by have := own_ge LIT.out g hg; omega), S0.out⟩)
  clear own gr hf LIT B3 G3 S5 S6
  subst hG
  go_wp2_with fail
  refine (specBrought_any mo 0 100000 w3).mono ?_
  rintro e w4 ⟨rfl, rfl⟩
  rw [HKB.out]
  go_wp2
  go_loopw [1, 2, 11] (fun t1 t2 i wr => ∃ (j : Nat) (cs : List Ce) (rs : List Rc) (A3 : Option Addr) (m3 c3 : Nat) (A4 : Option Addr) (m4 c4 : Nat), i = .int .i64 (j : Int) ∧ j ≤ K ∧ t1 = .slice A3 m3 c3 ∧ t2 = .slice A4 m4 c4 ∧ cs.length = m3 ∧ rs.length = m4 ∧ m3 ≤ n2 + j ∧ m4 ≤ n1 + 2 * j ∧ StepsAt gs wk cp K j q cs rs ∧ AllSt w wr gs wk cp A n c A3 m3 c3 cs A4 m4 c4 rs) (fun _ _ i _ => K - (intOf i).toNat)
  case atStart => exact ⟨0, ces, rcs, As, n2, cc, Ar, n1, cr, rfl, Nat.zero_le _, rfl, rfl, HL2.out, HL1.out, by omega, by omega, AT0.out, I0.out⟩
  case round =>
    obtain ⟨j, cs, rs, A3, m3, c3, A4, m4, c4, rfl, hj, rfl, rfl, h3, h4, b3, b4, hat, hst⟩ := hrel
    have HC3 := Lib.hid h3
    have HC4 := Lib.hid h4
    have AT := Lib.hid hat
    have SR := Lib.hid hst
    clear h3 h4 hat hst AT0 I0
    by_cases hlt : j < K
    · have i1 : (j : Int) < (K : Int) := by omega
      cases rs with
      | nil =>
        obtain rfl : m4 = 0 := by have := HC4.out; simp at this; omega
        have HE := Lib.hid (show allG gs wk cp ces rcs mo = ((cs, []), j) by rw [HQ.out]; exact AT.out.empty)
        go_wp2
        exact bodyPost_ret (v := .tuple #[.slice A3 m3 c3, .slice A4 0 c4, .int .i64 (j : Int)]) (by simp [results, Try.results17, go_sem]) rfl (SR.out.done HC3.out HC4.out HE.out)
      | cons r rs =>
        have hm4 : 0 < m4 := by have := HC4.out; simp at this; omega
        have qk : decide ((m4 : Int) > 0) = true := by simp; omega
        have i0 : (0 : Int) < (m4 : Int) := by omega
        obtain ⟨⟨⟨cs2, out⟩, ok⟩, hsg⟩ : ∃ p, stepGr gs wk cp cs r = p := ⟨_, rfl⟩
        have lc : cs2.length ≤ m3 + 1 := by have h := stepG_cells gs wk cp cs r; rw [hsg, HC3.out] at h; exact h
        have lo : out.length ≤ 2 := by have h := stepG_out gs wk cp cs r; rw [hsg] at h; exact h
        have NX := Lib.hid (show StepsAt gs wk cp K (j + 1) q cs2 (rs ++ out) by have h := AT.out.next hlt; rw [hsg] at h; exact h)
        obtain ⟨p0, ⟨p1, p2⟩, p3, p4⟩ := r
        have HSG := Lib.hid hsg
        clear hsg AT
        obtain ⟨b4, o4, rfl, hh⟩ := SR.out.held
        obtain ⟨V9, hV⟩ : ∃ v, wr.drew = v := ⟨_, rfl⟩
        have SV := Lib.hid (show AllSt w V9 gs wk cp A n c A3 m3 c3 cs (some ⟨b4, o4, none⟩) m4 c4 ((p0, (p1, p2), p3, p4) :: rs) by rw [← hV]; exact SR.out.fresh ((Below.refl _ _).drew))
        have HV := Lib.hid (show AllHeld w.heap.size A n c wk cp b4 o4 p0 p1 p2 p3 p4 V9 by rw [← hV]; exact hh.below ((Below.refl _ _).drew))
        clear hh SR
        go_wp2_with fail
        refine wp_region_held_drew (S := AllHeld w.heap.size A n c wk cp b4 o4 p0 p1 p2 p3 p4) (by kernel_rfl) ?_ (fun hHeld => ?_)
        · rw [hV]; exact HV.out
        change wpAnyH _ _ opsA6 _ _ 13 (#[false, false, false, false, false, false, false, false, false, false, false, false, false] : Array Bool) _ _
        rw [hV] at hHeld ⊢
        clear hV HV
        refine regY tA6_e_0 (.agg #[.slice A n c, .int .i64 wk, .int .i64 cp]) (fun W hSw => by unfold qA6_0; obtain ⟨g0, g1, g2, e0, e1, e2, e3, e4⟩ := hSw; go_simp) hHeld ?_
        try simp only [pt, List.set]
        refine regY tA6_0_1 (.slice A3 m3 c3) (fun W hSw => by unfold qA6_1; go_simp) hHeld ?_
        try simp only [pt, List.set]
        refine regY tA6_01_2 (.slice (some ⟨b4, o4, none⟩) m4 c4) (fun W hSw => by unfold qA6_2; go_simp) hHeld ?_
        try simp only [pt, List.set]
        refine regY tA6_012_3 (.pointer (some ⟨b4, o4, none⟩)) (fun W hSw => by unfold qA6_3; go_simp) hHeld ?_
        try simp only [pt, List.set]
        refine regY tA6_0123_4 (.agg #[.int .i64 p0, .int .i64 p1, .int .i64 p2, .int .i64 p3, .int .i64 p4]) (fun W hSw => by unfold qA6_4; obtain ⟨g0, g1, g2, e0, e1, e2, e3, e4⟩ := hSw; go_simp) hHeld ?_
        try simp only [pt, List.set]
        refine cA6_01234_5 (fun K hK => ?_)
        rw [if_pos (by rfl)]
        unfold qA6_5
        go_simp
        refine (specStep_any gs wk cp A n c HL.out HO.out hn cs A3 m3 c3 HC3.out (own_nil SV.out.s) (own_capS SV.out.s) (by omega) p0 p1 p2 p3 p4 V9 SV.out.nds SV.out.ces).mono ?_
        rintro e w5 ⟨A5, c5, m5, A6, c6, m6, hm5, hm6, rfl, hs5, hr6, hb⟩
        rw [HSG.out] at hm5 hm6 hs5 hr6 ⊢
        have HM5 := Lib.hid (show cs2.length = m5 from hm5)
        have HM6 := Lib.hid (show out.length = m6 from hm6)
        have S5 := Lib.hid (show w5.ownsRow V9.heap.size 75 4 (.slice A5 m5 c5) m5 (ceCells cs2) from hs5)
        obtain ⟨A6x, c6x, h6, r6⟩ := row_of hr6
        simp only [Value.slice.injEq, true_and] at h6
        obtain ⟨rfl, rfl⟩ := h6
        have R6 := Lib.hid (show Row w5 V9.heap.size w5.heap.size 31 5 A6 m6 c6 (rcCells out) from r6)
        have T5 := Lib.hid (SV.out.fresh hb)
        have HU := hHeld.below hb
        have sz5 := hb.size
        clear hm5 hm6 hs5 hr6 r6 hb
        refine Shut.out hK _ _ ?_ (fun hHeld => ?_)
        · exact HU
        clear hK K
        refine regY tA6_012345_6 (.tuple #[.slice A5 m5 c5, .slice A6 m6 c6, .bool ok]) (fun W hSw => by unfold qA6_6; go_simp) hHeld ?_
        try simp only [pt, List.set]
        refine regY tA6_0123456_7 (.slice A5 m5 c5) (fun W hSw => by unfold qA6_7; go_simp) hHeld ?_
        try simp only [pt, List.set]
        refine regY tA6_01234567_8 (.slice A6 m6 c6) (fun W hSw => by unfold qA6_8; go_simp) hHeld ?_
        try simp only [pt, List.set]
        refine regY tA6_012345678_9 (.bool ok) (fun W hSw => by unfold qA6_9; go_simp) hHeld ?_
        try simp only [pt, List.set]
        refine regY tA6_0123456789_10 (.slice A5 m5 c5) (fun W hSw => by unfold qA6_10; go_simp) hHeld ?_
        try simp only [pt, List.set]
        refine regY tA6_0123456789_10_11 (.slice A6 m6 c6) (fun W hSw => by unfold qA6_11; go_simp) hHeld ?_
        try simp only [pt, List.set]
        refine regY tA6_0123456789_10_11_12 (.bool ok) (fun W hSw => by unfold qA6_12; go_simp) hHeld ?_
        try simp only [pt, List.set]
        refine wpAnyH_done (by kernel_rfl) ?_ _
        clear hHeld
        have wz9 : w.heap.size ≤ V9.heap.size := SV.out.bel.size
        clear HU SV
        have wz5 : w.heap.size ≤ w5.heap.size := T5.out.bel.size
        have HRL := Lib.hid (show rs.length = m4 - 1 by have h := HC4.out; rw [List.length_cons] at h; omega)
        have hm6 : m6 ≤ 2 := by rw [← HM6.out]; exact lo
        have hm5 : m5 ≤ m3 + 1 := by rw [← HM5.out]; exact lc
        obtain ⟨U, hU⟩ : ∃ u, w5.alloc (.cells #[] 31) = u := ⟨_, rfl⟩
        have bU : Below w5.heap.size w5 U := by rw [← hU]; exact (Below.refl _ _).alloc (Nat.le_refl _) _
        have szU : w5.heap.size ≤ U.heap.size := by rw [← hU]; simp
        have LIT := Lib.hid (show U.ownsRow w5.heap.size 31 5 (.slice (some ⟨w5.heap.size, 0, none⟩) 0 0) 0 (rcCells []) by rw [← hU]; exact World.ownsRow_lit (base := w5.heap.size) (e := 31) (size := 5) w5 #[] 0 (Nat.le_refl _) (by decide) (by rfl))
        have S6 := Lib.hid (own_below S5.out bU)
        have R7 := Lib.hid (R6.out.below bU)
        have T6 := Lib.hid (T5.out.fresh bU)
        have gsz := T6.out.g.lt
        clear bU S5 R6 T5
        obtain ⟨T, qT, hTn, hD⟩ := slice_fromR (some ⟨b4, o4, none⟩) m4 c4 1 (by omega) (own_capS T6.out.r) (fun h => by cases h)
        replace qT : ∀ w, (Instr.slice 34 (.slice (some ⟨b4, o4, none⟩) m4 c4) (some (.int .i64 1)) none none).run Try.prog w = .ok (.slice T (m4 - 1) (c4 - 1)) w := qT
        have HTN := Lib.hid hTn
        have DD := Lib.hid (hD U ((p0, (p1, p2), p3, p4) :: rs) HC4.out T6.out.rcs)
        clear hTn hD
        go_wp2_with (at_builtin; refine wpList_append_rc rfl (.tmp 42) (.tmp 44) (by rfl) w5.heap.size (.slice (some ⟨w5.heap.size, 0, none⟩) 0 0) 0 [] (by rfl) LIT.out T (m4 - 1) (c4 - 1) rs (by rfl) HTN.out (by have := HC4.out; simp at this; omega) DD.out (by omega) (by omega) ?_; intro v7 w7 own gr; generalize hG : wpList _ _ _ _ _ _ = GG)
        clear qT hU
        rw [Nat.zero_add, List.nil_append] at own
        have S7 := Lib.hid (S6.out.kept gr (own_types S6.out LIT.out (by decide)))
        have R8 := Lib.hid (show w7.ownsRow V9.heap.size 31 5 (.slice A6 m6 c6) m6 (rcCells out) from R7.out.own.kept gr (by
          cases hv : (Value.slice A6 m6 c6).ownBlock with
          | none => exact .inl rfl
          | some g => refine .inr fun e => ?_; have h2 := R7.out.lt g hv; simp only [Value.ownBlock, Option.some.injEq] at e; omega))
        have G7 := Lib.hid (T6.out.g.grown gr (Ne.symm (own_type LIT.out T6.out.g (by decide))))
        have Z7 := Lib.hid (T6.out.bel.grown gr T6.out.bel.size (fun g hg => by simp only [Value.ownBlock, Option.some.injEq] at hg; have := T6.out.bel.size; have := T6.out.wlt; omega))
        have L7 := Lib.hid own
        have sz7 := gr.size
        have hn6 := own_nil R8.out
        have HN6 := Lib.hid hn6
        obtain ⟨A6y, c6y, h6, hl6, hq6⟩ := Rcs.of_own R8.out
        simp only [Value.slice.injEq, true_and] at h6
        obtain ⟨rfl, rfl⟩ := h6
        have Q6 := Lib.hid hq6
        clear own gr S6 R7 T6 LIT DD HTN hq6 hl6 hn6
        subst hG
        go_wp2_with (at_builtin; refine wpList_append_rc rfl (.tmp 45) (.tmp 46) (by rfl) w5.heap.size v7 (m4 - 1) rs (by rfl) L7.out A6 m6 c6 out (by rfl) HN6.out HM6.out Q6.out (by omega) (by omega) ?_; intro v8 w8 own gr; generalize hG : wpList _ _ _ _ _ _ = GG)
        obtain ⟨A8, c8, rfl, hf8⟩ := own_form own
        have N8 := Lib.hid (show AllSt w w8 gs wk cp A n c A5 m5 c5 cs2 A8 (m4 - 1 + m6) c8 (rs ++ out) from ⟨own_base (S7.out.kept gr (own_types S7.out L7.out (by decide))) (by omega), own_base own (by omega), G7.out.grown gr (Ne.symm (own_type L7.out G7.out (by decide))), Z7.out.grown gr Z7.out.size (fun g hg => by have := own_ge L7.out g hg; omega), S0.out⟩)
        clear own gr hf8 S7 R8 G7 Z7 L7 HN6 Q6
        subst hG
        go_wp2
        go_roundw
        case rel => first | exact ⟨j + 1, cs2, rs ++ out, A5, m5, c5, A8, m4 - 1 + m6, c8, by go_num, by omega, rfl, rfl, HM5.out, by rw [List.length_append, HM6.out, HRL.out], by omega, by omega, NX.out, N8.out⟩ | ((repeat apply Exists.intro); refine ⟨?_, rfl⟩; exact ⟨j + 1, cs2, rs ++ out, A5, m5, c5, A8, m4 - 1 + m6, c8, by go_num, by omega, rfl, rfl, HM5.out, by rw [List.length_append, HM6.out, HRL.out], by omega, by omega, NX.out, N8.out⟩)
        case measure => simp [intOf]; omega
    · obtain rfl : j = K := by omega
      have HE := Lib.hid (show allG gs wk cp ces rcs mo = ((cs, rs), j) by rw [HQ.out]; exact AT.out.full)
      have dl : decide (j < j) = false := by simp
      clear hlt
      go_wp2
      exact bodyPost_ret (v := .tuple #[.slice A3 m3 c3, .slice A4 m4 c4, .int .i64 (j : Int)]) (by simp [results, Try.results17, go_sem]) rfl (SR.out.done HC3.out HC4.out HE.out)
end Go.Proofs.Ytlanmkimaambgaa.hexes

