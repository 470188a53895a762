/-
  The program's StepAll: the contract of impl.StepAll.
-/
import Derived.Test.YtlanmkimaambgaaS26
import Derived.Test.YtlanmkimaambgaaS7
import Derived.Test.YtlanmkimaambgaaS31
import Derived.Test.YtlanmkimaambgaaS33
import Derived.Lib.SliceRun

namespace Go.Proofs.Ytlanmkimaambgaa.hexes
open Go.RowKit

set_option maxRecDepth 100000 in
theorem slice_fromW (A : Option Addr) (n c k : Nat) (h : k ≤ n) (_hc : n ≤ c) : ∃ T, (∀ w, (Instr.slice 34 (.slice A n c) (some (.int .i64 (k : Int))) none none).run Try.prog w = .ok (.slice T (n - k) (c - k)) w) ∧ ∀ g o, A = some ⟨g, o, none⟩ → k < c → T = some ⟨g, o + k * 5, none⟩ := by
  refine ⟨if c = k then A else A.map (·.add (k * 5)), fun w => ?_, fun g o hA hk => ?_⟩
  · have hs : (sizeOf (Try.prog.elem 34)).run Try.prog w = .ok 5 w := rfl
    rw [run_slice_l (P := Try.prog) w 34 A n c Try.underlying34 .i64 (k : Int) (by omega) (by omega), hs]
    simp [Result.andThen, sliced]
  · rw [hA, if_neg (by omega)]
    simp only [Option.map_some]
    rw [addr_add1]

/-- How the program's StepAll ends: the records lie somewhere in a block of its own. -/
def AllEndW (w : World) (q : (List Ce × List Rc) × Nat) (e : Ending) (w' : World) : Prop :=
  ∃ (A3 : Option Addr) (c3 m3 : Nat) (A4 : Option Addr) (c4 m4 : Nat), q.1.1.length = m3 ∧ q.1.2.length = m4 ∧ e = .returned (.tuple #[.slice A3 m3 c3, .slice A4 m4 c4, .int .i64 (q.2 : Int)]) ∧ w'.ownsRow w.heap.size 75 4 (.slice A3 m3 c3) m3 (ceCells q.1.1) ∧ Win w' w.heap.size w'.heap.size A4 m4 c4 q.1.2 ∧ Below w.heap.size w w'
theorem AllEndW.rows {w w' : World} {q : (List Ce × List Rc) × Nat} {e : Ending} (h : AllEndW w q e w') {us : List Ce} {out : List Rc} {nn : Nat} {m3 m4 : Nat} (hq : q = ((us, out), nn)) (h3 : us.length = m3) (h4 : out.length = m4) :
    ∃ A3 c3 A4 c4, e = .returned (.tuple #[.slice A3 m3 c3, .slice A4 m4 c4, .int .i64 (nn : Int)]) ∧ Row w' w.heap.size w'.heap.size 75 4 A3 m3 c3 (ceCells us) ∧ Win w' w.heap.size w'.heap.size A4 m4 c4 out ∧ Below w.heap.size w w' := by
  subst hq
  obtain ⟨A3, c3, n3, A4, c4, n4, l3, l4, rfl, o3, o4, hb⟩ := h
  have e3 : n3 = m3 := l3.symm.trans h3
  have e4 : n4 = m4 := l4.symm.trans h4
  subst e3 e4
  obtain ⟨B3, d3, q3, r3⟩ := row_of o3
  simp only [Value.slice.injEq, true_and] at q3
  obtain ⟨rfl, rfl⟩ := q3
  exact ⟨A3, c3, A4, c4, rfl, r3, o4, hb⟩

/-- What the program's StepAll keeps from round to round. -/
structure AllStW (w wr : World) (gs : List Nd) (wk cp : Int) (A : Option Addr) (n c : Nat) (A3 : Option Addr) (m3 c3 : Nat) (cs : List Ce) (A4 : Option Addr) (m4 c4 : Nat) (rs : List Rc) : Prop where
  s : wr.ownsRow w.heap.size 75 4 (.slice A3 m3 c3) m3 (ceCells cs)
  r : Win wr w.heap.size wr.heap.size A4 m4 c4 rs
  g : Blk wr w.heap.size 26 #[.slice A n c, .int .i64 wk, .int .i64 cp]
  bel : Below w.heap.size w wr
  n0 : Nds w A gs
section
variable {w wr w' : World} {gs : List Nd} {wk cp : Int} {A : Option Addr} {n c : Nat} {A3 : Option Addr} {m3 c3 : Nat} {cs : List Ce} {A4 : Option Addr} {m4 c4 : Nat} {rs : List Rc}
theorem AllStW.fresh (h : AllStW w wr gs wk cp A n c A3 m3 c3 cs A4 m4 c4 rs) (hb : Below wr.heap.size wr w') : AllStW w w' gs wk cp A n c A3 m3 c3 cs A4 m4 c4 rs :=
  ⟨own_below h.s hb, (h.r.below hb).bounds (Nat.le_refl _) hb.size, h.g.below hb, below_chain h.bel hb, h.n0⟩
theorem AllStW.nds (h : AllStW w wr gs wk cp A n c A3 m3 c3 cs A4 m4 c4 rs) : Nds wr A gs := h.n0.below h.bel
theorem AllStW.ces (h : AllStW w wr gs wk cp A n c A3 m3 c3 cs A4 m4 c4 rs) : Ces wr A3 cs := by
  obtain ⟨A', c', he, _, hs⟩ := Ces.of_own h.s
  simp only [Value.slice.injEq, true_and] at he
  obtain ⟨rfl, rfl⟩ := he
  exact hs
theorem AllStW.done (h : AllStW w wr gs wk cp A n c A3 m3 c3 cs A4 m4 c4 rs) (h3 : cs.length = m3) (h4 : rs.length = m4) {q : (List Ce × List Rc) × Nat} {j : Nat} (hq : q = ((cs, rs), j)) : AllEndW w q (.returned (.tuple #[.slice A3 m3 c3, .slice A4 m4 c4, .int .i64 (j : Int)])) wr := by
  subst hq
  exact ⟨A3, c3, m3, A4, c4, m4, h3, h4, rfl, h.s, h.r, h.bel⟩
end
/-- What a round's call reads. -/
structure AllHeldW (g : Nat) (A : Option Addr) (n c : Nat) (wk cp : Int) (b4 o4 : Nat) (p0 p1 p2 p3 p4 : Int) (w : World) : Prop where
  g0 : w.cell? ⟨g, 0, none⟩ = some (.slice A n c)
  g1 : w.cell? ⟨g, 1, none⟩ = some (.int .i64 wk)
  g2 : w.cell? ⟨g, 2, none⟩ = some (.int .i64 cp)
  e0 : w.cell? ⟨b4, o4, none⟩ = some (.int .i64 p0)
  e1 : w.cell? ⟨b4, o4 + 1, none⟩ = some (.int .i64 p1)
  e2 : w.cell? ⟨b4, o4 + 2, none⟩ = some (.int .i64 p2)
  e3 : w.cell? ⟨b4, o4 + 3, none⟩ = some (.int .i64 p3)
  e4 : w.cell? ⟨b4, o4 + 4, none⟩ = some (.int .i64 p4)
theorem AllHeldW.below {g : Nat} {A : Option Addr} {n c : Nat} {wk cp : Int} {b4 o4 : Nat} {p0 p1 p2 p3 p4 : Int} {w w' : World} (h : AllHeldW g A n c wk cp b4 o4 p0 p1 p2 p3 p4 w) (hb : Below w.heap.size w w') : AllHeldW g A n c wk cp b4 o4 p0 p1 p2 p3 p4 w' :=
  ⟨below_keep hb h.g0, below_keep hb h.g1, below_keep hb h.g2, below_keep hb h.e0, below_keep hb h.e1, below_keep hb h.e2, below_keep hb h.e3, below_keep hb h.e4⟩
theorem AllStW.held {w wr : World} {gs : List Nd} {wk cp : Int} {A : Option Addr} {n c : Nat} {A3 : Option Addr} {m3 c3 : Nat} {cs : List Ce} {A4 : Option Addr} {m4 c4 : Nat} {rs : List Rc} {p0 p1 p2 p3 p4 : Int} (h : AllStW w wr gs wk cp A n c A3 m3 c3 cs A4 m4 c4 ((p0, (p1, p2), p3, p4) :: rs)) : ∃ b4 o4, A4 = some ⟨b4, o4, none⟩ ∧ AllHeldW w.heap.size A n c wk cp b4 o4 p0 p1 p2 p3 p4 wr := by
  obtain ⟨b4, o4, q0, q1, q2, q3, q4, hA, hq, h0, h1, h2, h3, h4⟩ := h.r.rc.at (k := 0) (by simp)
  simp only [List.getElem_cons_zero, Prod.mk.injEq] at hq
  obtain ⟨rfl, ⟨rfl, rfl⟩, rfl, rfl⟩ := hq
  simp only [Nat.zero_mul, Nat.add_zero] at h0 h1 h2 h3 h4
  exact ⟨b4, o4, hA, by rw [h.g.cell]; rfl, by rw [h.g.cell]; rfl, by rw [h.g.cell]; rfl, h0, h1, h2, h3, h4⟩

set_option maxRecDepth 1000000 in
set_option maxHeartbeats 16000000 in
theorem implAll_any (gs : List Nd) (wk cp : Int) (A : Option Addr) (n c : Nat) (hl : gs.length = n) (ho : ∀ x ∈ gs, x.2.2.2.length ≤ 1048576) (hn : n ≤ 1048576) (ces : List Ce) (A2 : Option Addr) (n2 c2 : Nat) (hl2 : ces.length = n2) (hA2 : A2 = none → c2 = 0) (hn2 : n2 ≤ 1048576) (rcs : List Rc) (A1 : Option Addr) (n1 c1 : Nat) (hl1 : rcs.length = n1) (hA1 : A1 = none → c1 = 0) (hn1 : n1 ≤ 1048576) (mo : Int) (w : World) (h : Nds w A gs) (h2 : Ces w A2 ces) (h1 : Rcs w A1 rcs) :
    Calls Try.prog 16 #[.agg #[.slice A n c, .int .i64 wk, .int .i64 cp], .slice A2 n2 c2, .slice A1 n1 c1, .int .i64 mo] w (AllEndW w (allG gs wk cp ces rcs mo)) := by
  obtain ⟨q, hq⟩ : ∃ q, allG gs wk cp ces rcs mo = q := ⟨_, rfl⟩
  obtain ⟨K, hK⟩ : ∃ K : Nat, brought mo 0 100000 = (K : Int) ∧ K ≤ 100000 := ⟨(brought mo 0 100000).toNat, by have := brought_bd mo 0 100000 (by omega); omega⟩
  obtain ⟨hK, hKb⟩ := hK
  have AT0 := Lib.hid (show StepsAt gs wk cp K 0 q ces rcs by rw [← hq]; unfold allG; rw [hK, Int.toNat_natCast]; exact StepsAt.start _ _ _ _ _ _)
  have HQ := Lib.hid hq
  have HKB := Lib.hid hK
  have HL := Lib.hid hl
  have HO := Lib.hid ho
  have HL2 := Lib.hid hl2
  have HA2 := Lib.hid hA2
  have HL1 := Lib.hid hl1
  have HA1 := Lib.hid hA1
  have S0 := Lib.hid h
  have S2 := Lib.hid h2
  have S1 := Lib.hid h1
  clear hq hK hl ho hl2 hA2 hl1 hA1 h h2 h1
  obtain ⟨V, hW⟩ : ∃ z, w.alloc (.cells #[.slice A n c, .int .i64 wk, .int .i64 cp] 26) = z := ⟨_, rfl⟩
  have B1 := Lib.hid (show Below w.heap.size w V by rw [← hW]; exact (Below.refl _ _).alloc (Nat.le_refl _) _)
  have G1 := Lib.hid (show Blk V w.heap.size 26 #[.slice A n c, .int .i64 wk, .int .i64 cp] by rw [← hW]; exact Blk.new _ _ _)
  have szV : w.heap.size ≤ V.heap.size := by rw [← hW]; simp
  go_enter Try.func16, Try.ntmps16
  go_wp2_with fail
  clear hW
  refine (cloneCe_any n2 ces HL2.out A2 c2 HA2.out V (S2.out.below B1.out) (by omega)).mono ?_
  rintro e w2 ⟨vs, rfl, oS, hb⟩
  obtain ⟨As, cc, rfl, rS⟩ := row_of oS
  have B2 := Lib.hid (below_chain B1.out hb)
  have G2 := Lib.hid (G1.out.below hb)
  have sz2 := hb.size
  have S4 := Lib.hid (own_base rS.own szV)
  clear oS hb rS B1 G1
  go_wp2_with fail
  refine (cloneRc_any n1 rcs HL1.out A1 c1 HA1.out w2 (S1.out.below B2.out) (by omega)).mono ?_
  rintro e w3 ⟨vr, rfl, oR, hb⟩
  obtain ⟨Ar, cr, rfl, rR⟩ := row_of oR
  have I0 := Lib.hid (show AllStW w w3 gs wk cp A n c As n2 cc ces Ar n1 cr rcs from ⟨own_below S4.out hb, (Win.of_row rR).bounds (by omega) (Nat.le_refl _), G2.out.below hb, below_chain B2.out hb, S0.out⟩)
  clear oR rR hb B2 G2 S4
  go_wp2_with fail
  refine (brought_any mo 0 100000 w3).mono ?_
  rintro e w4 ⟨rfl, rfl⟩
  rw [HKB.out]
  go_wp2
  go_loopw [11, 12, 14] (fun t1 t2 i wr => ∃ (j : Nat) (cs : List Ce) (rs : List Rc) (A3 : Option Addr) (m3 c3 : Nat) (A4 : Option Addr) (m4 c4 : Nat), i = .int .i64 (j : Int) ∧ j ≤ K ∧ t1 = .slice A3 m3 c3 ∧ t2 = .slice A4 m4 c4 ∧ cs.length = m3 ∧ rs.length = m4 ∧ m3 ≤ n2 + j ∧ m4 ≤ n1 + 2 * j ∧ StepsAt gs wk cp K j q cs rs ∧ AllStW w wr gs wk cp A n c A3 m3 c3 cs A4 m4 c4 rs) (fun _ _ i _ => K - (intOf i).toNat)
  case atStart => exact ⟨0, ces, rcs, As, n2, cc, Ar, n1, cr, rfl, Nat.zero_le _, rfl, rfl, HL2.out, HL1.out, by omega, by omega, AT0.out, I0.out⟩
  case round =>
    obtain ⟨j, cs, rs, A3, m3, c3, A4, m4, c4, rfl, hj, rfl, rfl, h3, h4, b3, b4, hat, hst⟩ := hrel
    have HC3 := Lib.hid h3
    have HC4 := Lib.hid h4
    have AT := Lib.hid hat
    have SR := Lib.hid hst
    clear h3 h4 hat hst AT0 I0
    by_cases hlt : j < K
    · have i1 : (j : Int) < (K : Int) := by omega
      cases rs with
      | nil =>
        obtain rfl : m4 = 0 := by have := HC4.out; simp at this; omega
        have HE := Lib.hid (show allG gs wk cp ces rcs mo = ((cs, []), j) by rw [HQ.out]; exact AT.out.empty)
        go_wp2
        exact bodyPost_ret (v := .tuple #[.slice A3 m3 c3, .slice A4 0 c4, .int .i64 (j : Int)]) (by simp [results, Try.results16, go_sem]) rfl (SR.out.done HC3.out HC4.out HE.out)
      | cons r rs =>
        have hm4 : 0 < m4 := by have := HC4.out; simp at this; omega
        have qk : decide ((m4 : Int) > 0) = true := by simp; omega
        have i0 : (0 : Int) < (m4 : Int) := by omega
        obtain ⟨⟨⟨cs2, out⟩, ok⟩, hsg⟩ : ∃ p, stepGr gs wk cp cs r = p := ⟨_, rfl⟩
        have lc : cs2.length ≤ m3 + 1 := by have h := stepG_cells gs wk cp cs r; rw [hsg, HC3.out] at h; exact h
        have lo : out.length ≤ 2 := by have h := stepG_out gs wk cp cs r; rw [hsg] at h; exact h
        have NX := Lib.hid (show StepsAt gs wk cp K (j + 1) q cs2 (rs ++ out) by have h := AT.out.next hlt; rw [hsg] at h; exact h)
        obtain ⟨p0, ⟨p1, p2⟩, p3, p4⟩ := r
        have HSG := Lib.hid hsg
        clear hsg AT
        obtain ⟨b4, o4, rfl, hh⟩ := SR.out.held
        obtain ⟨V9, hV⟩ : ∃ v, wr.drew = v := ⟨_, rfl⟩
        have SV := Lib.hid (show AllStW w V9 gs wk cp A n c A3 m3 c3 cs (some ⟨b4, o4, none⟩) m4 c4 ((p0, (p1, p2), p3, p4) :: rs) by rw [← hV]; exact SR.out.fresh ((Below.refl _ _).drew))
        have HV := Lib.hid (show AllHeldW w.heap.size A n c wk cp b4 o4 p0 p1 p2 p3 p4 V9 by rw [← hV]; exact hh.below ((Below.refl _ _).drew))
        clear hh SR
        go_wp2_with fail
        refine wp_region_held_drew (S := AllHeldW w.heap.size A n c wk cp b4 o4 p0 p1 p2 p3 p4) (by kernel_rfl) ?_ (fun hHeld => ?_)
        · rw [hV]; exact HV.out
        change wpAnyH _ _ opsIA6 _ _ 12 (#[false, false, false, false, false, false, false, false, false, false, false, false] : Array Bool) _ _
        rw [hV] at hHeld ⊢
        clear hV HV
        refine regY tIA6_e_0 (.agg #[.slice A n c, .int .i64 wk, .int .i64 cp]) (fun W hSw => by unfold qIA6_0; obtain ⟨g0, g1, g2, e0, e1, e2, e3, e4⟩ := hSw; go_simp) hHeld ?_
        try simp only [pt, List.set]
        refine regY tIA6_0_1 (.slice A3 m3 c3) (fun W hSw => by unfold qIA6_1; go_simp) hHeld ?_
        try simp only [pt, List.set]
        refine regY tIA6_01_2 (.slice (some ⟨b4, o4, none⟩) m4 c4) (fun W hSw => by unfold qIA6_2; go_simp) hHeld ?_
        try simp only [pt, List.set]
        refine regY tIA6_012_3 (.pointer (some ⟨b4, o4, none⟩)) (fun W hSw => by unfold qIA6_3; go_simp) hHeld ?_
        try simp only [pt, List.set]
        refine regY tIA6_0123_4 (.agg #[.int .i64 p0, .int .i64 p1, .int .i64 p2, .int .i64 p3, .int .i64 p4]) (fun W hSw => by unfold qIA6_4; obtain ⟨g0, g1, g2, e0, e1, e2, e3, e4⟩ := hSw; go_simp) hHeld ?_
        try simp only [pt, List.set]
        refine cIA6_01234_5 (fun K hK => ?_)
        rw [if_pos (by rfl)]
        unfold qIA6_5
        go_simp
        refine (implStep_any gs wk cp A n c HL.out HO.out hn cs A3 m3 c3 HC3.out (own_nil SV.out.s) (own_capS SV.out.s) (by omega) p0 p1 p2 p3 p4 V9 SV.out.nds SV.out.ces).mono ?_
        rintro e w5 ⟨A5, c5, m5, A6, c6, m6, hm5, hm6, rfl, hs5, hr6, hb⟩
        rw [HSG.out] at hm5 hm6 hs5 hr6 ⊢
        have HM5 := Lib.hid (show cs2.length = m5 from hm5)
        have HM6 := Lib.hid (show out.length = m6 from hm6)
        have S5 := Lib.hid (show w5.ownsRow V9.heap.size 75 4 (.slice A5 m5 c5) m5 (ceCells cs2) from hs5)
        obtain ⟨A6x, c6x, h6, r6⟩ := row_of hr6
        simp only [Value.slice.injEq, true_and] at h6
        obtain ⟨rfl, rfl⟩ := h6
        have R6 := Lib.hid (show Row w5 V9.heap.size w5.heap.size 31 5 A6 m6 c6 (rcCells out) from r6)
        have T5 := Lib.hid (SV.out.fresh hb)
        have HU := hHeld.below hb
        have sz5 := hb.size
        clear hm5 hm6 hs5 hr6 r6 hb
        refine Shut.out hK _ _ ?_ (fun hHeld => ?_)
        · exact HU
        clear hK K
        refine regY tIA6_012345_6 (.tuple #[.slice A5 m5 c5, .slice A6 m6 c6, .bool ok]) (fun W hSw => by unfold qIA6_6; go_simp) hHeld ?_
        try simp only [pt, List.set]
        refine regY tIA6_0123456_7 (.slice A5 m5 c5) (fun W hSw => by unfold qIA6_7; go_simp) hHeld ?_
        try simp only [pt, List.set]
        refine regY tIA6_01234567_8 (.slice A6 m6 c6) (fun W hSw => by unfold qIA6_8; go_simp) hHeld ?_
        try simp only [pt, List.set]
        refine regY tIA6_012345678_9 (.bool ok) (fun W hSw => by unfold qIA6_9; go_simp) hHeld ?_
        try simp only [pt, List.set]
        refine regY tIA6_0123456789_10 (.slice A5 m5 c5) (fun W hSw => by unfold qIA6_10; go_simp) hHeld ?_
        try simp only [pt, List.set]
        refine regY tIA6_0123456789_10_11 (.slice A6 m6 c6) (fun W hSw => by unfold qIA6_11; go_simp) hHeld ?_
        try simp only [pt, List.set]
        refine wpAnyH_done (by kernel_rfl) ?_ _
        clear hHeld
        have wz9 : w.heap.size ≤ V9.heap.size := SV.out.bel.size
        clear HU SV
        have wz5 : w.heap.size ≤ w5.heap.size := T5.out.bel.size
        have HRL := Lib.hid (show rs.length = m4 - 1 by have h := HC4.out; rw [List.length_cons] at h; omega)
        have hm6 : m6 ≤ 2 := by rw [← HM6.out]; exact lo
        have hm5 : m5 ≤ m3 + 1 := by rw [← HM5.out]; exact lc
        obtain ⟨T, qT, hT⟩ := slice_fromW (some ⟨b4, o4, none⟩) m4 c4 1 (by omega) T5.out.r.cap
        replace qT : ∀ w, (Instr.slice 34 (.slice (some ⟨b4, o4, none⟩) m4 c4) (some (.int .i64 1)) none none).run Try.prog w = .ok (.slice T (m4 - 1) (c4 - 1)) w := qT
        have TW := Lib.hid (T5.out.r.tail (T := T) (fun g o hA h1 => hT g o hA h1))
        have hn6 := own_nil R6.out.own
        have HN6 := Lib.hid hn6
        obtain ⟨A6y, c6y, h6, hl6, hq6⟩ := Rcs.of_own R6.out.own
        simp only [Value.slice.injEq, true_and] at h6
        obtain ⟨rfl, rfl⟩ := h6
        have Q6 := Lib.hid hq6
        clear hT hq6 hl6 hn6
        go_wp2_with (at_builtin; refine wpList_append_win rfl (.tmp 41) (.tmp 42) (by rfl) (by rfl) TW.out A6 m6 c6 out (by rfl) HN6.out HM6.out Q6.out (by omega) (by omega) ?_; intro A8 c8 w8 own8 gr8; generalize hG : wpList _ _ _ _ _ _ = GG)
        have N8 := Lib.hid (show AllStW w w8 gs wk cp A n c A5 m5 c5 cs2 A8 (m4 - 1 + m6) c8 (rs ++ out) from ⟨own_base (gr8.kept S5.out (by decide)) (by omega), own8, gr8.blk T5.out.g (by decide), gr8.bel T5.out.bel (Nat.le_refl _), T5.out.n0⟩)
        clear own8 gr8 S5 R6 T5 TW HN6 Q6 qT
        subst hG
        go_wp2
        go_roundw
        case rel => first | exact ⟨j + 1, cs2, rs ++ out, A5, m5, c5, A8, m4 - 1 + m6, c8, by go_num, by omega, rfl, rfl, HM5.out, by rw [List.length_append, HM6.out, HRL.out], by omega, by omega, NX.out, N8.out⟩ | ((repeat apply Exists.intro); refine ⟨?_, rfl⟩; exact ⟨j + 1, cs2, rs ++ out, A5, m5, c5, A8, m4 - 1 + m6, c8, by go_num, by omega, rfl, rfl, HM5.out, by rw [List.length_append, HM6.out, HRL.out], by omega, by omega, NX.out, N8.out⟩)
        case measure => simp [intOf]; omega
    · obtain rfl : j = K := by omega
      have HE := Lib.hid (show allG gs wk cp ces rcs mo = ((cs, rs), j) by rw [HQ.out]; exact AT.out.full)
      have dl : decide (j < j) = false := by simp
      clear hlt
      go_wp2
      exact bodyPost_ret (v := .tuple #[.slice A3 m3 c3, .slice A4 m4 c4, .int .i64 (j : Int)]) (by simp [results, Try.results16, go_sem]) rfl (SR.out.done HC3.out HC4.out HE.out)
end Go.Proofs.Ytlanmkimaambgaa.hexes

