/-
  The program's Fixpoint: the contract of impl.Fixpoint.
-/
import Derived.Test.YtbbagpnjjjohpaaJ30
import Derived.Test.YtbbagpnjjjohpaaJ40
import Derived.Test.YtbbagpnjjjohpaaJ27

namespace Go.Proofs.Ytbbagpnjjjohpaa.hexes
open Go.RowKit

/-- What holds at Fixpoint's label. -/
def FixJ (w : World) (gs : List Nd) (wk cp : Int) (A : Option Addr) (n c : Nat) (ep : Int) (A1 : Option Addr) (n1 c1 : Nat) (q : List Ce) (a' : Act) (w' : World) : Prop :=
  ∃ (A3 : Option Addr) (m3 c3 : Nat) (best : List Ce) (A4 : Option Addr) (m4 c4 : Nat) (xs : List Ce) (u4 u5 u9 u10 u11 u12 u13 u14 u15 u16 u17 u18 u19 u20 u21 u22 u23 u24 u25 u26 u27 u28 u29 u30 u31 u32 u33 u34 u35 u36 u37 u38 u39 u40 u41 u42 : Value), a' = { tmps := #[.agg #[.slice A n c, .int .i64 wk, .int .i64 cp], .int .i64 ep, .slice A1 n1 c1, .pointer (some ⟨w.heap.size, 0, none⟩), u4, u5, .slice none 0 0, .slice A3 m3 c3, .slice A4 m4 c4, u9, u10, u11, u12, u13, u14, u15, u16, u17, u18, u19, u20, u21, u22, u23, u24, u25, u26, u27, u28, u29, u30, u31, u32, u33, u34, u35, u36, u37, u38, u39, u40, u41, u42], defers := [] } ∧ FixTo gs wk cp best xs q ∧ FixIn ep n1 best xs ∧ FixSt w w' gs wk cp A n c A3 m3 c3 best A4 m4 c4 xs
def fixMu (ep : Int) (a' : Act) (w' : World) : Nat := meas (readCe w' (a'.tmps.getD 7 undef)) ep (readCe w' (a'.tmps.getD 8 undef))
theorem fixMu_at (ep : Int) {t : Array Value} {d : List Deferred} {w' : World} {v7 v8 : Value} (h7 : t.getD 7 undef = v7) (h8 : t.getD 8 undef = v8) : fixMu ep { tmps := t, defers := d } w' = meas (readCe w' v7) ep (readCe w' v8) := by subst h7 h8; rfl

set_option maxRecDepth 1000000 in
set_option maxHeartbeats 8000000 in
theorem implFix_any (gs : List Nd) (wk cp : Int) (A : Option Addr) (n c : Nat) (hl : gs.length = n) (ho : ∀ x ∈ gs, x.2.2.2.length ≤ 1048576) (hn : n ≤ 1048576) (ep : Int) (rcs : List Rc) (A1 : Option Addr) (n1 c1 : Nat) (hl1 : rcs.length = n1) (hn1 : n1 ≤ 1048576) {q : List Ce} (hq : FixTo gs wk cp [] (startL ep rcs) q) (w : World) (h : Nds w A gs) (h1 : Rcs w A1 rcs) :
    Calls Try.prog 13 #[.agg #[.slice A n c, .int .i64 wk, .int .i64 cp], .int .i64 ep, .slice A1 n1 c1] w (CesOut w q) := by
  have HQ := Lib.hid hq
  have HL := Lib.hid hl
  have HO := Lib.hid ho
  have H1L := Lib.hid hl1
  have S0 := Lib.hid h
  have H1 := Lib.hid h1
  clear hq hl ho hl1 h h1
  obtain ⟨V0, hW⟩ : ∃ z, (w.alloc (.cells #[.slice A n c, .int .i64 wk, .int .i64 cp] 26)) = z := ⟨_, rfl⟩
  have hb : Below w.heap.size w V0 := by rw [← hW]; exact ((Below.refl _ _).alloc (by first | (simp; done) | (simp; omega) | omega) _)
  have az : V0.heap.size = w.heap.size + 1 := by rw [← hW]; simp
  have NG := Lib.hid (show Blk V0 (w.heap.size) 26 #[.slice A n c, .int .i64 wk, .int .i64 cp] by rw [← hW]; exact (Blk.new _ _ _))
  have AZV0 := Lib.hid az
  clear az
  have sz1 := hb.size
  have B1 := Lib.hid (hb)
  clear hb
  have G_1 := NG
  clear NG
  have ltG : w.heap.size < V0.heap.size := G_1.out.lt
  go_enter Try.func13, Try.ntmps13
  go_wp2_with fail
  refine wp_scope_once 0 (FixJ w gs wk cp A n c ep A1 n1 c1 q) (fixMu ep) rfl ?_ ?_
  · rintro a' wo ⟨A3, m3, c3, best, A4, m4, c4, xs, u4, u5, u9, u10, u11, u12, u13, u14, u15, u16, u17, u18, u19, u20, u21, u22, u23, u24, u25, u26, u27, u28, u29, u30, u31, u32, u33, u34, u35, u36, u37, u38, u39, u40, u41, u42, rfl, hft, hfi, hS⟩
    have TT := Lib.hid hft
    have II := Lib.hid hfi
    have SS := Lib.hid hS
    have ll := hfi.len
    have l3 : m3 ≤ 800000 := by rw [← hS.b.1]; exact ll.1
    have l4 : m4 ≤ 2648576 := by rw [← hS.l.1]; exact Nat.le_trans ll.2 (by omega)
    have ME := Lib.hid (show fixMu ep { tmps := #[.agg #[.slice A n c, .int .i64 wk, .int .i64 cp], .int .i64 ep, .slice A1 n1 c1, .pointer (some ⟨w.heap.size, 0, none⟩), u4, u5, .slice none 0 0, .slice A3 m3 c3, .slice A4 m4 c4, u9, u10, u11, u12, u13, u14, u15, u16, u17, u18, u19, u20, u21, u22, u23, u24, u25, u26, u27, u28, u29, u30, u31, u32, u33, u34, u35, u36, u37, u38, u39, u40, u41, u42], defers := [] } wo = meas best ep xs from hS.meas ep)
    rw [ME.out]
    clear hft hfi hS ll ME hW G_1 B1
    go_wp2_with fail
    go_loopw [7, 8, 20] (fun t7 t8 i wr => ∃ j : Nat, j ≤ m4 ∧ t7 = .slice A3 m3 c3 ∧ t8 = .slice A4 m4 c4 ∧ i = .int .i64 (j : Int) ∧ FixTo gs wk cp best (xs.drop j) q ∧ FixIn ep n1 best (xs.drop j) ∧ FixSt w wr gs wk cp A n c A3 m3 c3 best A4 m4 c4 xs) (fun _ _ i _ => m4 - (intOf i).toNat)
    case atStart => exact ⟨0, Nat.zero_le _, rfl, rfl, rfl, TT.out, II.out, SS.out⟩
    case round =>
      obtain ⟨j, hj, rfl, rfl, rfl, hft, hfi, hS⟩ := hrel
      have TJ := Lib.hid hft
      have IJ := Lib.hid hfi
      have SJ := Lib.hid hS
      clear hft hfi hS
      by_cases hlt : j < m4
      · have lj : j < xs.length := by rw [SJ.out.l.1]; exact hlt
        have i0 : (0 : Int) ≤ (j : Int) := by omega
        have i1 : (j : Int) < (m4 : Int) := by omega
        obtain ⟨b4, o4, p0, p1, p2, p3, hA4, hz, e0, e1, e2, e3⟩ := SJ.out.l.ce.at lj
        have hc4 : 0 < c4 := by have := SJ.out.l.cap; omega
        obtain ⟨b4', o4', hA4', hb4⟩ := SJ.out.l.lt hc4
        rw [hA4] at hA4'
        simp only [Option.some.injEq, Addr.mk.injEq, and_true] at hA4'
        obtain ⟨rfl, rfl⟩ := hA4'
        have HD := Lib.hid (show xs.drop j = (p0, p1, p2, p3) :: xs.drop (j + 1) by rw [List.drop_eq_getElem_cons lj, hz])
        obtain ⟨⟨next, more⟩, him⟩ : ∃ p, impG gs wk cp best (p0, p1, p2, p3) = p := ⟨_, rfl⟩
        obtain ⟨on, hon⟩ : ∃ b, (impB gs wk cp (p0, p1, p2, p3) && (recL best (p0, p1, p2, p3)).2) = b := ⟨_, rfl⟩
        have T2 := Lib.hid (show FixTo gs wk cp next (xs.drop (j + 1) ++ more) q by have h := TJ.out; rw [HD.out] at h; replace h := h.next; rw [him] at h; exact h)
        have I2 := Lib.hid (show FixIn ep n1 next (xs.drop (j + 1) ++ more) by have h := IJ.out; rw [HD.out] at h; replace h := h.next (gs := gs) (wk := wk) (cp := cp); rw [him] at h; exact h)
        have MS := Lib.hid (show meas next ep (xs.drop (j + 1) ++ more) < meas best ep xs by
          have h := IJ.out
          rw [HD.out] at h
          have h2 := meas_next (gs := gs) (wk := wk) (cp := cp) (best := best) (xs := xs.drop (j + 1)) (h.eps (p0, p1, p2, p3) (by simp))
          rw [him, ← HD.out] at h2
          have h3 : meas best ep (xs.drop j) ≤ meas best ep xs := by unfold meas; rw [List.length_drop]; omega
          exact Nat.lt_of_lt_of_le h2 h3)
        have lmo : more.length ≤ 2 := by have h := impG_more gs wk cp best (p0, p1, p2, p3); rw [him] at h; exact h
        have HOFF := Lib.hid (show on = false → next = best ∧ more = [] by
          intro e
          rw [e] at hon
          have h := him
          unfold impG at h
          rw [hon, if_neg (by simp)] at h
          simp only [Prod.mk.injEq] at h
          exact ⟨h.1.symm, h.2.symm⟩)
        have IV := Lib.hid (fun W hb h2 => implImv_any gs wk cp A n c HL.out HO.out hn best A3 m3 c3 SJ.out.b.1 SJ.out.b.nil SJ.out.b.cap (by omega) p0 p1 p2 p3 W (S0.out.below (show Below w.heap.size w W from hb)) h2)
        rw [him, hon] at IV
        clear him hon hz TJ IJ
        subst hA4
        obtain ⟨U, hU⟩ : ∃ z, wr.alloc (.cells #[.int .i64 p0, .int .i64 p1, .int .i64 p2, .int .i64 p3] 38) = z := ⟨_, rfl⟩
        have bU : Below wr.heap.size wr U := by rw [← hU]; exact (Below.refl _ _).alloc (Nat.le_refl _) _
        have XU := Lib.hid (show Blk U wr.heap.size 38 #[.int .i64 p0, .int .i64 p1, .int .i64 p2, .int .i64 p3] by rw [← hU]; exact Blk.new _ _ _)
        have SU := Lib.hid (SJ.out.fresh bU)
        have hbU : b4 < U.heap.size := Nat.lt_of_lt_of_le hb4 bU.size
        clear bU SJ
        have x0 : U.cell? ⟨wr.heap.size, 0, none⟩ = some (.int .i64 p0) := by rw [XU.out.cell]; rfl
        have x1 : U.cell? ⟨wr.heap.size, 1, none⟩ = some (.int .i64 p1) := by rw [XU.out.cell]; rfl
        have x2 : U.cell? ⟨wr.heap.size, 2, none⟩ = some (.int .i64 p2) := by rw [XU.out.cell]; rfl
        have x3 : U.cell? ⟨wr.heap.size, 3, none⟩ = some (.int .i64 p3) := by rw [XU.out.cell]; rfl
        have g0 : U.cell? ⟨w.heap.size, 0, none⟩ = some (.slice A n c) := by rw [SU.out.g.cell]; rfl
        have g1 : U.cell? ⟨w.heap.size, 1, none⟩ = some (.int .i64 wk) := by rw [SU.out.g.cell]; rfl
        have g2 : U.cell? ⟨w.heap.size, 2, none⟩ = some (.int .i64 cp) := by rw [SU.out.g.cell]; rfl
        go_wp2_with fail
        clear x0 x1 x2 x3 g0 g1 g2 e0 e1 e2 e3 hU XU
        refine (IV.out _ SU.out.bel SU.out.b.ce).mono ?_
        rintro e w5 ⟨A5, c5, m5, A6, c6, m6, hm5, hm6, rfl, hn5, hr6, _, bq⟩
        have M5 := Lib.hid (show next.length = m5 from hm5)
        have M6 := Lib.hid (show more.length = m6 from hm6)
        have N5 := Lib.hid (show Wce w5 _ _ A5 m5 c5 next from hn5)
        have R6 := Lib.hid (show Wce w5 _ _ A6 m6 c6 more from hr6)
        have T5 := Lib.hid (SU.out.fresh bq)
        have sz5 := bq.size
        have szU : w.heap.size ≤ U.heap.size := SU.out.bel.size
        clear hm5 hm6 hn5 hr6 bq IV SU
        cases on with
        | false =>
          obtain ⟨rfl, rfl⟩ := HOFF.out rfl
          have T3 := Lib.hid (show FixTo gs wk cp next (xs.drop (j + 1)) q by have h := T2.out; rwa [List.append_nil] at h)
          have I3 := Lib.hid (show FixIn ep n1 next (xs.drop (j + 1)) by have h := I2.out; rwa [List.append_nil] at h)
          clear T2 I2 MS HOFF N5 R6
          go_wp2_with fail
          go_roundw
          case rel => exact ⟨j + 1, by omega, rfl, rfl, by go_num, T3.out, I3.out, T5.out⟩
          case measure => simp [intOf]; omega
        | true =>
          have lm6 : m6 ≤ 2 := by rw [← M6.out]; exact lmo
          have lxs : (xs.drop (j + 1)).length = m4 - (j + 1) := by rw [List.length_drop]; have h := T5.out.l.1; omega
          obtain ⟨T, qT, hT, hT2⟩ := slice_fromC2 (some ⟨b4, o4, none⟩) m4 c4 (j + 1) (by omega)
          replace qT : ∀ w, (Instr.slice 30 (.slice (some ⟨b4, o4, none⟩) m4 c4) (some (.int .i64 ((j : Int) + 1))) none none).run Try.prog w = .ok (.slice T (m4 - (j + 1)) (c4 - (j + 1))) w := by
            intro w
            rw [show (j : Int) + 1 = ((j + 1 : Nat) : Int) by simp]
            exact qT w
          have TW := Lib.hid (T5.out.l.drop (j + 1) (by omega) hT)
          have HT2 := Lib.hid (hT2 b4 o4 rfl)
          clear hT hT2
          go_wp2_with (at_builtin; refine wpList_append_wce rfl (.tmp 38) (.tmp 39) (by rfl) (by rfl) TW.out A6 m6 c6 more (by rfl) R6.out.nil M6.out R6.out.ce (by omega) (by have := T5.out.bel.size; omega) ?_; intro A8 c8 w8 own gr ha; generalize hG : wpList _ _ _ _ _ _ = GG)
          have N8 := Lib.hid (show FixSt w w8 gs wk cp A n c A5 m5 c5 next A8 (m4 - (j + 1) + m6) c8 (xs.drop (j + 1) ++ more) from ⟨(N5.out.keptO gr (fun g o hA => by have := HT2.out g o hA; omega)).bounds szU gr.grow, own, gr.blk T5.out.g (by decide), gr.bel T5.out.bel (Nat.le_refl _), T5.out.n0⟩)
          clear own gr ha N5 R6 T5 TW qT
          subst hG
          go_wp2
          go_step3
          refine ⟨rfl, ⟨A5, m5, c5, next, A8, m4 - (j + 1) + m6, c8, xs.drop (j + 1) ++ more, _, _, _, _, _, _, _, _, _, _, _, _, _, _, _, _, _, _, _, _, _, _, _, _, _, _, _, _, _, _, _, _, _, _, _, _, rfl, T2.out, I2.out, N8.out⟩, ?_⟩
          rw [fixMu_at ep (v7 := .slice A5 m5 c5) (v8 := .slice A8 (m4 - (j + 1) + m6) c8) rfl rfl, N8.out.meas ep]
          exact MS.out
      · obtain rfl : j = m4 := by omega
        obtain rfl : q = best := by have h := TJ.out; rw [List.drop_eq_nil_of_le (Nat.le_of_eq SJ.out.l.1)] at h; exact h.nil
        have dl : decide (j < j) = false := by simp
        clear hlt
        go_wp2
        simp only [Exit.jump]
        go_ret
        exact ⟨A3, c3, m3, SJ.out.b.1, rfl, SJ.out.b, SJ.out.bel⟩
  · intro REST
    clear hW
    obtain ⟨V, hW⟩ : ∃ z, (V0.alloc (.cells #[] 38)) = z := ⟨_, rfl⟩
    have hb : Below V0.heap.size V0 V := by rw [← hW]; exact ((Below.refl _ _).alloc (by first | (simp; done) | (simp; omega) | omega) _)
    have az : V.heap.size = V0.heap.size + 1 := by rw [← hW]; simp
    have NE := Lib.hid (show Blk V (V0.heap.size) 38 #[] by rw [← hW]; exact (Blk.new _ _ _))
    have AZV := Lib.hid az
    clear az
    have sz2 := hb.size
    have B2 := Lib.hid (below_chain B1.out hb)
    have G_2 := Lib.hid (G_1.out.below hb)
    clear hb B1 G_1
    have E_2 := NE
    clear NE
    have ltE : V0.heap.size < V.heap.size := E_2.out.lt
    go_wp2_with fail
    clear hW
    refine (implIn_any ep rcs A1 n1 c1 H1L.out hn1 _ (H1.out.below B2.out)).mono ?_
    rintro e w5 ⟨A4, c4, m4, hm4, rfl, hr, hb⟩
    have N5 := Lib.hid (show FixSt w w5 gs wk cp A n c (some ⟨V0.heap.size, 0, none⟩) 0 0 [] A4 m4 c4 (startL ep rcs) from ⟨Wce.empty _ _ _ _, hr.bounds (by omega) (Nat.le_refl _), G_2.out.below hb, below_chain B2.out hb, S0.out⟩)
    clear hm4 hr hb
    go_wp2
    go_step3
    rename_i K hK
    change K _ _
    exact hK _ _ (REST _ _ ⟨_, 0, 0, [], A4, m4, c4, startL ep rcs, _, _, _, _, _, _, _, _, _, _, _, _, _, _, _, _, _, _, _, _, _, _, _, _, _, _, _, _, _, _, _, _, _, _, _, _, rfl, HQ.out, FixIn.start start_ep (by rw [← H1L.out]; exact start_len _ _), N5.out⟩)
end Go.Proofs.Ytbbagpnjjjohpaa.hexes

