/-
  The program's Fixpoint: the contract of impl.Fixpoint.
  The program's OutsOnly: the contract of impl.OutsOnly.
  A statement of impl.ResultOf: its operations, and a theorem a step.
  A statement of spec.OutsOnly: its operations, and a theorem a step.
-/
import Derived.Test.YtbbagpnjjjohpaaK17
import Derived.Test.YtbbagpnjjjohpaaK25
import Derived.Test.YtbbagpnjjjohpaaK27
import Derived.Test.YtbbagpnjjjohpaaK5
import Derived.Test.YtbbagpnjjjohpaaK10

namespace Go.Proofs.Ytbbagpnjjjohpaa.hexes
open Go.RowKit

/-- What holds at Fixpoint's label. -/
def FixJ (w : World) (gs : List Nd) (wk cp : Int) (A : Option Addr) (n c : Nat) (ep : Int) (A1 : Option Addr) (n1 c1 : Nat) (q : List Ce) (a' : Act) (w' : World) : Prop :=
  ∃ (A3 : Option Addr) (m3 c3 : Nat) (best : List Ce) (A4 : Option Addr) (m4 c4 : Nat) (xs : List Ce) (u4 u5 u9 u10 u11 u12 u13 u14 u15 u16 u17 u18 u19 u20 u21 u22 u23 u24 u25 u26 u27 u28 u29 u30 u31 u32 u33 u34 u35 u36 u37 u38 u39 u40 u41 u42 : Value), a' = { tmps := #[.agg #[.slice A n c, .int .i64 wk, .int .i64 cp], .int .i64 ep, .slice A1 n1 c1, .pointer (some ⟨w.heap.size, 0, none⟩), u4, u5, .slice none 0 0, .slice A3 m3 c3, .slice A4 m4 c4, u9, u10, u11, u12, u13, u14, u15, u16, u17, u18, u19, u20, u21, u22, u23, u24, u25, u26, u27, u28, u29, u30, u31, u32, u33, u34, u35, u36, u37, u38, u39, u40, u41, u42], defers := [] } ∧ FixTo gs wk cp best xs q ∧ FixIn ep n1 best xs ∧ FixSt w w' gs wk cp A n c A3 m3 c3 best A4 m4 c4 xs
def fixMu (ep : Int) (a' : Act) (w' : World) : Nat := meas (readCe w' (a'.tmps.getD 7 undef)) ep (readCe w' (a'.tmps.getD 8 undef))
theorem fixMu_at (ep : Int) {t : Array Value} {d : List Deferred} {w' : World} {v7 v8 : Value} (h7 : t.getD 7 undef = v7) (h8 : t.getD 8 undef = v8) : fixMu ep { tmps := t, defers := d } w' = meas (readCe w' v7) ep (readCe w' v8) := by subst h7 h8; rfl

set_option maxRecDepth 1000000 in
set_option maxHeartbeats 8000000 in
theorem implFix_any (gs : List Nd) (wk cp : Int) (A : Option Addr) (n c : Nat) (hl : gs.length = n) (ho : ∀ x ∈ gs, x.2.2.2.length ≤ 1048576) (hn : n ≤ 1048576) (ep : Int) (rcs : List Rc) (A1 : Option Addr) (n1 c1 : Nat) (hl1 : rcs.length = n1) (hn1 : n1 ≤ 1048576) {q : List Ce} (hq : FixTo gs wk cp [] (startL ep rcs) q) (w : World) (h : Nds w A gs) (h1 : Rcs w A1 rcs) :
    Calls Try.prog 13 #[.agg #[.slice A n c, .int .i64 wk, .int .i64 cp], .int .i64 ep, .slice A1 n1 c1] w (CesOut w q) := by
  have HQ := Lib.hid hq
  have HL := Lib.hid hl
  have HO := Lib.hid ho
  have H1L := Lib.hid hl1
  have S0 := Lib.hid h
  have H1 := Lib.hid h1
  clear hq hl ho hl1 h h1
  obtain ⟨V0, hW⟩ : ∃ z, (w.alloc (.cells #[.slice A n c, .int .i64 wk, .int .i64 cp] 26)) = z := ⟨_, rfl⟩
  have hb : Below w.heap.size w V0 := by rw [← hW]; exact ((Below.refl _ _).alloc (by first | (simp; done) | (simp; omega) | omega) _)
  have az : V0.heap.size = w.heap.size + 1 := by rw [← hW]; simp
  have NG := Lib.hid (show Blk V0 (w.heap.size) 26 #[.slice A n c, .int .i64 wk, .int .i64 cp] by rw [← hW]; exact (Blk.new _ _ _))
  have AZV0 := Lib.hid az
  clear az
  have sz1 := hb.size
  have B1 := Lib.hid (hb)
  clear hb
  have G_1 := NG
  clear NG
  have ltG : w.heap.size < V0.heap.size := G_1.out.lt
  go_enter Try.func13, Try.ntmps13
  go_wp2_with fail
  refine wp_scope_once 0 (FixJ w gs wk cp A n c ep A1 n1 c1 q) (fixMu ep) rfl ?_ ?_
  · rintro a' wo ⟨A3, m3, c3, best, A4, m4, c4, xs, u4, u5, u9, u10, u11, u12, u13, u14, u15, u16, u17, u18, u19, u20, u21, u22, u23, u24, u25, u26, u27, u28, u29, u30, u31, u32, u33, u34, u35, u36, u37, u38, u39, u40, u41, u42, rfl, hft, hfi, hS⟩
    have TT := Lib.hid hft
    have II := Lib.hid hfi
    have SS := Lib.hid hS
    have ll := hfi.len
    have l3 : m3 ≤ 800000 := by rw [← hS.b.1]; exact ll.1
    have l4 : m4 ≤ 2648576 := by rw [← hS.l.1]; exact Nat.le_trans ll.2 (by omega)
    have ME := Lib.hid (show fixMu ep { tmps := #[.agg #[.slice A n c, .int .i64 wk, .int .i64 cp], .int .i64 ep, .slice A1 n1 c1, .pointer (some ⟨w.heap.size, 0, none⟩), u4, u5, .slice none 0 0, .slice A3 m3 c3, .slice A4 m4 c4, u9, u10, u11, u12, u13, u14, u15, u16, u17, u18, u19, u20, u21, u22, u23, u24, u25, u26, u27, u28, u29, u30, u31, u32, u33, u34, u35, u36, u37, u38, u39, u40, u41, u42], defers := [] } wo = meas best ep xs from hS.meas ep)
    rw [ME.out]
    clear hft hfi hS ll ME hW G_1 B1
    go_wp2_with fail
    go_loopw [7, 8, 20] (fun t7 t8 i wr => ∃ j : Nat, j ≤ m4 ∧ t7 = .slice A3 m3 c3 ∧ t8 = .slice A4 m4 c4 ∧ i = .int .i64 (j : Int) ∧ FixTo gs wk cp best (xs.drop j) q ∧ FixIn ep n1 best (xs.drop j) ∧ FixSt w wr gs wk cp A n c A3 m3 c3 best A4 m4 c4 xs) (fun _ _ i _ => m4 - (intOf i).toNat)
    case atStart => exact ⟨0, Nat.zero_le _, rfl, rfl, rfl, TT.out, II.out, SS.out⟩
    case round =>
      obtain ⟨j, hj, rfl, rfl, rfl, hft, hfi, hS⟩ := hrel
      have TJ := Lib.hid hft
      have IJ := Lib.hid hfi
      have SJ := Lib.hid hS
      clear hft hfi hS
      by_cases hlt : j < m4
      · have lj : j < xs.length := by rw [SJ.out.l.1]; exact hlt
        have i0 : (0 : Int) ≤ (j : Int) := by omega
        have i1 : (j : Int) < (m4 : Int) := by omega
        obtain ⟨b4, o4, p0, p1, p2, p3, hA4, hz, e0, e1, e2, e3⟩ := SJ.out.l.ce.at lj
        have hc4 : 0 < c4 := by have := SJ.out.l.cap; omega
        obtain ⟨b4', o4', hA4', hb4⟩ := SJ.out.l.lt hc4
        rw [hA4] at hA4'
        simp only [Option.some.injEq, Addr.mk.injEq, and_true] at hA4'
        obtain ⟨rfl, rfl⟩ := hA4'
        have HD := Lib.hid (show xs.drop j = (p0, p1, p2, p3) :: xs.drop (j + 1) by rw [List.drop_eq_getElem_cons lj, hz])
        obtain ⟨⟨next, more⟩, him⟩ : ∃ p, impG gs wk cp best (p0, p1, p2, p3) = p := ⟨_, rfl⟩
        obtain ⟨on, hon⟩ : ∃ b, (impB gs wk cp (p0, p1, p2, p3) && (recL best (p0, p1, p2, p3)).2) = b := ⟨_, rfl⟩
        have T2 := Lib.hid (show FixTo gs wk cp next (xs.drop (j + 1) ++ more) q by have h := TJ.out; rw [HD.out] at h; replace h := h.next; rw [him] at h; exact h)
        have I2 := Lib.hid (show FixIn ep n1 next (xs.drop (j + 1) ++ more) by have h := IJ.out; rw [HD.out] at h; replace h := h.next (gs := gs) (wk := wk) (cp := cp); rw [him] at h; exact h)
        have MS := Lib.hid (show meas next ep (xs.drop (j + 1) ++ more) < meas best ep xs by
          have h := IJ.out
          rw [HD.out] at h
          have h2 := meas_next (gs := gs) (wk := wk) (cp := cp) (best := best) (xs := xs.drop (j + 1)) (h.eps (p0, p1, p2, p3) (by simp))
          rw [him, ← HD.out] at h2
          have h3 : meas best ep (xs.drop j) ≤ meas best ep xs := by unfold meas; rw [List.length_drop]; omega
          exact Nat.lt_of_lt_of_le h2 h3)
        have lmo : more.length ≤ 2 := by have h := impG_more gs wk cp best (p0, p1, p2, p3); rw [him] at h; exact h
        have HOFF := Lib.hid (show on = false → next = best ∧ more = [] by
          intro e
          rw [e] at hon
          have h := him
          unfold impG at h
          rw [hon, if_neg (by simp)] at h
          simp only [Prod.mk.injEq] at h
          exact ⟨h.1.symm, h.2.symm⟩)
        have IV := Lib.hid (fun W hb h2 => implImv_any gs wk cp A n c HL.out HO.out hn best A3 m3 c3 SJ.out.b.1 SJ.out.b.nil SJ.out.b.cap (by omega) p0 p1 p2 p3 W (S0.out.below (show Below w.heap.size w W from hb)) h2)
        rw [him, hon] at IV
        clear him hon hz TJ IJ
        subst hA4
        obtain ⟨U, hU⟩ : ∃ z, wr.alloc (.cells #[.int .i64 p0, .int .i64 p1, .int .i64 p2, .int .i64 p3] 38) = z := ⟨_, rfl⟩
        have bU : Below wr.heap.size wr U := by rw [← hU]; exact (Below.refl _ _).alloc (Nat.le_refl _) _
        have XU := Lib.hid (show Blk U wr.heap.size 38 #[.int .i64 p0, .int .i64 p1, .int .i64 p2, .int .i64 p3] by rw [← hU]; exact Blk.new _ _ _)
        have SU := Lib.hid (SJ.out.fresh bU)
        have hbU : b4 < U.heap.size := Nat.lt_of_lt_of_le hb4 bU.size
        clear bU SJ
        have x0 : U.cell? ⟨wr.heap.size, 0, none⟩ = some (.int .i64 p0) := by rw [XU.out.cell]; rfl
        have x1 : U.cell? ⟨wr.heap.size, 1, none⟩ = some (.int .i64 p1) := by rw [XU.out.cell]; rfl
        have x2 : U.cell? ⟨wr.heap.size, 2, none⟩ = some (.int .i64 p2) := by rw [XU.out.cell]; rfl
        have x3 : U.cell? ⟨wr.heap.size, 3, none⟩ = some (.int .i64 p3) := by rw [XU.out.cell]; rfl
        have g0 : U.cell? ⟨w.heap.size, 0, none⟩ = some (.slice A n c) := by rw [SU.out.g.cell]; rfl
        have g1 : U.cell? ⟨w.heap.size, 1, none⟩ = some (.int .i64 wk) := by rw [SU.out.g.cell]; rfl
        have g2 : U.cell? ⟨w.heap.size, 2, none⟩ = some (.int .i64 cp) := by rw [SU.out.g.cell]; rfl
        go_wp2_with fail
        clear x0 x1 x2 x3 g0 g1 g2 e0 e1 e2 e3 hU XU
        refine (IV.out _ SU.out.bel SU.out.b.ce).mono ?_
        rintro e w5 ⟨A5, c5, m5, A6, c6, m6, hm5, hm6, rfl, hn5, hr6, _, bq⟩
        have M5 := Lib.hid (show next.length = m5 from hm5)
        have M6 := Lib.hid (show more.length = m6 from hm6)
        have N5 := Lib.hid (show Wce w5 _ _ A5 m5 c5 next from hn5)
        have R6 := Lib.hid (show Wce w5 _ _ A6 m6 c6 more from hr6)
        have T5 := Lib.hid (SU.out.fresh bq)
        have sz5 := bq.size
        have szU : w.heap.size ≤ U.heap.size := SU.out.bel.size
        clear hm5 hm6 hn5 hr6 bq IV SU
        cases on with
        | false =>
          obtain ⟨rfl, rfl⟩ := HOFF.out rfl
          have T3 := Lib.hid (show FixTo gs wk cp next (xs.drop (j + 1)) q by have h := T2.out; rwa [List.append_nil] at h)
          have I3 := Lib.hid (show FixIn ep n1 next (xs.drop (j + 1)) by have h := I2.out; rwa [List.append_nil] at h)
          clear T2 I2 MS HOFF N5 R6
          go_wp2_with fail
          go_roundw
          case rel => exact ⟨j + 1, by omega, rfl, rfl, by go_num, T3.out, I3.out, T5.out⟩
          case measure => simp [intOf]; omega
        | true =>
          have lm6 : m6 ≤ 2 := by rw [← M6.out]; exact lmo
          have lxs : (xs.drop (j + 1)).length = m4 - (j + 1) := by rw [List.length_drop]; have h := T5.out.l.1; omega
          obtain ⟨T, qT, hT, hT2⟩ := slice_fromC2 (some ⟨b4, o4, none⟩) m4 c4 (j + 1) (by omega)
          replace qT : ∀ w, (Instr.slice 30 (.slice (some ⟨b4, o4, none⟩) m4 c4) (some (.int .i64 ((j : Int) + 1))) none none).run Try.prog w = .ok (.slice T (m4 - (j + 1)) (c4 - (j + 1))) w := by
            intro w
            rw [show (j : Int) + 1 = ((j + 1 : Nat) : Int) by simp]
            exact qT w
          have TW := Lib.hid (T5.out.l.drop (j + 1) (by omega) hT)
          have HT2 := Lib.hid (hT2 b4 o4 rfl)
          clear hT hT2
          go_wp2_with (at_builtin; refine wpList_append_wce rfl (.tmp 38) (.tmp 39) (by rfl) (by rfl) TW.out A6 m6 c6 more (by rfl) R6.out.nil M6.out R6.out.ce (by omega) (by have := T5.out.bel.size; omega) ?_; intro A8 c8 w8 own gr ha; generalize hG : wpList _ _ _ _ _ _ = GG)
          have N8 := Lib.hid (show FixSt w w8 gs wk cp A n c A5 m5 c5 next A8 (m4 - (j + 1) + m6) c8 (xs.drop (j + 1) ++ more) from ⟨(N5.out.keptO gr (fun g o hA => by have := HT2.out g o hA; omega)).bounds szU gr.grow, own, gr.blk T5.out.g (by decide), gr.bel T5.out.bel (Nat.le_refl _), T5.out.n0⟩)
          clear own gr ha N5 R6 T5 TW qT
          subst hG
          go_wp2
          go_step3
          refine ⟨rfl, ⟨A5, m5, c5, next, A8, m4 - (j + 1) + m6, c8, xs.drop (j + 1) ++ more, _, _, _, _, _, _, _, _, _, _, _, _, _, _, _, _, _, _, _, _, _, _, _, _, _, _, _, _, _, _, _, _, _, _, _, _, rfl, T2.out, I2.out, N8.out⟩, ?_⟩
          rw [fixMu_at ep (v7 := .slice A5 m5 c5) (v8 := .slice A8 (m4 - (j + 1) + m6) c8) rfl rfl, N8.out.meas ep]
          exact MS.out
      · obtain rfl : j = m4 := by omega
        obtain rfl : q = best := by have h := TJ.out; rw [List.drop_eq_nil_of_le (Nat.le_of_eq SJ.out.l.1)] at h; exact h.nil
        have dl : decide (j < j) = false := by simp
        clear hlt
        go_wp2
        simp only [Exit.jump]
        go_ret
        exact ⟨A3, c3, m3, SJ.out.b.1, rfl, SJ.out.b, SJ.out.bel⟩
  · intro REST
    clear hW
    obtain ⟨V, hW⟩ : ∃ z, (V0.alloc (.cells #[] 38)) = z := ⟨_, rfl⟩
    have hb : Below V0.heap.size V0 V := by rw [← hW]; exact ((Below.refl _ _).alloc (by first | (simp; done) | (simp; omega) | omega) _)
    have az : V.heap.size = V0.heap.size + 1 := by rw [← hW]; simp
    have NE := Lib.hid (show Blk V (V0.heap.size) 38 #[] by rw [← hW]; exact (Blk.new _ _ _))
    have AZV := Lib.hid az
    clear az
    have sz2 := hb.size
    have B2 := Lib.hid (below_chain B1.out hb)
    have G_2 := Lib.hid (G_1.out.below hb)
    clear hb B1 G_1
    have E_2 := NE
    clear NE
    have ltE : V0.heap.size < V.heap.size := E_2.out.lt
    go_wp2_with fail
    clear hW
    refine (implIn_any ep rcs A1 n1 c1 H1L.out hn1 _ (H1.out.below B2.out)).mono ?_
    rintro e w5 ⟨A4, c4, m4, hm4, rfl, hr, hb⟩
    have N5 := Lib.hid (show FixSt w w5 gs wk cp A n c (some ⟨V0.heap.size, 0, none⟩) 0 0 [] A4 m4 c4 (startL ep rcs) from ⟨Wce.empty _ _ _ _, hr.bounds (by omega) (Nat.le_refl _), G_2.out.below hb, below_chain B2.out hb, S0.out⟩)
    clear hm4 hr hb
    go_wp2
    go_step3
    rename_i K hK
    change K _ _
    exact hK _ _ (REST _ _ ⟨_, 0, 0, [], A4, m4, c4, startL ep rcs, _, _, _, _, _, _, _, _, _, _, _, _, _, _, _, _, _, _, _, _, _, _, _, _, _, _, _, _, _, _, _, _, _, _, _, _, rfl, HQ.out, FixIn.start start_ep (by rw [← H1L.out]; exact start_len _ _), N5.out⟩)
end Go.Proofs.Ytbbagpnjjjohpaa.hexes

namespace Go.Proofs.Ytbbagpnjjjohpaa.hexes
open Go.RowKit

set_option maxRecDepth 1000000 in
set_option maxHeartbeats 16000000 in
theorem implOnly_any (gs : List Nd) (wk cp : Int) (A : Option Addr) (n c : Nat) (hl : gs.length = n) (ho : ∀ x ∈ gs, x.2.2.2.length ≤ 1048576) (hn : n ≤ 1048576) (ces : List Ce) (A2 : Option Addr) (n2 c2 : Nat) (hl2 : ces.length = n2) (hn2 : n2 ≤ 2000000) (w : World) (h : Nds w A gs) (h2 : Ces w A2 ces) :
    Calls Try.prog 27 #[.agg #[.slice A n c, .int .i64 wk, .int .i64 cp], .slice A2 n2 c2] w (CesOut w (outsC gs ces)) := by
  have HL := Lib.hid hl
  have HO := Lib.hid ho
  have H2L := Lib.hid hl2
  have S0 := Lib.hid h
  have H2 := Lib.hid h2
  clear hl ho hl2 h h2
  obtain ⟨V, hW⟩ : ∃ z, ((w.alloc (.cells #[.slice A n c, .int .i64 wk, .int .i64 cp] 26)).alloc (.cells #[] 38)) = z := ⟨_, rfl⟩
  have hb : Below w.heap.size w V := by rw [← hW]; exact (((Below.refl _ _).alloc (by first | (simp; done) | (simp; omega) | omega) _).alloc (by first | (simp; done) | (simp; omega) | omega) _)
  have az : V.heap.size = w.heap.size + 2 := by rw [← hW]; simp
  have NG := Lib.hid (show Blk V (w.heap.size) 26 #[.slice A n c, .int .i64 wk, .int .i64 cp] by rw [← hW]; exact ((Below.heap_alloc _ _ _ (by first | (simp; done) | (simp; omega))).trans (Blk.new _ _ _)))
  have NE := Lib.hid (show Blk V (w.heap.size + 1) 38 #[] by rw [← hW]; exact ((show w.heap.size + 1 = ((w.alloc _)).heap.size by simp) ▸ Blk.new _ _ _))
  have AZV := Lib.hid az
  clear az
  have sz1 := hb.size
  have B1 := Lib.hid (hb)
  clear hb
  have G_1 := NG
  clear NG
  have ltG : w.heap.size < V.heap.size := G_1.out.lt
  have E_1 := NE
  clear NE
  have ltE : w.heap.size + 1 < V.heap.size := E_1.out.lt
  have L0 := Lib.hid (show OutSt w V gs wk cp A n c (some ⟨w.heap.size + 1, 0, none⟩) 0 0 [] from ⟨Wce.empty _ _ _ _, G_1.out, B1.out, S0.out⟩)
  go_enter Try.func27, Try.ntmps27
  go_wp2_with fail
  clear hW
  go_loopw [5, 13] (fun v i wr => ∃ (j : Nat) (AL : Option Addr) (m4 cL : Nat) (out : List Ce), j ≤ n2 ∧ i = .int .i64 (j : Int) ∧ v = .slice AL m4 cL ∧ m4 ≤ j ∧ outsC gs (ces.take j) = out ∧ OutSt w wr gs wk cp A n c AL m4 cL out) (fun _ i _ => n2 - (intOf i).toNat)
  case atStart => exact ⟨0, _, 0, 0, [], Nat.zero_le _, rfl, rfl, Nat.le_refl _, rfl, L0.out⟩
  case round =>
    obtain ⟨j, AL, m4, cL, out, hj, rfl, rfl, hmj, hout, hS⟩ := hrel
    have SR := Lib.hid hS
    have HU := Lib.hid hout
    clear hS hout
    by_cases hlt : j < n2
    · have lj : j < ces.length := by rw [H2L.out]; exact hlt
      obtain ⟨bx, ox, p0, p1, p2, p3, rfl, hz, e0, e1, e2, e3⟩ := (H2.out.below SR.out.bel).at lj
      have i0 : (0 : Int) ≤ (j : Int) := by omega
      have i1 : (j : Int) < (n2 : Int) := by omega
      obtain ⟨⟨k, a, b, zs⟩, hx⟩ : ∃ x, nodeAt gs p0 = x := ⟨_, rfl⟩
      obtain ⟨m, hm⟩ : ∃ m, zs.length = m := ⟨_, rfl⟩
      obtain ⟨q, hq⟩ : ∃ q, hasB gs p0 = q := ⟨_, rfl⟩
      have SX := Lib.hid (show outsC gs (ces.take (j + 1)) = out ++ (if (q && decide (k = 8)) = true then [(p0, p1, p2, p3)] else []) by rw [outs_step lj, HU.out, hz]; unfold outC; rw [hq, hx])
      have HX := Lib.hid hx
      have HM := Lib.hid hm
      have HQ := Lib.hid hq
      clear hz hx hm hq lj HU
      obtain ⟨U, hU⟩ : ∃ z, wr.alloc (.cells #[.int .i64 p0, .int .i64 p1, .int .i64 p2, .int .i64 p3] 38) = z := ⟨_, rfl⟩
      have bU : Below wr.heap.size wr U := by rw [← hU]; exact (Below.refl _ _).alloc (Nat.le_refl _) _
      have XU := Lib.hid (show Blk U wr.heap.size 38 #[.int .i64 p0, .int .i64 p1, .int .i64 p2, .int .i64 p3] by rw [← hU]; exact Blk.new _ _ _)
      have SU := Lib.hid (SR.out.fresh bU)
      clear bU SR
      have x0 : U.cell? ⟨wr.heap.size, 0, none⟩ = some (.int .i64 p0) := by rw [XU.out.cell]; rfl
      have g0 : U.cell? ⟨w.heap.size, 0, none⟩ = some (.slice A n c) := by rw [SU.out.g.cell]; rfl
      have g1 : U.cell? ⟨w.heap.size, 1, none⟩ = some (.int .i64 wk) := by rw [SU.out.g.cell]; rfl
      have g2 : U.cell? ⟨w.heap.size, 2, none⟩ = some (.int .i64 cp) := by rw [SU.out.g.cell]; rfl
      go_wp2_with fail
      clear x0 g0 g1 g2 e0 e1 e2 e3 hU
      refine (implNodeOf_row HX.out HM.out HQ.out wk cp A n c HL.out HO.out hn _ SU.out.nds).mono ?_
      rintro e w5 ⟨An, cn, rfl, rZ, bq⟩
      clear rZ
      have S5 := Lib.hid (SU.out.fresh bq)
      have X5 := Lib.hid (XU.out.below bq)
      clear bq SU XU
      obtain ⟨w7, hU⟩ : ∃ z, w5.alloc (.cells #[.int .i64 k, .int .i64 a, .int .i64 b, .slice An m cn] 46) = z := ⟨_, rfl⟩
      have bU : Below w5.heap.size w5 w7 := by rw [← hU]; exact (Below.refl _ _).alloc (Nat.le_refl _) _
      have K7 := Lib.hid (show Blk w7 w5.heap.size 46 #[.int .i64 k, .int .i64 a, .int .i64 b, .slice An m cn] by rw [← hU]; exact Blk.new _ _ _)
      have T7 := Lib.hid (S5.out.fresh bU)
      have X7 := Lib.hid (X5.out.below bU)
      clear bU S5 X5
      have xk : w7.cell? ⟨w5.heap.size, 0, none⟩ = some (.int .i64 k) := by rw [K7.out.cell]; rfl
      cases q with
      | false =>
        have ST2 := Lib.hid (show outsC gs (ces.take (j + 1)) = out by rw [SX.out]; simp)
        go_wp2_with fail
        go_roundw
        case rel => exact ⟨j + 1, AL, m4, cL, out, by omega, by go_num, rfl, by omega, ST2.out, T7.out⟩
        case measure => simp [intOf]; omega
      | true =>
        by_cases k8 : k = 8
        · have dk : (k == 8) = true := by simpa using k8
          have ST2 := Lib.hid (show outsC gs (ces.take (j + 1)) = out ++ [(p0, p1, p2, p3)] by rw [SX.out]; simp [k8])
          clear k8
          have d0 : w7.cell? ⟨wr.heap.size, 0, none⟩ = some (.int .i64 p0) := by rw [X7.out.cell]; rfl
          have d1 : w7.cell? ⟨wr.heap.size, 1, none⟩ = some (.int .i64 p1) := by rw [X7.out.cell]; rfl
          have d2 : w7.cell? ⟨wr.heap.size, 2, none⟩ = some (.int .i64 p2) := by rw [X7.out.cell]; rfl
          have d3 : w7.cell? ⟨wr.heap.size, 3, none⟩ = some (.int .i64 p3) := by rw [X7.out.cell]; rfl
          obtain ⟨U8, hU8⟩ : ∃ z, w7.alloc (.cells #[.int .i64 p0, .int .i64 p1, .int .i64 p2, .int .i64 p3] 38) = z := ⟨_, rfl⟩
          have hbU : Below w7.heap.size w7 U8 := by rw [← hU8]; exact (Below.refl _ _).alloc (Nat.le_refl _) _
          have NU := Lib.hid (show Ces U8 (some ⟨w7.heap.size, 0, none⟩) [(p0, p1, p2, p3)] by rw [← hU8]; exact ce_new _ _ _ _ _)
          have SU := Lib.hid (T7.out.fresh hbU)
          clear hbU
          go_wp2_with (at_builtin; refine wpList_append_wce rfl (.tmp 30) (.tmp 32) (by rfl) (by rfl) SU.out.l (some ⟨w7.heap.size, 0, none⟩) 1 1 [(p0, p1, p2, p3)] (by rfl) (fun h => by cases h) rfl NU.out (by omega) SU.out.bel.size ?_; intro A8 c8 w8 own8 gr8 ha8; generalize hG : wpList _ _ _ _ _ _ = GG)
          have N8 := Lib.hid (show OutSt w w8 gs wk cp A n c A8 (m4 + 1) c8 (out ++ [(p0, p1, p2, p3)]) from ⟨own8, gr8.blk SU.out.g (by decide), gr8.bel SU.out.bel (Nat.le_refl _), SU.out.n0⟩)
          clear own8 gr8 ha8 SU NU T7 K7 X7 hU hU8 d0 d1 d2 d3 xk
          subst hG
          go_wp2
          go_roundw
          case rel => exact ⟨j + 1, A8, m4 + 1, c8, _, by omega, by go_num, rfl, by omega, ST2.out, N8.out⟩
          case measure => simp [intOf]; omega
        · have dk : (k == 8) = false := by simpa using k8
          have ST2 := Lib.hid (show outsC gs (ces.take (j + 1)) = out by rw [SX.out]; simp [k8])
          clear k8
          go_wp2_with fail
          go_roundw
          case rel => exact ⟨j + 1, AL, m4, cL, out, by omega, by go_num, rfl, by omega, ST2.out, T7.out⟩
          case measure => simp [intOf]; omega
    · obtain rfl : j = n2 := by omega
      have HE := Lib.hid (show outsC gs ces = out by rw [← HU.out, List.take_of_length_le (Nat.le_of_eq H2L.out)])
      have dl : decide (j < j) = false := by simp
      clear hlt
      go_wp2
      go_ret
      exact ⟨AL, cL, m4, by rw [HE.out]; exact SR.out.l.1, rfl, by rw [HE.out]; exact SR.out.l, SR.out.bel⟩
end Go.Proofs.Ytbbagpnjjjohpaa.hexes

namespace Go.Proofs.Ytbbagpnjjjohpaa.hexes
open Go.RowKit

def findR2F (n : Nat) : Code → Option Code
  | .region id ops d => if id = n then some (.region id ops d) else none
  | .seq a b => match findR2F n a with
    | some c => some c
    | none => findR2F n b
  | .block _ c => findR2F n c
  | .scope c => findR2F n c
  | .loop c => findR2F n c
  | .cond _ a b => match findR2F n a with
    | some c => some c
    | none => findR2F n b
  | _ => none
def opsOfR2F : Option Code → Array Oper
  | some (.region _ ops _) => ops
  | _ => #[]
noncomputable def opsR2F : Array Oper := opsOfR2F (Try.f16.body.bind (findR2F 1))
def schR2F : List Nat := [0, 1, 2, 3, 4, 5, 6]
def LR2F (k : Nat) : Array Bool := ((List.range 7).map fun i => (schR2F.take k).contains i).toArray
theorem noselR2F : Region.noSelect opsR2F = true := by kernel_rfl
def qR2F_0 : Oper := { dst := some 7, op := Op.load 26 (Operand.tmp 3), type := 26, pos := "l11_fixed.go:69", after := #[], guard := none }
theorem hR2F_0 : opsR2F[0]? = some qR2F_0 := by kernel_rfl
theorem lR2F_0 : (LR2F 0).setIfInBounds 0 true = LR2F 1 := by kernel_rfl
theorem tR2F_0 : RegT Try.prog opsR2F qR2F_0 (some 7) 6 (LR2F 0) (LR2F 1) := regT hR2F_0 rfl noselR2F (by kernel_rfl) (by kernel_rfl) lR2F_0
def qR2F_1 : Oper := { dst := some 8, op := Op.load 26 (Operand.tmp 3), type := 26, pos := "l11_fixed.go:69", after := #[], guard := none }
theorem hR2F_1 : opsR2F[1]? = some qR2F_1 := by kernel_rfl
theorem lR2F_1 : (LR2F 1).setIfInBounds 1 true = LR2F 2 := by kernel_rfl
theorem tR2F_1 : RegT Try.prog opsR2F qR2F_1 (some 8) 5 (LR2F 1) (LR2F 2) := regT hR2F_1 rfl noselR2F (by kernel_rfl) (by kernel_rfl) lR2F_1
def qR2F_2 : Oper := { dst := some 9, op := Op.move (Operand.tmp 1), type := 3, pos := "l11_fixed.go:69", after := #[], guard := none }
theorem hR2F_2 : opsR2F[2]? = some qR2F_2 := by kernel_rfl
theorem lR2F_2 : (LR2F 2).setIfInBounds 2 true = LR2F 3 := by kernel_rfl
theorem tR2F_2 : RegT Try.prog opsR2F qR2F_2 (some 9) 4 (LR2F 2) (LR2F 3) := regT hR2F_2 rfl noselR2F (by kernel_rfl) (by kernel_rfl) lR2F_2
def qR2F_3 : Oper := { dst := some 10, op := Op.move (Operand.tmp 2), type := 27, pos := "l11_fixed.go:69", after := #[], guard := none }
theorem hR2F_3 : opsR2F[3]? = some qR2F_3 := by kernel_rfl
theorem lR2F_3 : (LR2F 3).setIfInBounds 3 true = LR2F 4 := by kernel_rfl
theorem tR2F_3 : RegT Try.prog opsR2F qR2F_3 (some 10) 3 (LR2F 3) (LR2F 4) := regT hR2F_3 rfl noselR2F (by kernel_rfl) (by kernel_rfl) lR2F_3
def qR2F_4 : Oper := { dst := some 11, op := Op.call { callee := Callee.value (Operand.func 13), args := #[Operand.tmp 8, Operand.tmp 9, Operand.tmp 10], argTypes := #[26, 3, 27] }, type := 30, pos := "l11_fixed.go:69", after := #[{ on := 1, ground := Ground.data }, { on := 2, ground := Ground.data }, { on := 3, ground := Ground.data }], guard := none }
theorem hR2F_4 : opsR2F[4]? = some qR2F_4 := by kernel_rfl
theorem lR2F_4 : (LR2F 4).setIfInBounds 4 true = LR2F 5 := by kernel_rfl
theorem cR2F_4 : RegC Try.prog opsR2F qR2F_4 (some 11) 2 (LR2F 4) (LR2F 5) := regC hR2F_4 rfl (by kernel_rfl) lR2F_4
def qR2F_5 : Oper := { dst := some 12, op := Op.call { callee := Callee.value (Operand.func 27), args := #[Operand.tmp 7, Operand.tmp 11], argTypes := #[26, 30] }, type := 30, pos := "l11_fixed.go:69", after := #[{ on := 0, ground := Ground.data }, { on := 4, ground := Ground.data }, { on := 4, ground := Ground.chain }], guard := none }
theorem hR2F_5 : opsR2F[5]? = some qR2F_5 := by kernel_rfl
theorem lR2F_5 : (LR2F 5).setIfInBounds 5 true = LR2F 6 := by kernel_rfl
theorem cR2F_5 : RegC Try.prog opsR2F qR2F_5 (some 12) 1 (LR2F 5) (LR2F 6) := regC hR2F_5 rfl (by kernel_rfl) lR2F_5
def qR2F_6 : Oper := { dst := some 6, op := Op.assign (Operand.tmp 12), type := 30, pos := "l11_fixed.go:69", after := #[{ on := 5, ground := Ground.data }, { on := 5, ground := Ground.chain }, { on := 0, ground := Ground.phase }, { on := 1, ground := Ground.phase }, { on := 2, ground := Ground.phase }, { on := 3, ground := Ground.phase }, { on := 4, ground := Ground.phase }, { on := 5, ground := Ground.phase }], guard := none }
theorem hR2F_6 : opsR2F[6]? = some qR2F_6 := by kernel_rfl
theorem lR2F_6 : (LR2F 6).setIfInBounds 6 true = LR2F 7 := by kernel_rfl
theorem tR2F_6 : RegT Try.prog opsR2F qR2F_6 (some 6) 0 (LR2F 6) (LR2F 7) := regT hR2F_6 rfl noselR2F (by kernel_rfl) (by kernel_rfl) lR2F_6
end Go.Proofs.Ytbbagpnjjjohpaa.hexes

namespace Go.Proofs.Ytbbagpnjjjohpaa.hexes
open Go.RowKit

def findO5 (n : Nat) : Code → Option Code
  | .region id ops d => if id = n then some (.region id ops d) else none
  | .seq a b => match findO5 n a with
    | some c => some c
    | none => findO5 n b
  | .block _ c => findO5 n c
  | .scope c => findO5 n c
  | .loop c => findO5 n c
  | .cond _ a b => match findO5 n a with
    | some c => some c
    | none => findO5 n b
  | _ => none
def opsOfO5 : Option Code → Array Oper
  | some (.region _ ops _) => ops
  | _ => #[]
noncomputable def opsO5 : Array Oper := opsOfO5 (Try.f28.body.bind (findO5 5))
theorem noselO5 : Region.noSelect opsO5 = true := by kernel_rfl
def qO5_0 : Oper := { dst := some 17, op := Op.load 26 (Operand.tmp 2), type := 26, pos := "l11_fixed.go:43", after := #[], guard := none }
theorem hO5_0 : opsO5[0]? = some qO5_0 := by kernel_rfl
def qO5_1 : Oper := { dst := some 18, op := Op.move (Operand.tmp 1), type := 30, pos := "l11_fixed.go:43", after := #[], guard := none }
theorem hO5_1 : opsO5[1]? = some qO5_1 := by kernel_rfl
def qO5_2 : Oper := { dst := some 19, op := Op.move (Operand.tmp 6), type := 3, pos := "l11_fixed.go:43", after := #[], guard := none }
theorem hO5_2 : opsO5[2]? = some qO5_2 := by kernel_rfl
def qO5_3 : Oper := { dst := some 20, op := Op.indexAddr 30 (Operand.tmp 18) (Operand.tmp 19), type := 0, pos := "l11_fixed.go:43", after := #[{ on := 1, ground := Ground.data }, { on := 2, ground := Ground.data }], guard := none }
theorem hO5_3 : opsO5[3]? = some qO5_3 := by kernel_rfl
def qO5_4 : Oper := { dst := some 21, op := Op.fieldAddr 38 (Operand.tmp 20) 0, type := 0, pos := "l11_fixed.go:43", after := #[{ on := 3, ground := Ground.data }], guard := none }
theorem hO5_4 : opsO5[4]? = some qO5_4 := by kernel_rfl
def qO5_5 : Oper := { dst := some 22, op := Op.load 3 (Operand.tmp 21), type := 3, pos := "l11_fixed.go:43", after := #[{ on := 4, ground := Ground.data }], guard := none }
theorem hO5_5 : opsO5[5]? = some qO5_5 := by kernel_rfl
def qO5_6 : Oper := { dst := some 23, op := Op.call { callee := Callee.value (Operand.func 56), args := #[Operand.tmp 17, Operand.tmp 22], argTypes := #[26, 3] }, type := 87, pos := "l11_fixed.go:43", after := #[{ on := 0, ground := Ground.data }, { on := 5, ground := Ground.data }], guard := none }
theorem hO5_6 : opsO5[6]? = some qO5_6 := by kernel_rfl
def qO5_7 : Oper := { dst := some 16, op := Op.move (Operand.tmp 23), type := 87, pos := "l11_fixed.go:43", after := #[{ on := 6, ground := Ground.data }], guard := none }
theorem hO5_7 : opsO5[7]? = some qO5_7 := by kernel_rfl
def qO5_8 : Oper := { dst := some 24, op := Op.extract (Operand.tmp 16) 0, type := 46, pos := "l11_fixed.go:43", after := #[{ on := 7, ground := Ground.data }], guard := none }
theorem hO5_8 : opsO5[8]? = some qO5_8 := by kernel_rfl
def qO5_9 : Oper := { dst := some 25, op := Op.extract (Operand.tmp 16) 1, type := 4, pos := "l11_fixed.go:43", after := #[{ on := 7, ground := Ground.data }, { on := 11, ground := Ground.gcOnly Departure.lateStores }], guard := none }
theorem hO5_9 : opsO5[9]? = some qO5_9 := by kernel_rfl
def qO5_10 : Oper := { dst := some 7, op := Op.alloc 46, type := 0, pos := "l11_fixed.go:43", after := #[], guard := none }
theorem hO5_10 : opsO5[10]? = some qO5_10 := by kernel_rfl
def qO5_11 : Oper := { dst := none, op := Op.store 46 (Operand.tmp 7) (Operand.tmp 24), type := 0, pos := "l11_fixed.go:43", after := #[{ on := 10, ground := Ground.data }, { on := 8, ground := Ground.data }, { on := 6, ground := Ground.chain }, { on := 0, ground := Ground.phase }, { on := 1, ground := Ground.phase }, { on := 2, ground := Ground.phase }, { on := 3, ground := Ground.phase }, { on := 4, ground := Ground.phase }, { on := 5, ground := Ground.phase }, { on := 6, ground := Ground.phase }, { on := 7, ground := Ground.phase }, { on := 8, ground := Ground.phase }, { on := 9, ground := Ground.textOnly Departure.lateStores }, { on := 10, ground := Ground.phase }], guard := none }
theorem hO5_11 : opsO5[11]? = some qO5_11 := by kernel_rfl
def qO5_12 : Oper := { dst := some 8, op := Op.assign (Operand.tmp 25), type := 4, pos := "l11_fixed.go:43", after := #[{ on := 9, ground := Ground.data }, { on := 11, ground := Ground.chain }, { on := 0, ground := Ground.phase }, { on := 1, ground := Ground.phase }, { on := 2, ground := Ground.phase }, { on := 3, ground := Ground.phase }, { on := 4, ground := Ground.phase }, { on := 5, ground := Ground.phase }, { on := 6, ground := Ground.phase }, { on := 7, ground := Ground.phase }, { on := 8, ground := Ground.phase }, { on := 9, ground := Ground.phase }, { on := 10, ground := Ground.phase }, { on := 11, ground := Ground.phase }], guard := none }
theorem hO5_12 : opsO5[12]? = some qO5_12 := by kernel_rfl
theorem tO5_e_0 : RegT Try.prog opsO5 qO5_0 (some 17) 12 (#[false, false, false, false, false, false, false, false, false, false, false, false, false] : Array Bool) (#[true, false, false, false, false, false, false, false, false, false, false, false, false] : Array Bool) := regT hO5_0 rfl noselO5 (by kernel_rfl) (by kernel_rfl) (by kernel_rfl)
theorem tO5_0_1 : RegT Try.prog opsO5 qO5_1 (some 18) 11 (#[true, false, false, false, false, false, false, false, false, false, false, false, false] : Array Bool) (#[true, true, false, false, false, false, false, false, false, false, false, false, false] : Array Bool) := regT hO5_1 rfl noselO5 (by kernel_rfl) (by kernel_rfl) (by kernel_rfl)
theorem tO5_01_2 : RegT Try.prog opsO5 qO5_2 (some 19) 10 (#[true, true, false, false, false, false, false, false, false, false, false, false, false] : Array Bool) (#[true, true, true, false, false, false, false, false, false, false, false, false, false] : Array Bool) := regT hO5_2 rfl noselO5 (by kernel_rfl) (by kernel_rfl) (by kernel_rfl)
theorem tO5_012_3 : RegT Try.prog opsO5 qO5_3 (some 20) 9 (#[true, true, true, false, false, false, false, false, false, false, false, false, false] : Array Bool) (#[true, true, true, true, false, false, false, false, false, false, false, false, false] : Array Bool) := regT hO5_3 rfl noselO5 (by kernel_rfl) (by kernel_rfl) (by kernel_rfl)
theorem tO5_0123_4 : RegT Try.prog opsO5 qO5_4 (some 21) 8 (#[true, true, true, true, false, false, false, false, false, false, false, false, false] : Array Bool) (#[true, true, true, true, true, false, false, false, false, false, false, false, false] : Array Bool) := regT hO5_4 rfl noselO5 (by kernel_rfl) (by kernel_rfl) (by kernel_rfl)
theorem tO5_01234_5 : RegT Try.prog opsO5 qO5_5 (some 22) 7 (#[true, true, true, true, true, false, false, false, false, false, false, false, false] : Array Bool) (#[true, true, true, true, true, true, false, false, false, false, false, false, false] : Array Bool) := regT hO5_5 rfl noselO5 (by kernel_rfl) (by kernel_rfl) (by kernel_rfl)
theorem tO5_0123456_7 : RegT Try.prog opsO5 qO5_7 (some 16) 5 (#[true, true, true, true, true, true, true, false, false, false, false, false, false] : Array Bool) (#[true, true, true, true, true, true, true, true, false, false, false, false, false] : Array Bool) := regT hO5_7 rfl noselO5 (by kernel_rfl) (by kernel_rfl) (by kernel_rfl)
theorem tO5_01234567_8 : RegT Try.prog opsO5 qO5_8 (some 24) 4 (#[true, true, true, true, true, true, true, true, false, false, false, false, false] : Array Bool) (#[true, true, true, true, true, true, true, true, true, false, false, false, false] : Array Bool) := regT hO5_8 rfl noselO5 (by kernel_rfl) (by kernel_rfl) (by kernel_rfl)
theorem tO5_012345678_9 : RegT Try.prog opsO5 qO5_9 (some 25) 3 (#[true, true, true, true, true, true, true, true, true, false, false, false, false] : Array Bool) (#[true, true, true, true, true, true, true, true, true, true, false, false, false] : Array Bool) := regT hO5_9 rfl noselO5 (by kernel_rfl) (by kernel_rfl) (by kernel_rfl)
theorem tO5_0123456789_10_11_12 : RegT Try.prog opsO5 qO5_12 (some 8) 0 (#[true, true, true, true, true, true, true, true, true, true, true, true, false] : Array Bool) (#[true, true, true, true, true, true, true, true, true, true, true, true, true] : Array Bool) := regT hO5_12 rfl noselO5 (by kernel_rfl) (by kernel_rfl) (by kernel_rfl)
theorem cO5_0123456789_10__11 : RegC Try.prog opsO5 qO5_11 (none) 1 (#[true, true, true, true, true, true, true, true, true, true, true, false, false] : Array Bool) (#[true, true, true, true, true, true, true, true, true, true, true, true, false] : Array Bool) := regC hO5_11 rfl (by kernel_rfl) (by kernel_rfl)
theorem cO5_0123456789__10 : RegC Try.prog opsO5 qO5_10 (some 7) 2 (#[true, true, true, true, true, true, true, true, true, true, false, false, false] : Array Bool) (#[true, true, true, true, true, true, true, true, true, true, true, false, false] : Array Bool) := regC hO5_10 rfl (by kernel_rfl) (by kernel_rfl)
theorem tO5_0123456_10_7 : RegT Try.prog opsO5 qO5_7 (some 16) 4 (#[true, true, true, true, true, true, true, false, false, false, true, false, false] : Array Bool) (#[true, true, true, true, true, true, true, true, false, false, true, false, false] : Array Bool) := regT hO5_7 rfl noselO5 (by kernel_rfl) (by kernel_rfl) (by kernel_rfl)
theorem tO5_01234567_10_8 : RegT Try.prog opsO5 qO5_8 (some 24) 3 (#[true, true, true, true, true, true, true, true, false, false, true, false, false] : Array Bool) (#[true, true, true, true, true, true, true, true, true, false, true, false, false] : Array Bool) := regT hO5_8 rfl noselO5 (by kernel_rfl) (by kernel_rfl) (by kernel_rfl)
theorem tO5_012345678_10_9 : RegT Try.prog opsO5 qO5_9 (some 25) 2 (#[true, true, true, true, true, true, true, true, true, false, true, false, false] : Array Bool) (#[true, true, true, true, true, true, true, true, true, true, true, false, false] : Array Bool) := regT hO5_9 rfl noselO5 (by kernel_rfl) (by kernel_rfl) (by kernel_rfl)
theorem cO5_012345_10_6 : RegC Try.prog opsO5 qO5_6 (some 23) 5 (#[true, true, true, true, true, true, false, false, false, false, true, false, false] : Array Bool) (#[true, true, true, true, true, true, true, false, false, false, true, false, false] : Array Bool) := regC hO5_6 rfl (by kernel_rfl) (by kernel_rfl)
set_option maxRecDepth 100000 in
theorem cO5_012345_6_10 {Q : Exit → Act → World → Prop} {S : World → Prop} {a : Act} {w : World}
    (h6 : ∀ K' : Act → World → Prop, Shut (∀ a w, S w → (S w → wpAnyH Try.prog .any opsO5 Q S 6 (#[true, true, true, true, true, true, true, false, false, false, false, false, false] : Array Bool) a w) → K' a w) → if Region.wanted qO5_6 (yielded opsO5 a.tmps) = true then Oper.wp Try.prog qO5_6 a w K' Q else K' (a.put (some 23) undef) w)
    (h10 : ∀ K' : Act → World → Prop, Shut (∀ a w, S w → (S w → wpAnyH Try.prog .any opsO5 Q S 6 (#[true, true, true, true, true, true, false, false, false, false, true, false, false] : Array Bool) a w) → K' a w) → if Region.wanted qO5_10 (yielded opsO5 a.tmps) = true then Oper.wp Try.prog qO5_10 a w K' Q else K' (a.put (some 7) undef) w) :
    wpAnyH Try.prog .any opsO5 Q S 7 (#[true, true, true, true, true, true, false, false, false, false, false, false, false] : Array Bool) a w :=
  wpAnyH_ready (rs := [6, 10]) (by kernel_rfl) (by simp) (AllReadyH.cons hO5_6 (fun K' hK => h6 K' ((show (#[true, true, true, true, true, true, false, false, false, false, false, false, false] : Array Bool).setIfInBounds 6 true = (#[true, true, true, true, true, true, true, false, false, false, false, false, false] : Array Bool) by kernel_rfl) ▸ hK)) (AllReadyH.cons hO5_10 (fun K' hK => h10 K' ((show (#[true, true, true, true, true, true, false, false, false, false, false, false, false] : Array Bool).setIfInBounds 10 true = (#[true, true, true, true, true, true, false, false, false, false, true, false, false] : Array Bool) by kernel_rfl) ▸ hK)) AllReadyH.nil))
end Go.Proofs.Ytbbagpnjjjohpaa.hexes

