/-
  The program's OutsOnly: the contract of impl.OutsOnly.
-/
import Derived.Test.YtbbagpnjjjohpaaJ36
import Derived.Test.YtbbagpnjjjohpaaJ18

namespace Go.Proofs.Ytbbagpnjjjohpaa.hexes
open Go.RowKit

set_option maxRecDepth 1000000 in
set_option maxHeartbeats 16000000 in
theorem implOnly_any (gs : List Nd) (wk cp : Int) (A : Option Addr) (n c : Nat) (hl : gs.length = n) (ho : ∀ x ∈ gs, x.2.2.2.length ≤ 1048576) (hn : n ≤ 1048576) (ces : List Ce) (A2 : Option Addr) (n2 c2 : Nat) (hl2 : ces.length = n2) (hn2 : n2 ≤ 2000000) (w : World) (h : Nds w A gs) (h2 : Ces w A2 ces) :
    Calls Try.prog 27 #[.agg #[.slice A n c, .int .i64 wk, .int .i64 cp], .slice A2 n2 c2] w (CesOut w (outsC gs ces)) := by
  have HL := Lib.hid hl
  have HO := Lib.hid ho
  have H2L := Lib.hid hl2
  have S0 := Lib.hid h
  have H2 := Lib.hid h2
  clear hl ho hl2 h h2
  obtain ⟨V, hW⟩ : ∃ z, ((w.alloc (.cells #[.slice A n c, .int .i64 wk, .int .i64 cp] 26)).alloc (.cells #[] 38)) = z := ⟨_, rfl⟩
  have hb : Below w.heap.size w V := by rw [← hW]; exact (((Below.refl _ _).alloc (by first | (simp; done) | (simp; omega) | omega) _).alloc (by first | (simp; done) | (simp; omega) | omega) _)
  have az : V.heap.size = w.heap.size + 2 := by rw [← hW]; simp
  have NG := Lib.hid (show Blk V (w.heap.size) 26 #[.slice A n c, .int .i64 wk, .int .i64 cp] by rw [← hW]; exact ((Below.heap_alloc _ _ _ (by first | (simp; done) | (simp; omega))).trans (Blk.new _ _ _)))
  have NE := Lib.hid (show Blk V (w.heap.size + 1) 38 #[] by rw [← hW]; exact ((show w.heap.size + 1 = ((w.alloc _)).heap.size by simp) ▸ Blk.new _ _ _))
  have AZV := Lib.hid az
  clear az
  have sz1 := hb.size
  have B1 := Lib.hid (hb)
  clear hb
  have G_1 := NG
  clear NG
  have ltG : w.heap.size < V.heap.size := G_1.out.lt
  have E_1 := NE
  clear NE
  have ltE : w.heap.size + 1 < V.heap.size := E_1.out.lt
  have L0 := Lib.hid (show OutSt w V gs wk cp A n c (some ⟨w.heap.size + 1, 0, none⟩) 0 0 [] from ⟨Wce.empty _ _ _ _, G_1.out, B1.out, S0.out⟩)
  go_enter Try.func27, Try.ntmps27
  go_wp2_with fail
  clear hW
  go_loopw [5, 13] (fun v i wr => ∃ (j : Nat) (AL : Option Addr) (m4 cL : Nat) (out : List Ce), j ≤ n2 ∧ i = .int .i64 (j : Int) ∧ v = .slice AL m4 cL ∧ m4 ≤ j ∧ outsC gs (ces.take j) = out ∧ OutSt w wr gs wk cp A n c AL m4 cL out) (fun _ i _ => n2 - (intOf i).toNat)
  case atStart => exact ⟨0, _, 0, 0, [], Nat.zero_le _, rfl, rfl, Nat.le_refl _, rfl, L0.out⟩
  case round =>
    obtain ⟨j, AL, m4, cL, out, hj, rfl, rfl, hmj, hout, hS⟩ := hrel
    have SR := Lib.hid hS
    have HU := Lib.hid hout
    clear hS hout
    by_cases hlt : j < n2
    · have lj : j < ces.length := by rw [H2L.out]; exact hlt
      obtain ⟨bx, ox, p0, p1, p2, p3, rfl, hz, e0, e1, e2, e3⟩ := (H2.out.below SR.out.bel).at lj
      have i0 : (0 : Int) ≤ (j : Int) := by omega
      have i1 : (j : Int) < (n2 : Int) := by omega
      obtain ⟨⟨k, a, b, zs⟩, hx⟩ : ∃ x, nodeAt gs p0 = x := ⟨_, rfl⟩
      obtain ⟨m, hm⟩ : ∃ m, zs.length = m := ⟨_, rfl⟩
      obtain ⟨q, hq⟩ : ∃ q, hasB gs p0 = q := ⟨_, rfl⟩
      have SX := Lib.hid (show outsC gs (ces.take (j + 1)) = out ++ (if (q && decide (k = 8)) = true then [(p0, p1, p2, p3)] else []) by rw [outs_step lj, HU.out, hz]; unfold outC; rw [hq, hx])
      have HX := Lib.hid hx
      have HM := Lib.hid hm
      have HQ := Lib.hid hq
      clear hz hx hm hq lj HU
      obtain ⟨U, hU⟩ : ∃ z, wr.alloc (.cells #[.int .i64 p0, .int .i64 p1, .int .i64 p2, .int .i64 p3] 38) = z := ⟨_, rfl⟩
      have bU : Below wr.heap.size wr U := by rw [← hU]; exact (Below.refl _ _).alloc (Nat.le_refl _) _
      have XU := Lib.hid (show Blk U wr.heap.size 38 #[.int .i64 p0, .int .i64 p1, .int .i64 p2, .int .i64 p3] by rw [← hU]; exact Blk.new _ _ _)
      have SU := Lib.hid (SR.out.fresh bU)
      clear bU SR
      have x0 : U.cell? ⟨wr.heap.size, 0, none⟩ = some (.int .i64 p0) := by rw [XU.out.cell]; rfl
      have g0 : U.cell? ⟨w.heap.size, 0, none⟩ = some (.slice A n c) := by rw [SU.out.g.cell]; rfl
      have g1 : U.cell? ⟨w.heap.size, 1, none⟩ = some (.int .i64 wk) := by rw [SU.out.g.cell]; rfl
      have g2 : U.cell? ⟨w.heap.size, 2, none⟩ = some (.int .i64 cp) := by rw [SU.out.g.cell]; rfl
      go_wp2_with fail
      clear x0 g0 g1 g2 e0 e1 e2 e3 hU
      refine (implNodeOf_row HX.out HM.out HQ.out wk cp A n c HL.out HO.out hn _ SU.out.nds).mono ?_
      rintro e w5 ⟨An, cn, rfl, rZ, bq⟩
      clear rZ
      have S5 := Lib.hid (SU.out.fresh bq)
      have X5 := Lib.hid (XU.out.below bq)
      clear bq SU XU
      obtain ⟨w7, hU⟩ : ∃ z, w5.alloc (.cells #[.int .i64 k, .int .i64 a, .int .i64 b, .slice An m cn] 46) = z := ⟨_, rfl⟩
      have bU : Below w5.heap.size w5 w7 := by rw [← hU]; exact (Below.refl _ _).alloc (Nat.le_refl _) _
      have K7 := Lib.hid (show Blk w7 w5.heap.size 46 #[.int .i64 k, .int .i64 a, .int .i64 b, .slice An m cn] by rw [← hU]; exact Blk.new _ _ _)
      have T7 := Lib.hid (S5.out.fresh bU)
      have X7 := Lib.hid (X5.out.below bU)
      clear bU S5 X5
      have xk : w7.cell? ⟨w5.heap.size, 0, none⟩ = some (.int .i64 k) := by rw [K7.out.cell]; rfl
      cases q with
      | false =>
        have ST2 := Lib.hid (show outsC gs (ces.take (j + 1)) = out by rw [SX.out]; simp)
        go_wp2_with fail
        go_roundw
        case rel => exact ⟨j + 1, AL, m4, cL, out, by omega, by go_num, rfl, by omega, ST2.out, T7.out⟩
        case measure => simp [intOf]; omega
      | true =>
        by_cases k8 : k = 8
        · have dk : (k == 8) = true := by simpa using k8
          have ST2 := Lib.hid (show outsC gs (ces.take (j + 1)) = out ++ [(p0, p1, p2, p3)] by rw [SX.out]; simp [k8])
          clear k8
          have d0 : w7.cell? ⟨wr.heap.size, 0, none⟩ = some (.int .i64 p0) := by rw [X7.out.cell]; rfl
          have d1 : w7.cell? ⟨wr.heap.size, 1, none⟩ = some (.int .i64 p1) := by rw [X7.out.cell]; rfl
          have d2 : w7.cell? ⟨wr.heap.size, 2, none⟩ = some (.int .i64 p2) := by rw [X7.out.cell]; rfl
          have d3 : w7.cell? ⟨wr.heap.size, 3, none⟩ = some (.int .i64 p3) := by rw [X7.out.cell]; rfl
          obtain ⟨U8, hU8⟩ : ∃ z, w7.alloc (.cells #[.int .i64 p0, .int .i64 p1, .int .i64 p2, .int .i64 p3] 38) = z := ⟨_, rfl⟩
          have hbU : Below w7.heap.size w7 U8 := by rw [← hU8]; exact (Below.refl _ _).alloc (Nat.le_refl _) _
          have NU := Lib.hid (show Ces U8 (some ⟨w7.heap.size, 0, none⟩) [(p0, p1, p2, p3)] by rw [← hU8]; exact ce_new _ _ _ _ _)
          have SU := Lib.hid (T7.out.fresh hbU)
          clear hbU
          go_wp2_with (at_builtin; refine wpList_append_wce rfl (.tmp 30) (.tmp 32) (by rfl) (by rfl) SU.out.l (some ⟨w7.heap.size, 0, none⟩) 1 1 [(p0, p1, p2, p3)] (by rfl) (fun h => by cases h) rfl NU.out (by omega) SU.out.bel.size ?_; intro A8 c8 w8 own8 gr8 ha8; generalize hG : wpList _ _ _ _ _ _ = GG)
          have N8 := Lib.hid (show OutSt w w8 gs wk cp A n c A8 (m4 + 1) c8 (out ++ [(p0, p1, p2, p3)]) from ⟨own8, gr8.blk SU.out.g (by decide), gr8.bel SU.out.bel (Nat.le_refl _), SU.out.n0⟩)
          clear own8 gr8 ha8 SU NU T7 K7 X7 hU hU8 d0 d1 d2 d3 xk
          subst hG
          go_wp2
          go_roundw
          case rel => exact ⟨j + 1, A8, m4 + 1, c8, _, by omega, by go_num, rfl, by omega, ST2.out, N8.out⟩
          case measure => simp [intOf]; omega
        · have dk : (k == 8) = false := by simpa using k8
          have ST2 := Lib.hid (show outsC gs (ces.take (j + 1)) = out by rw [SX.out]; simp [k8])
          clear k8
          go_wp2_with fail
          go_roundw
          case rel => exact ⟨j + 1, AL, m4, cL, out, by omega, by go_num, rfl, by omega, ST2.out, T7.out⟩
          case measure => simp [intOf]; omega
    · obtain rfl : j = n2 := by omega
      have HE := Lib.hid (show outsC gs ces = out by rw [← HU.out, List.take_of_length_le (Nat.le_of_eq H2L.out)])
      have dl : decide (j < j) = false := by simp
      clear hlt
      go_wp2
      go_ret
      exact ⟨AL, cL, m4, by rw [HE.out]; exact SR.out.l.1, rfl, by rw [HE.out]; exact SR.out.l, SR.out.bel⟩
end Go.Proofs.Ytbbagpnjjjohpaa.hexes

