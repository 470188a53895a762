/-
  What an exact law does with a list of cells that lies somewhere in an owned block: compare, mark, hold.
  Records that came into a law: what its walk is told of them.
-/
import Derived.Test.YtbbagpnjjjohpaaJ17
import Derived.Test.YtbbagpnjjjohpaaJ42
import Derived.Test.YtbbagpnjjjohpaaJ8
import Derived.Test.YtbbagpnjjjohpaaJ14
import Derived.Deep.Slices
import Derived.ChangeSame
import Derived.OpenShut
import Derived.Lib.SmallJoins

namespace Go.Proofs.Ytbbagpnjjjohpaa.hexes
open Go.RowKit

/-- A store of one into an owned row, behind what lies ahead. -/
theorem own_storedW_ce {w : World} {base e g m cap K : Nat} {pre : List Value} {ys : List Ce} (h : w.ownsRow base e 4 (.slice (some ⟨g, 0, none⟩) m cap) m (pre ++ ceCells ys)) (hK : pre.length = K * 4) (k : Nat) (p0 p1 p2 p3 : Int) :
    (((((w).setCell ⟨g, (K + k) * 4, none⟩ (.int .i64 p0)).setCell ⟨g, (K + k) * 4 + 1, none⟩ (.int .i64 p1)).setCell ⟨g, (K + k) * 4 + 2, none⟩ (.int .i64 p2)).setCell ⟨g, (K + k) * 4 + 3, none⟩ (.int .i64 p3)).ownsRow base e 4 (.slice (some ⟨g, 0, none⟩) m cap) m (pre ++ ceCells (ys.set k (p0, p1, p2, p3))) ∧ w.grownBy (((((w).setCell ⟨g, (K + k) * 4, none⟩ (.int .i64 p0)).setCell ⟨g, (K + k) * 4 + 1, none⟩ (.int .i64 p1)).setCell ⟨g, (K + k) * 4 + 2, none⟩ (.int .i64 p2)).setCell ⟨g, (K + k) * 4 + 3, none⟩ (.int .i64 p3)) (some g) := by
  have s0 := h.stored ((K + k) * 4) (.int .i64 p0)
  have s1 := s0.1.stored ((K + k) * 4 + 1) (.int .i64 p1)
  have s2 := s1.1.stored ((K + k) * 4 + 2) (.int .i64 p2)
  have s3 := s2.1.stored ((K + k) * 4 + 3) (.int .i64 p3)
  have hl := s3.1
  have e0 : ∀ (xs : List Value) (i : Nat) (u : Value), (pre ++ xs).set ((K + k) * 4 + i) u = pre ++ xs.set (k * 4 + i) u := fun xs i u => by
    rw [List.set_append_right _ _ (by omega), show (K + k) * 4 + i - pre.length = k * 4 + i by omega]
  rw [show (pre ++ ceCells ys).set ((K + k) * 4) (.int .i64 p0) = pre ++ (ceCells ys).set (k * 4) (.int .i64 p0) from e0 _ 0 _, e0, e0, e0, ceCells_set] at hl
  exact ⟨hl, grown_trans (grown_trans (grown_trans s0.2 s1.2) s2.2) s3.2⟩

set_option maxRecDepth 100000 in
set_option maxHeartbeats 2000000 in
theorem markCeW_any (n k0 : Nat) {lo hi c : Nat} {A : Option Addr} (zs : List Ce) (w : World) (h : Wce w lo hi A n c zs) (hn : n ≤ 4194304) (hk1 : k0 ≤ 41943040) :
    Calls Try.prog 40 #[.slice A n c, .int .i64 (k0 : Int)] w fun e w' => e = .returned (.int .i64 ((k0 + 4 * n : Nat) : Int)) ∧ Wce w' lo hi A n c (ceMarks k0 n) ∧ ToV w w' lo hi 38 4 A := by
  have hz := h.1
  by_cases h0 : n = 0
  · subst h0
    obtain rfl := List.eq_nil_of_length_eq_zero hz
    have H := Lib.hid (show Wce w lo hi A 0 c (ceMarks k0 0) from h)
    clear h hz
    go_enter Try.func40, Try.ntmps40
    go_wp2
    go_loop [1, 5] (fun m i => m = .int .i64 (k0 : Int) ∧ i = .int .i64 0) (fun _ _ => 0)
    case atStart => exact ⟨rfl, rfl⟩
    case round =>
      obtain ⟨rfl, rfl⟩ := hrel
      go_wp2
      go_ret
      exact ⟨rfl, H.out, none, grown_refl _ _, .inl rfl⟩
  · obtain ⟨g, K, pre, rfl, hK, hlt, ho⟩ := h.2.2.resolve_left (fun e => h0 e.1)
    have HZ := Lib.hid hz
    have HK := Lib.hid hK
    have HI := Lib.hid hlt
    have H0 := Lib.hid ho
    clear h hz hK hlt ho
    obtain ⟨o, ho⟩ : ∃ o, o = K * 4 := ⟨_, rfl⟩
    rw [← ho]
    have OO := Lib.hid ho
    clear ho
    obtain ⟨ps, hps⟩ : ∃ ps : List Ce, True := ⟨[], trivial⟩
    clear ps hps
    go_enter Try.func40, Try.ntmps40
    go_wp2
    go_loopw [1, 5] (fun m i wr => ∃ k : Nat, k ≤ n ∧ m = .int .i64 ((k0 + 4 * k : Nat) : Int) ∧ i = .int .i64 k ∧ wr.ownsRow lo 38 4 (.slice (some ⟨g, 0, none⟩) (K + n) (K + c)) (K + n) (pre ++ ceCells (ceMarks k0 k ++ zs.drop k)) ∧ w.grownBy wr (some g)) (fun _ i _ => n - (intOf i).toNat)
    case atStart => exact ⟨0, Nat.zero_le _, rfl, rfl, by simpa [ceMarks] using H0.out, grown_refl _ _⟩
    case round =>
      obtain ⟨k, hk, rfl, rfl, hown, hg⟩ := hrel
      have HO := Lib.hid hown
      have HG := Lib.hid hg
      by_cases hlt : k < n
      · have i0' : (0 : Int) ≤ (k : Int) := by omega
        have i1 : (k : Int) < (n : Int) := by omega
        have ek : (K + k) * 4 = o + k * 4 := by rw [OO.out]; omega
        have cell : ∀ j, j < 4 → ∃ u, wr.cell? ⟨g, o + k * 4 + j, none⟩ = some u := fun j hj => ⟨_, by rw [← ek, hown.cellAt ((K + k) * 4 + j) (by omega)]; exact List.getElem?_eq_getElem (by rw [hown.1]; omega)⟩
        obtain ⟨u0, cu0⟩ := cell 0 (by omega)
        rw [Nat.add_zero] at cu0
        have fr0 : wr.frozen? ⟨g, o + k * 4, none⟩ = false := by rw [← ek]; exact hown.frozenAt ((K + k) * 4)
        obtain ⟨u1, cu1⟩ := cell 1 (by omega)
        have fr1 : wr.frozen? ⟨g, o + k * 4 + 1, none⟩ = false := by rw [← ek]; exact hown.frozenAt ((K + k) * 4 + 1)
        obtain ⟨u2, cu2⟩ := cell 2 (by omega)
        have fr2 : wr.frozen? ⟨g, o + k * 4 + 2, none⟩ = false := by rw [← ek]; exact hown.frozenAt ((K + k) * 4 + 2)
        obtain ⟨u3, cu3⟩ := cell 3 (by omega)
        have fr3 : wr.frozen? ⟨g, o + k * 4 + 3, none⟩ = false := by rw [← ek]; exact hown.frozenAt ((K + k) * 4 + 3)
        have st := own_storedW_ce HO.out HK.out k ((k0 : Int) + 4 * (k : Int)) ((k0 : Int) + 4 * (k : Int) + 1) ((k0 : Int) + 4 * (k : Int) + 2) ((k0 : Int) + 4 * (k : Int) + 3)
        rw [show (((k0 : Int) + 4 * (k : Int), (k0 : Int) + 4 * (k : Int) + 1, (k0 : Int) + 4 * (k : Int) + 2, (k0 : Int) + 4 * (k : Int) + 3) : Ce) = (((k0 + 4 * k : Nat) : Int), ((k0 + 4 * k + 1 : Nat) : Int), ((k0 + 4 * k + 2 : Nat) : Int), ((k0 + 4 * k + 3 : Nat) : Int)) by simp, ceMarks_set hlt HZ.out, ek] at st
        have ST := Lib.hid st.1
        have G3 := Lib.hid (grown_trans HG.out st.2)
        clear hown hg st HO HG cell ek
        go_wp2
        go_roundw
        case rel => exact ⟨k + 1, by omega, by go_num, by go_num, ST.out, G3.out⟩
        case measure => simp [intOf]; omega
      · have hkn : k = n := by omega
        subst hkn
        have O := HO.out
        rw [List.drop_of_length_le (by have := HZ.out; omega), List.append_nil] at O
        have HO2 := Lib.hid O
        clear O hown hg
        go_wp2
        go_ret
        exact ⟨rfl, ⟨ceMarks_length _ _, by rw [ceCells_length, ceMarks_length], .inr ⟨g, K, pre, by rw [OO.out], HK.out, HI.out, HO2.out⟩⟩, some g, HG.out, .inr ⟨g, _, _, _, _, rfl, rfl, HI.out, H0.out⟩⟩
theorem Wce.wroteR {w w' : World} {lo hi lo' hi' n c : Nat} {A : Option Addr} {zs : List Ce} (h : Wce w lo hi A n c zs) (hw : WroteR lo' hi' w w') (hd : hi ≤ lo' ∨ hi' ≤ lo) : Wce w' lo hi A n c zs := by
  induction hw with
  | refl => exact h
  | step _ hw ih => exact ih.wrote hw hd
theorem Wce.turned {w w' : World} {lo hi lo' hi' n c : Nat} {A : Option Addr} {zs : List Ce} (h : Wce w lo hi A n c zs) (hw : Turned lo' hi' w w') (hd : hi ≤ lo' ∨ hi' ≤ lo) : Wce w' lo hi A n c zs := by
  obtain ⟨w1, hb, hw⟩ := hw
  exact (h.below hb).wroteR hw hd
theorem markCeW_win {w : World} {lo hi n c : Nat} {A : Option Addr} {zs : List Ce} (k0 : Nat) (h : Wce w lo hi A n c zs) (hn : n ≤ 4194304) (hk1 : k0 ≤ 41943040) :
    Calls Try.prog 40 #[.slice A n c, .int .i64 (k0 : Int)] w fun e w' => e = .returned (.int .i64 ((k0 + 4 * n : Nat) : Int)) ∧ Wce w' lo hi A n c (ceMarks k0 n) ∧ Wrote w w' lo hi :=
  (markCeW_any n k0 zs w h hn hk1).mono fun _ _ ⟨he, ho, hg⟩ => ⟨he, ho, hg.wrote⟩
theorem eqCeW_win {w : World} {lo1 hi1 lo2 hi2 n c1 c2 : Nat} {A1 A2 : Option Addr} {zs : List Ce} (h1 : Wce w lo1 hi1 A1 n c1 zs) (h2 : Wce w lo2 hi2 A2 n c2 zs) (hn : n ≤ 4194304) :
    Calls Try.prog 37 #[.slice A1 n c1, .slice A2 n c2] w fun e w' => e = .returned (.bool true) ∧ Below w.heap.size w w' :=
  (eqCeS_any n n zs zs h1.1 h2.1 A1 A2 c1 c2 w h1.ce h2.ce hn).mono fun _ _ ⟨he, hb⟩ => ⟨by rw [he]; simp, hb⟩
theorem heldCeW_win {w : World} {lo hi n c : Nat} {A : Option Addr} (k0 : Nat) (h : Wce w lo hi A n c (ceMarks k0 n)) (hn : n ≤ 4194304) (hk1 : k0 ≤ 41943040) :
    Calls Try.prog 41 #[.slice A n c, .int .i64 (k0 : Int)] w fun e w' => e = .returned (.int .i64 ((k0 + 4 * n : Nat) : Int)) ∧ w = w' :=
  heldCeS_any n k0 A c w h.ce hn hk1
end Go.Proofs.Ytbbagpnjjjohpaa.hexes

namespace Go.Proofs.Ytbbagpnjjjohpaa.hexes
open Go.RowKit Go.ChangeShapes Go.WideShapes Go.Deep Go.Joins

/-- WHAT THE WALK IS TOLD OF A LIST THAT CAME IN. -/
structure IsRcs (w : World) (a : Option Addr) (n : Nat) (zs : List Rc) : Prop where
  len : zs.length = n
  max : n ≤ maxLen
  rcs : Rcs w a zs
  wf : ∀ z ∈ zs, wfRc z

theorem addr_add_rc (b off : Nat) (j : Nat) : (Addr.add ⟨b, off, none⟩ j) = ⟨b, off + j, none⟩ := by unfold Addr.add; split <;> simp_all

theorem rc_cells {H : Type} {enc : TypeId × Value → H} {W : World} {base : Nat} {sp : Nat → Bool} {held : Bool} {fuel : Nat} {cs : List Value} {x : DataW H × List MemPlace}
    (h : DataW.trod enc Try.prog W base sp held fuel 105 cs = some x) : ∃ p0 p1 p2 p3 p4 : Int, cs = [.int .i64 p0, .int .i64 p1, .int .i64 p2, .int .i64 p3, .int .i64 p4] ∧ (Lit.int .i64 p0).wf = true ∧ (Lit.int .i64 p1).wf = true ∧ (Lit.int .i64 p2).wf = true ∧ (Lit.int .i64 p3).wf = true ∧ (Lit.int .i64 p4).wf = true := by
  have ce_int : Try.prog.cellsOf 3 = 1 := by kernel_rfl
  have ce_Stamp : Try.prog.cellsOf 103 = 2 := by kernel_rfl
  have ce : Try.prog.cellsOf 105 = 5 := by kernel_rfl
  have hlen : cs.length = 5 := by
    obtain ⟨_, _, _, _, hl, _⟩ := DataW.trod_struct Try.underlying105 h
    rw [ce] at hl
    exact hl
  obtain ⟨v0, v1, v2, v3, v4, rfl⟩ : ∃ v0 v1 v2 v3 v4, cs = [v0, v1, v2, v3, v4] := by
    rcases cs with _ | ⟨u0, _ | ⟨u1, _ | ⟨u2, _ | ⟨u3, _ | ⟨u4, _ | ⟨u5, us⟩⟩⟩⟩⟩⟩
    · simp at hlen
    · simp at hlen
    · simp at hlen
    · simp at hlen
    · simp at hlen
    · exact ⟨u0, u1, u2, u3, u4, rfl⟩
    · simp at hlen
  obtain ⟨xs_1, k_1, _, _, hl_1, hxl_1, hf_1⟩ := DataW.trod_struct Try.underlying105 h
  have hxl2_1 : xs_1.length = 4 := hxl_1
  clear hxl_1 hl_1
  obtain ⟨y_1_0, y_1_1, y_1_2, y_1_3, rfl⟩ : ∃ y_1_0 y_1_1 y_1_2 y_1_3, xs_1 = [y_1_0, y_1_1, y_1_2, y_1_3] := by
    rcases xs_1 with _ | ⟨z0, _ | ⟨z1, _ | ⟨z2, _ | ⟨z3, _ | ⟨z4, zs⟩⟩⟩⟩⟩
    · simp at hxl2_1
    · simp at hxl2_1
    · simp at hxl2_1
    · simp at hxl2_1
    · exact ⟨z0, z1, z2, z3, rfl⟩
    · simp at hxl2_1
  have g_1_0 := hf_1 0 _ rfl
  have g_1_1 := hf_1 1 _ rfl
  have g_1_2 := hf_1 2 _ rfl
  have g_1_3 := hf_1 3 _ rfl
  simp [ce_int, ce_Stamp] at g_1_0 g_1_1 g_1_2 g_1_3
  clear hf_1
  obtain ⟨p0, e0, _, w0⟩ := DataW.trod_int Try.underlying3 g_1_0
  simp only [List.cons.injEq, and_true] at e0
  obtain ⟨xs_2, k_2, _, _, hl_2, hxl_2, hf_2⟩ := DataW.trod_struct Try.underlying103 g_1_1
  have hxl2_2 : xs_2.length = 2 := hxl_2
  clear hxl_2 hl_2
  obtain ⟨y_2_0, y_2_1, rfl⟩ : ∃ y_2_0 y_2_1, xs_2 = [y_2_0, y_2_1] := by
    rcases xs_2 with _ | ⟨z0, _ | ⟨z1, _ | ⟨z2, zs⟩⟩⟩
    · simp at hxl2_2
    · simp at hxl2_2
    · exact ⟨z0, z1, rfl⟩
    · simp at hxl2_2
  have g_2_0 := hf_2 0 _ rfl
  have g_2_1 := hf_2 1 _ rfl
  simp [ce_int] at g_2_0 g_2_1
  clear hf_2
  obtain ⟨p1, e1, _, w1⟩ := DataW.trod_int Try.underlying3 g_2_0
  simp only [List.cons.injEq, and_true] at e1
  obtain ⟨p2, e2, _, w2⟩ := DataW.trod_int Try.underlying3 g_2_1
  simp only [List.cons.injEq, and_true] at e2
  obtain ⟨p3, e3, _, w3⟩ := DataW.trod_int Try.underlying3 g_1_2
  simp only [List.cons.injEq, and_true] at e3
  obtain ⟨p4, e4, _, w4⟩ := DataW.trod_int Try.underlying3 g_1_3
  simp only [List.cons.injEq, and_true] at e4
  exact ⟨p0, p1, p2, p3, p4, by rw [e0, e1, e2, e3, e4], w0, w1, w2, w3, w4⟩

theorem isRcs_of_trod {H : Type} {enc : TypeId × Value → H} {W : World} {fuel len cap : Nat} {a : Option Addr} {x : DataW H × List MemPlace}
    (h : DataW.trod enc Try.prog W 0 (fun _ => true) true fuel 69 [.slice a len cap] = some x) : ∃ zs, IsRcs W a len zs := by
  rcases open_slice Try.underlying69 h with ⟨hcs, _⟩ | ⟨ad, l, c, m, n, D, Pl, hcs, _, hl, hm, hmm, _, hc⟩
  · simp only [List.cons.injEq, Value.slice.injEq, and_true] at hcs
    obtain ⟨rfl, rfl, rfl⟩ := hcs
    exact ⟨[], rfl, Nat.zero_le _, (fun h => absurd h (by simp)), fun z hz => by cases hz⟩
  · simp only [List.cons.injEq, Value.slice.injEq, and_true] at hcs
    obtain ⟨rfl, rfl, rfl⟩ := hcs
    simp only [if_true] at hmm
    subst hmm
    have ce : Try.prog.cellsOf 105 = 5 := by kernel_rfl
    have key : ∀ i, i < len → ∃ p0 p1 p2 p3 p4 : Int, (W.cell? (ad.add (i * 5)) = some (.int .i64 p0) ∧ W.cell? (ad.add (i * 5 + 1)) = some (.int .i64 p1) ∧ W.cell? (ad.add (i * 5 + 2)) = some (.int .i64 p2) ∧ W.cell? (ad.add (i * 5 + 3)) = some (.int .i64 p3) ∧ W.cell? (ad.add (i * 5 + 4)) = some (.int .i64 p4)) ∧ (Lit.int .i64 p0).wf = true ∧ (Lit.int .i64 p1).wf = true ∧ (Lit.int .i64 p2).wf = true ∧ (Lit.int .i64 p3).wf = true ∧ (Lit.int .i64 p4).wf = true := fun i hi => by
      obtain ⟨cs', h1, h2⟩ := hc i (by omega)
      rw [ce] at h1
      obtain ⟨_, hlen, hcell⟩ := World.cells?_some h1
      obtain ⟨p0, p1, p2, p3, p4, rfl, hw⟩ := rc_cells h2
      have e0 := hcell 0 (by omega)
      have e1 := hcell 1 (by omega)
      have e2 := hcell 2 (by omega)
      have e3 := hcell 3 (by omega)
      have e4 := hcell 4 (by omega)
      rw [add_add] at e0 e1 e2 e3 e4
      exact ⟨p0, p1, p2, p3, p4, ⟨by simpa using e0, by simpa using e1, by simpa using e2, by simpa using e3, by simpa using e4⟩, hw⟩
    have spot : 0 < len → ad = ⟨ad.block, ad.off, none⟩ := fun hp => by
      obtain ⟨p0, p1, p2, p3, p4, ⟨h0, _⟩, _⟩ := key 0 hp
      have : ad.spot = none := by simpa [Addr.add] using World.cell?_spot h0
      cases ad; simp_all
    have build : ∀ k, k ≤ len → ∃ zs : List Rc, zs.length = k ∧ (∀ j, (h : j < zs.length) → W.cell? (ad.add (j * 5)) = some (.int .i64 zs[j].1) ∧ W.cell? (ad.add (j * 5 + 1)) = some (.int .i64 zs[j].2.1.1) ∧ W.cell? (ad.add (j * 5 + 2)) = some (.int .i64 zs[j].2.1.2) ∧ W.cell? (ad.add (j * 5 + 3)) = some (.int .i64 zs[j].2.2.1) ∧ W.cell? (ad.add (j * 5 + 4)) = some (.int .i64 zs[j].2.2.2)) ∧ ∀ z ∈ zs, wfRc z := by
      intro k
      induction k with
      | zero => exact fun _ => ⟨[], rfl, fun j h => absurd h (by simp), fun z hz => by cases hz⟩
      | succ k ih =>
        intro hk
        obtain ⟨zs, hl', hz, hwz⟩ := ih (by omega)
        obtain ⟨p0, p1, p2, p3, p4, hcc, hw⟩ := key k (by omega)
        refine ⟨zs ++ [(p0, (p1, p2), p3, p4)], by simp [hl'], fun j hj => ?_, fun z hz => ?_⟩
        · by_cases hj2 : j < zs.length
          · rw [List.getElem_append_left hj2]
            exact hz j hj2
          · have hjk : j = k := by simp at hj; omega
            subst hjk
            rw [List.getElem_append_right (by omega)]
            simp only [hl', Nat.sub_self, List.getElem_cons_zero]
            exact hcc
        · rcases List.mem_append.1 hz with h' | h'
          · exact hwz z h'
          · simp only [List.mem_singleton] at h'
            subst h'
            exact hw
    obtain ⟨zs, hl', hz, hwz⟩ := build len (Nat.le_refl _)
    refine ⟨zs, hl', Nat.le_trans hl hm, fun hp => ?_, hwz⟩
    have hs := spot (by omega)
    refine ⟨ad.block, ad.off, by rw [← hs], ?_, fun j hj => ?_⟩
    · have h0 := (hz 0 (by omega)).1
      rw [hs, addr_add_rc] at h0
      exact World.block_lt_of_cell? W ⟨ad.block, ad.off + 0 * 5, none⟩ h0
    · obtain ⟨h0, h1, h2, h3, h4⟩ := hz j hj
      rw [hs, addr_add_rc] at h0 h1 h2 h3 h4
      exact ⟨h0, by rw [Nat.add_assoc]; exact h1, by rw [Nat.add_assoc]; exact h2, by rw [Nat.add_assoc]; exact h3, by rw [Nat.add_assoc]; exact h4⟩
end Go.Proofs.Ytbbagpnjjjohpaa.hexes

