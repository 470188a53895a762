/-
  What an exact law does with a list of cells that lies somewhere in an owned block: compare, mark, hold.
  Improve's contracts in a walk's words; marking one of two lists that share a type.
-/
import Derived.Test.YtbbagpnjjjohpaaJ20
import Derived.Test.YtbbagpnjjjohpaaJ42
import Derived.Test.YtbbagpnjjjohpaaJ11
import Derived.Test.YtbbagpnjjjohpaaJ29

namespace Go.Proofs.Ytbbagpnjjjohpaa.hexes
open Go.RowKit

/-- A store of one into an owned row, behind what lies ahead. -/
theorem own_storedW_ce {w : World} {base e g m cap K : Nat} {pre : List Value} {ys : List Ce} (h : w.ownsRow base e 4 (.slice (some ⟨g, 0, none⟩) m cap) m (pre ++ ceCells ys)) (hK : pre.length = K * 4) (k : Nat) (p0 p1 p2 p3 : Int) :
    (((((w).setCell ⟨g, (K + k) * 4, none⟩ (.int .i64 p0)).setCell ⟨g, (K + k) * 4 + 1, none⟩ (.int .i64 p1)).setCell ⟨g, (K + k) * 4 + 2, none⟩ (.int .i64 p2)).setCell ⟨g, (K + k) * 4 + 3, none⟩ (.int .i64 p3)).ownsRow base e 4 (.slice (some ⟨g, 0, none⟩) m cap) m (pre ++ ceCells (ys.set k (p0, p1, p2, p3))) ∧ w.grownBy (((((w).setCell ⟨g, (K + k) * 4, none⟩ (.int .i64 p0)).setCell ⟨g, (K + k) * 4 + 1, none⟩ (.int .i64 p1)).setCell ⟨g, (K + k) * 4 + 2, none⟩ (.int .i64 p2)).setCell ⟨g, (K + k) * 4 + 3, none⟩ (.int .i64 p3)) (some g) := by
  have s0 := h.stored ((K + k) * 4) (.int .i64 p0)
  have s1 := s0.1.stored ((K + k) * 4 + 1) (.int .i64 p1)
  have s2 := s1.1.stored ((K + k) * 4 + 2) (.int .i64 p2)
  have s3 := s2.1.stored ((K + k) * 4 + 3) (.int .i64 p3)
  have hl := s3.1
  have e0 : ∀ (xs : List Value) (i : Nat) (u : Value), (pre ++ xs).set ((K + k) * 4 + i) u = pre ++ xs.set (k * 4 + i) u := fun xs i u => by
    rw [List.set_append_right _ _ (by omega), show (K + k) * 4 + i - pre.length = k * 4 + i by omega]
  rw [show (pre ++ ceCells ys).set ((K + k) * 4) (.int .i64 p0) = pre ++ (ceCells ys).set (k * 4) (.int .i64 p0) from e0 _ 0 _, e0, e0, e0, ceCells_set] at hl
  exact ⟨hl, grown_trans (grown_trans (grown_trans s0.2 s1.2) s2.2) s3.2⟩

set_option maxRecDepth 100000 in
set_option maxHeartbeats 2000000 in
theorem markCeW_any (n k0 : Nat) {lo hi c : Nat} {A : Option Addr} (zs : List Ce) (w : World) (h : Wce w lo hi A n c zs) (hn : n ≤ 4194304) (hk1 : k0 ≤ 41943040) :
    Calls Try.prog 40 #[.slice A n c, .int .i64 (k0 : Int)] w fun e w' => e = .returned (.int .i64 ((k0 + 4 * n : Nat) : Int)) ∧ Wce w' lo hi A n c (ceMarks k0 n) ∧ ToV w w' lo hi 38 4 A := by
  have hz := h.1
  by_cases h0 : n = 0
  · subst h0
    obtain rfl := List.eq_nil_of_length_eq_zero hz
    have H := Lib.hid (show Wce w lo hi A 0 c (ceMarks k0 0) from h)
    clear h hz
    go_enter Try.func40, Try.ntmps40
    go_wp2
    go_loop [1, 5] (fun m i => m = .int .i64 (k0 : Int) ∧ i = .int .i64 0) (fun _ _ => 0)
    case atStart => exact ⟨rfl, rfl⟩
    case round =>
      obtain ⟨rfl, rfl⟩ := hrel
      go_wp2
      go_ret
      exact ⟨rfl, H.out, none, grown_refl _ _, .inl rfl⟩
  · obtain ⟨g, K, pre, rfl, hK, hlt, ho⟩ := h.2.2.resolve_left (fun e => h0 e.1)
    have HZ := Lib.hid hz
    have HK := Lib.hid hK
    have HI := Lib.hid hlt
    have H0 := Lib.hid ho
    clear h hz hK hlt ho
    obtain ⟨o, ho⟩ : ∃ o, o = K * 4 := ⟨_, rfl⟩
    rw [← ho]
    have OO := Lib.hid ho
    clear ho
    obtain ⟨ps, hps⟩ : ∃ ps : List Ce, True := ⟨[], trivial⟩
    clear ps hps
    go_enter Try.func40, Try.ntmps40
    go_wp2
    go_loopw [1, 5] (fun m i wr => ∃ k : Nat, k ≤ n ∧ m = .int .i64 ((k0 + 4 * k : Nat) : Int) ∧ i = .int .i64 k ∧ wr.ownsRow lo 38 4 (.slice (some ⟨g, 0, none⟩) (K + n) (K + c)) (K + n) (pre ++ ceCells (ceMarks k0 k ++ zs.drop k)) ∧ w.grownBy wr (some g)) (fun _ i _ => n - (intOf i).toNat)
    case atStart => exact ⟨0, Nat.zero_le _, rfl, rfl, by simpa [ceMarks] using H0.out, grown_refl _ _⟩
    case round =>
      obtain ⟨k, hk, rfl, rfl, hown, hg⟩ := hrel
      have HO := Lib.hid hown
      have HG := Lib.hid hg
      by_cases hlt : k < n
      · have i0' : (0 : Int) ≤ (k : Int) := by omega
        have i1 : (k : Int) < (n : Int) := by omega
        have ek : (K + k) * 4 = o + k * 4 := by rw [OO.out]; omega
        have cell : ∀ j, j < 4 → ∃ u, wr.cell? ⟨g, o + k * 4 + j, none⟩ = some u := fun j hj => ⟨_, by rw [← ek, hown.cellAt ((K + k) * 4 + j) (by omega)]; exact List.getElem?_eq_getElem (by rw [hown.1]; omega)⟩
        obtain ⟨u0, cu0⟩ := cell 0 (by omega)
        rw [Nat.add_zero] at cu0
        have fr0 : wr.frozen? ⟨g, o + k * 4, none⟩ = false := by rw [← ek]; exact hown.frozenAt ((K + k) * 4)
        obtain ⟨u1, cu1⟩ := cell 1 (by omega)
        have fr1 : wr.frozen? ⟨g, o + k * 4 + 1, none⟩ = false := by rw [← ek]; exact hown.frozenAt ((K + k) * 4 + 1)
        obtain ⟨u2, cu2⟩ := cell 2 (by omega)
        have fr2 : wr.frozen? ⟨g, o + k * 4 + 2, none⟩ = false := by rw [← ek]; exact hown.frozenAt ((K + k) * 4 + 2)
        obtain ⟨u3, cu3⟩ := cell 3 (by omega)
        have fr3 : wr.frozen? ⟨g, o + k * 4 + 3, none⟩ = false := by rw [← ek]; exact hown.frozenAt ((K + k) * 4 + 3)
        have st := own_storedW_ce HO.out HK.out k ((k0 : Int) + 4 * (k : Int)) ((k0 : Int) + 4 * (k : Int) + 1) ((k0 : Int) + 4 * (k : Int) + 2) ((k0 : Int) + 4 * (k : Int) + 3)
        rw [show (((k0 : Int) + 4 * (k : Int), (k0 : Int) + 4 * (k : Int) + 1, (k0 : Int) + 4 * (k : Int) + 2, (k0 : Int) + 4 * (k : Int) + 3) : Ce) = (((k0 + 4 * k : Nat) : Int), ((k0 + 4 * k + 1 : Nat) : Int), ((k0 + 4 * k + 2 : Nat) : Int), ((k0 + 4 * k + 3 : Nat) : Int)) by simp, ceMarks_set hlt HZ.out, ek] at st
        have ST := Lib.hid st.1
        have G3 := Lib.hid (grown_trans HG.out st.2)
        clear hown hg st HO HG cell ek
        go_wp2
        go_roundw
        case rel => exact ⟨k + 1, by omega, by go_num, by go_num, ST.out, G3.out⟩
        case measure => simp [intOf]; omega
      · have hkn : k = n := by omega
        subst hkn
        have O := HO.out
        rw [List.drop_of_length_le (by have := HZ.out; omega), List.append_nil] at O
        have HO2 := Lib.hid O
        clear O hown hg
        go_wp2
        go_ret
        exact ⟨rfl, ⟨ceMarks_length _ _, by rw [ceCells_length, ceMarks_length], .inr ⟨g, K, pre, by rw [OO.out], HK.out, HI.out, HO2.out⟩⟩, some g, HG.out, .inr ⟨g, _, _, _, _, rfl, rfl, HI.out, H0.out⟩⟩
theorem Wce.wroteR {w w' : World} {lo hi lo' hi' n c : Nat} {A : Option Addr} {zs : List Ce} (h : Wce w lo hi A n c zs) (hw : WroteR lo' hi' w w') (hd : hi ≤ lo' ∨ hi' ≤ lo) : Wce w' lo hi A n c zs := by
  induction hw with
  | refl => exact h
  | step _ hw ih => exact ih.wrote hw hd
theorem Wce.turned {w w' : World} {lo hi lo' hi' n c : Nat} {A : Option Addr} {zs : List Ce} (h : Wce w lo hi A n c zs) (hw : Turned lo' hi' w w') (hd : hi ≤ lo' ∨ hi' ≤ lo) : Wce w' lo hi A n c zs := by
  obtain ⟨w1, hb, hw⟩ := hw
  exact (h.below hb).wroteR hw hd
theorem eqCeW_win {w : World} {lo1 hi1 lo2 hi2 n c1 c2 : Nat} {A1 A2 : Option Addr} {zs : List Ce} (h1 : Wce w lo1 hi1 A1 n c1 zs) (h2 : Wce w lo2 hi2 A2 n c2 zs) (hn : n ≤ 4194304) :
    Calls Try.prog 37 #[.slice A1 n c1, .slice A2 n c2] w fun e w' => e = .returned (.bool true) ∧ Below w.heap.size w w' :=
  (eqCeS_any n n zs zs h1.1 h2.1 A1 A2 c1 c2 w h1.ce h2.ce hn).mono fun _ _ ⟨he, hb⟩ => ⟨by rw [he]; simp, hb⟩
theorem heldCeW_win {w : World} {lo hi n c : Nat} {A : Option Addr} (k0 : Nat) (h : Wce w lo hi A n c (ceMarks k0 n)) (hn : n ≤ 4194304) (hk1 : k0 ≤ 41943040) :
    Calls Try.prog 41 #[.slice A n c, .int .i64 (k0 : Int)] w fun e w' => e = .returned (.int .i64 ((k0 + 4 * n : Nat) : Int)) ∧ w = w' :=
  heldCeS_any n k0 A c w h.ce hn hk1
end Go.Proofs.Ytbbagpnjjjohpaa.hexes

namespace Go.Proofs.Ytbbagpnjjjohpaa.hexes
open Go.RowKit

theorem ImpEnd.rows {w w' : World} {e : Ending} {q : List Ce × List Ce} {us vs : List Ce} {m3 m4 : Nat} (h : ImpEnd w q e w') (hq : q = (us, vs)) (h3 : us.length = m3) (h4 : vs.length = m4) : ∃ A3 c3 A4 c4, e = .returned (.tuple #[.slice A3 m3 c3, .slice A4 m4 c4]) ∧ Wce w' w.heap.size w'.heap.size A3 m3 c3 us ∧ Wce w' w.heap.size w'.heap.size A4 m4 c4 vs ∧ ApartC A3 A4 ∧ Below w.heap.size w w' := by
  subst hq h3 h4
  obtain ⟨A3, c3, m3, A4, c4, m4, rfl, rfl, he, r3, r4, ap, hb⟩ := h
  exact ⟨A3, c3, A4, c4, he, r3, r4, ap, hb⟩
theorem specImp_rows {gs : List Nd} {wk cp : Int} {A : Option Addr} {n c : Nat} {ces : List Ce} {A2 : Option Addr} {n2 c2 : Nat} {x0 x1 x2 x3 : Int} {us vs : List Ce} {m3 m4 : Nat} (hq : impG gs wk cp ces (x0, x1, x2, x3) = (us, vs)) (h3 : us.length = m3) (h4 : vs.length = m4) (hl : gs.length = n) (ho : ∀ x ∈ gs, x.2.2.2.length ≤ 1048576) (hn : n ≤ 1048576) (hl2 : ces.length = n2) (hA2 : A2 = none → c2 = 0) (hc2 : n2 ≤ c2) (hn2 : n2 ≤ 1048576) (w : World) (h : Nds w A gs) (h2 : Ces w A2 ces) :
    Calls Try.prog 22 #[.agg #[.slice A n c, .int .i64 wk, .int .i64 cp], .slice A2 n2 c2, .agg #[.int .i64 x0, .int .i64 x1, .int .i64 x2, .int .i64 x3]] w fun e w' => ∃ A3 c3 A4 c4, e = .returned (.tuple #[.slice A3 m3 c3, .slice A4 m4 c4]) ∧ Wce w' w.heap.size w'.heap.size A3 m3 c3 us ∧ Wce w' w.heap.size w'.heap.size A4 m4 c4 vs ∧ ApartC A3 A4 ∧ Below w.heap.size w w' :=
  (specImp_any gs wk cp A n c hl ho hn ces A2 n2 c2 hl2 hA2 hc2 (by omega) x0 x1 x2 x3 w h h2).mono fun _ _ he => he.rows hq h3 h4
theorem implImp_rows {gs : List Nd} {wk cp : Int} {A : Option Addr} {n c : Nat} {ces : List Ce} {A2 : Option Addr} {n2 c2 : Nat} {x0 x1 x2 x3 : Int} {us vs : List Ce} {m3 m4 : Nat} (hq : impG gs wk cp ces (x0, x1, x2, x3) = (us, vs)) (h3 : us.length = m3) (h4 : vs.length = m4) (hl : gs.length = n) (ho : ∀ x ∈ gs, x.2.2.2.length ≤ 1048576) (hn : n ≤ 1048576) (hl2 : ces.length = n2) (hA2 : A2 = none → c2 = 0) (hc2 : n2 ≤ c2) (hn2 : n2 ≤ 1048576) (w : World) (h : Nds w A gs) (h2 : Ces w A2 ces) :
    Calls Try.prog 21 #[.agg #[.slice A n c, .int .i64 wk, .int .i64 cp], .slice A2 n2 c2, .agg #[.int .i64 x0, .int .i64 x1, .int .i64 x2, .int .i64 x3]] w fun e w' => ∃ A3 c3 A4 c4, e = .returned (.tuple #[.slice A3 m3 c3, .slice A4 m4 c4]) ∧ Wce w' w.heap.size w'.heap.size A3 m3 c3 us ∧ Wce w' w.heap.size w'.heap.size A4 m4 c4 vs ∧ ApartC A3 A4 ∧ Below w.heap.size w w' :=
  (implImp_any gs wk cp A n c hl ho hn ces A2 n2 c2 hl2 hA2 hc2 (by omega) x0 x1 x2 x3 w h h2).mono fun _ _ he => he.rows hq h3 h4
theorem ApartC.symm {A B : Option Addr} (h : ApartC A B) : ApartC B A := fun g o o' hB hA => h g o' o hA hB
theorem markCe_apart {w : World} {lo hi n c lo' hi' n' c' : Nat} {A A' : Option Addr} {zs ys : List Ce} (k0 : Nat) (h : Wce w lo hi A n c zs) (h' : Wce w lo' hi' A' n' c' ys) (hd : ApartC A A') (hn : n ≤ 4194304) (hk1 : k0 ≤ 41943040) :
    Calls Try.prog 40 #[.slice A n c, .int .i64 (k0 : Int)] w fun e w' => e = .returned (.int .i64 ((k0 + 4 * n : Nat) : Int)) ∧ Wce w' lo hi A n c (ceMarks k0 n) ∧ Wce w' lo' hi' A' n' c' ys ∧ Wrote w w' lo hi :=
  (markCeW_any n k0 zs w h hn hk1).mono fun _ _ ⟨he, ho, hg⟩ => ⟨he, ho, h'.keptV hg hd, hg.wrote⟩
end Go.Proofs.Ytbbagpnjjjohpaa.hexes

