/-
  StepAll of the program as two rows.
  A row's capacity is not below its length.
  What chapter 10's laws use of a step's results: two rows out of one call.
  What an exact law does with a list of records that lies somewhere in an owned block: compare, mark, hold.
  Cells that came into a law: what its walk is told of them.
  What the walks of chapter 9's exact laws take: a boxed cell and rows kept through writes.
  Records that came into a law: what its walk is told of them.
-/
import Derived.Test.YtlanmkimaambgaaGreatJ49
import Derived.Test.YtlanmkimaambgaaGreatJ1
import Derived.Test.YtlanmkimaambgaaGreatJ28
import Derived.Test.YtlanmkimaambgaaGreatJ32
import Derived.Test.YtlanmkimaambgaaGreatJ47
import Derived.Test.YtlanmkimaambgaaGreatJ9
import Derived.Test.YtlanmkimaambgaaGreatJ18
import Derived.Deep.Slices
import Derived.ChangeSame
import Derived.OpenShut
import Derived.Lib.SmallJoins
import Derived.Test.YtlanmkimaambgaaGreatJ19
import Derived.Test.YtlanmkimaambgaaGreatJ16

namespace Go.Proofs.YtlanmkimaambgaaGreat.hexes
open Go.RowKit

theorem implAll_rows {gs : List Nd} {wk cp : Int} {A : Option Addr} {n c : Nat} {ces : List Ce} {A2 : Option Addr} {n2 c2 : Nat} {rcs : List Rc} {A1 : Option Addr} {n1 c1 : Nat} {mo : Int} {us : List Ce} {out : List Rc} {nn m3 m4 : Nat} (hq : allG gs wk cp ces rcs mo = ((us, out), nn)) (h3 : us.length = m3) (h4 : out.length = m4) (hl : gs.length = n) (ho : ∀ x ∈ gs, x.2.2.2.length ≤ 1048576) (hn : n ≤ 1048576) (hl2 : ces.length = n2) (hA2 : A2 = none → c2 = 0) (hn2 : n2 ≤ 1048576) (hl1 : rcs.length = n1) (hA1 : A1 = none → c1 = 0) (hn1 : n1 ≤ 1048576) (w : World) (h : Nds w A gs) (h2 : Ces w A2 ces) (h1 : Rcs w A1 rcs) :
    Calls Tryz.prog 11 #[.agg #[.slice A n c, .int .i64 wk, .int .i64 cp], .slice A2 n2 c2, .slice A1 n1 c1, .int .i64 mo] w fun e w' => ∃ A3 c3 A4 c4, e = .returned (.tuple #[.slice A3 m3 c3, .slice A4 m4 c4, .int .i64 (nn : Int)]) ∧ Row w' w.heap.size w'.heap.size 57 4 A3 m3 c3 (ceCells us) ∧ Win w' w.heap.size w'.heap.size A4 m4 c4 out ∧ Below w.heap.size w w' :=
  (implAll_any gs wk cp A n c hl ho hn ces A2 n2 c2 hl2 hA2 hn2 rcs A1 n1 c1 hl1 hA1 hn1 mo w h h2 h1).mono fun _ _ he => he.rows hq h3 h4
end Go.Proofs.YtlanmkimaambgaaGreat.hexes

namespace Go.Proofs.YtlanmkimaambgaaGreat.hexes
open Go.RowKit
theorem Row.cap {w : World} {lo hi e size n c : Nat} {A : Option Addr} {xs : List Value} (h : Row w lo hi e size A n c xs) : n ≤ c := by
  rcases h.own.2 with ⟨h0, rfl⟩ | ⟨g, cap, cur, hv, _, _, hnc, _⟩
  · exact Nat.zero_le _
  · simp only [Value.slice.injEq, true_and] at hv
    obtain ⟨_, rfl⟩ := hv
    exact hnc
end Go.Proofs.YtlanmkimaambgaaGreat.hexes

namespace Go.Proofs.YtlanmkimaambgaaGreat.hexes
open Go.RowKit

theorem rowLow {w : World} {lo lo' hi e size n c : Nat} {A : Option Addr} {xs : List Value} (h : Row w lo hi e size A n c xs) (hl : lo' ≤ lo) : Row w lo' hi e size A n c xs := ⟨own_base h.own hl, h.lt⟩
/-- A step's end as two rows. -/
theorem StepEnd.rows {w w' : World} {q : (List Ce × List Rc) × Bool} {e : Ending} (h : StepEnd w q e w') {us : List Ce} {out : List Rc} {ok : Bool} {m3 m4 : Nat} (hq : q = ((us, out), ok)) (h3 : us.length = m3) (h4 : out.length = m4) :
    ∃ A3 c3 A4 c4, e = .returned (.tuple #[.slice A3 m3 c3, .slice A4 m4 c4, .bool ok]) ∧ Row w' w.heap.size w'.heap.size 57 4 A3 m3 c3 (ceCells us) ∧ Row w' w.heap.size w'.heap.size 54 5 A4 m4 c4 (rcCells out) ∧ Below w.heap.size w w' := by
  subst hq
  obtain ⟨A3, c3, n3, A4, c4, n4, l3, l4, rfl, o3, o4, hb⟩ := h
  have e3 : n3 = m3 := l3.symm.trans h3
  have e4 : n4 = m4 := l4.symm.trans h4
  subst e3 e4
  obtain ⟨B3, d3, q3, r3⟩ := row_of o3
  obtain ⟨B4, d4, q4, r4⟩ := row_of o4
  simp only [Value.slice.injEq, true_and] at q3 q4
  obtain ⟨rfl, rfl⟩ := q3
  obtain ⟨rfl, rfl⟩ := q4
  exact ⟨A3, c3, A4, c4, rfl, r3, r4, hb⟩
theorem markCe_two {w : World} {lo hi lo' hi' n c n' c' : Nat} {A A' : Option Addr} {zs : List Ce} {ys : List Value} (k0 : Nat) (h : Row w lo hi 57 4 A n c (ceCells zs)) (h' : Row w lo' hi' 54 5 A' n' c' ys) (hn : n ≤ 4194304) (hk1 : k0 ≤ 41943040) :
    Calls Tryz.prog 16 #[.slice A n c, .int .i64 (k0 : Int)] w fun e w' => e = .returned (.int .i64 ((k0 + 4 * n : Nat) : Int)) ∧ Row w' lo hi 57 4 A n c (ceCells (ceMarks k0 n)) ∧ Row w' lo' hi' 54 5 A' n' c' ys ∧ Wrote w w' lo hi :=
  (markCeS_any n k0 lo zs h.ceLen (.slice A n c) w h.own hn hk1).mono fun _ _ ⟨he, ho, hg⟩ => ⟨he, ⟨ho, h.lt⟩, ⟨h'.own.kept hg (own_types h'.own h.own (by decide)), h'.lt⟩, _, hg, fun g hgg => ⟨own_ge h.own g hgg, h.lt g hgg⟩⟩
theorem markRc_two {w : World} {lo hi lo' hi' n c n' c' : Nat} {A A' : Option Addr} {zs : List Rc} {ys : List Value} (k0 : Nat) (h : Row w lo hi 54 5 A n c (rcCells zs)) (h' : Row w lo' hi' 57 4 A' n' c' ys) (hn : n ≤ 4194304) (hk1 : k0 ≤ 41943040) :
    Calls Tryz.prog 17 #[.slice A n c, .int .i64 (k0 : Int)] w fun e w' => e = .returned (.int .i64 ((k0 + 5 * n : Nat) : Int)) ∧ Row w' lo hi 54 5 A n c (rcCells (rcMarks k0 n)) ∧ Row w' lo' hi' 57 4 A' n' c' ys ∧ Wrote w w' lo hi :=
  (markRcS_any n k0 lo zs h.rcLen (.slice A n c) w h.own hn hk1).mono fun _ _ ⟨he, ho, hg⟩ => ⟨he, ⟨ho, h.lt⟩, ⟨h'.own.kept hg (own_types h'.own h.own (by decide)), h'.lt⟩, _, hg, fun g hgg => ⟨own_ge h.own g hgg, h.lt g hgg⟩⟩
end Go.Proofs.YtlanmkimaambgaaGreat.hexes

namespace Go.Proofs.YtlanmkimaambgaaGreat.hexes
open Go.RowKit

set_option maxRecDepth 100000 in
set_option maxHeartbeats 2000000 in
theorem markRcW_any (n k0 : Nat) {lo hi c : Nat} {A : Option Addr} (zs : List Rc) (w : World) (h : Win w lo hi A n c zs) (hn : n ≤ 4194304) (hk1 : k0 ≤ 41943040) :
    Calls Tryz.prog 17 #[.slice A n c, .int .i64 (k0 : Int)] w fun e w' => e = .returned (.int .i64 ((k0 + 5 * n : Nat) : Int)) ∧ Win w' lo hi A n c (rcMarks k0 n) ∧ WinTo w w' lo hi := by
  have hz := h.1
  by_cases h0 : n = 0
  · subst h0
    obtain rfl := List.eq_nil_of_length_eq_zero hz
    have H := Lib.hid (show Win w lo hi A 0 c (rcMarks k0 0) from h)
    clear h hz
    go_enter Tryz.func17, Tryz.ntmps17
    go_wp2
    go_loop [1, 5] (fun m i => m = .int .i64 (k0 : Int) ∧ i = .int .i64 0) (fun _ _ => 0)
    case atStart => exact ⟨rfl, rfl⟩
    case round =>
      obtain ⟨rfl, rfl⟩ := hrel
      go_wp2
      go_ret
      exact ⟨rfl, H.out, none, grown_refl _ _, .inl rfl⟩
  · obtain ⟨g, K, pre, rfl, hK, hlt, ho⟩ := h.2.resolve_left (fun e => h0 e.1)
    have HZ := Lib.hid hz
    have HK := Lib.hid hK
    have HI := Lib.hid hlt
    have H0 := Lib.hid ho
    clear h hz hK hlt ho
    obtain ⟨o, ho⟩ : ∃ o, o = K * 5 := ⟨_, rfl⟩
    rw [← ho]
    have OO := Lib.hid ho
    clear ho
    go_enter Tryz.func17, Tryz.ntmps17
    go_wp2
    go_loopw [1, 5] (fun m i wr => ∃ k : Nat, k ≤ n ∧ m = .int .i64 ((k0 + 5 * k : Nat) : Int) ∧ i = .int .i64 k ∧ wr.ownsRow lo 54 5 (.slice (some ⟨g, 0, none⟩) (K + n) (K + c)) (K + n) (rcCells (pre ++ (rcMarks k0 k ++ zs.drop k))) ∧ w.grownBy wr (some g)) (fun _ i _ => n - (intOf i).toNat)
    case atStart => exact ⟨0, Nat.zero_le _, rfl, rfl, by simpa [rcMarks] using H0.out, grown_refl _ _⟩
    case round =>
      obtain ⟨k, hk, rfl, rfl, hown, hg⟩ := hrel
      have HO := Lib.hid hown
      have HG := Lib.hid hg
      by_cases hlt : k < n
      · have i0' : (0 : Int) ≤ (k : Int) := by omega
        have i1 : (k : Int) < (n : Int) := by omega
        have ek : (K + k) * 5 = o + k * 5 := by rw [OO.out]; omega
        have cell : ∀ j, j < 5 → ∃ u, wr.cell? ⟨g, o + k * 5 + j, none⟩ = some u := fun j hj => ⟨_, by rw [← ek, hown.cellAt ((K + k) * 5 + j) (by omega)]; exact List.getElem?_eq_getElem (by rw [hown.1]; omega)⟩
        obtain ⟨u0, cu0⟩ := cell 0 (by omega)
        rw [Nat.add_zero] at cu0
        have fr0 : wr.frozen? ⟨g, o + k * 5, none⟩ = false := by rw [← ek]; exact hown.frozenAt ((K + k) * 5)
        obtain ⟨u1, cu1⟩ := cell 1 (by omega)
        have fr1 : wr.frozen? ⟨g, o + k * 5 + 1, none⟩ = false := by rw [← ek]; exact hown.frozenAt ((K + k) * 5 + 1)
        obtain ⟨u2, cu2⟩ := cell 2 (by omega)
        have fr2 : wr.frozen? ⟨g, o + k * 5 + 2, none⟩ = false := by rw [← ek]; exact hown.frozenAt ((K + k) * 5 + 2)
        obtain ⟨u3, cu3⟩ := cell 3 (by omega)
        have fr3 : wr.frozen? ⟨g, o + k * 5 + 3, none⟩ = false := by rw [← ek]; exact hown.frozenAt ((K + k) * 5 + 3)
        obtain ⟨u4, cu4⟩ := cell 4 (by omega)
        have fr4 : wr.frozen? ⟨g, o + k * 5 + 4, none⟩ = false := by rw [← ek]; exact hown.frozenAt ((K + k) * 5 + 4)
        have st := own_stored_rc HO.out (K + k) ((k0 : Int) + 5 * (k : Int)) ((k0 : Int) + 5 * (k : Int) + 1) ((k0 : Int) + 5 * (k : Int) + 2) ((k0 : Int) + 5 * (k : Int) + 3) ((k0 : Int) + 5 * (k : Int) + 4)
        rw [show (((k0 : Int) + 5 * (k : Int), ((k0 : Int) + 5 * (k : Int) + 1, (k0 : Int) + 5 * (k : Int) + 2), (k0 : Int) + 5 * (k : Int) + 3, (k0 : Int) + 5 * (k : Int) + 4) : Rc) = (((k0 + 5 * k : Nat) : Int), (((k0 + 5 * k + 1 : Nat) : Int), ((k0 + 5 * k + 2 : Nat) : Int)), ((k0 + 5 * k + 3 : Nat) : Int), ((k0 + 5 * k + 4 : Nat) : Int)) by simp, List.set_append_right _ _ (by rw [HK.out]; omega), show K + k - pre.length = k by rw [HK.out]; omega, rcMarks_set hlt HZ.out, ek] at st
        have ST := Lib.hid st.1
        have G3 := Lib.hid (grown_trans HG.out st.2)
        clear hown hg st HO HG cell ek
        go_wp2
        go_roundw
        case rel => exact ⟨k + 1, by omega, by go_num, by go_num, ST.out, G3.out⟩
        case measure => simp [intOf]; omega
      · have hkn : k = n := by omega
        subst hkn
        have O := HO.out
        rw [List.drop_of_length_le (by have := HZ.out; omega), List.append_nil] at O
        have HO2 := Lib.hid O
        clear O hown hg
        go_wp2
        go_ret
        exact ⟨rfl, ⟨rcMarks_length _ _, .inr ⟨g, K, pre, by rw [OO.out], HK.out, HI.out, HO2.out⟩⟩, some g, HG.out, .inr ⟨g, _, _, _, rfl, HI.out, H0.out⟩⟩

theorem Win.wroteR {w w' : World} {lo hi lo' hi' n c : Nat} {A : Option Addr} {zs : List Rc} (h : Win w lo hi A n c zs) (hw : WroteR lo' hi' w w') (hd : hi ≤ lo' ∨ hi' ≤ lo) : Win w' lo hi A n c zs := by
  induction hw with
  | refl => exact h
  | step _ hw ih => exact ih.wrote hw hd
theorem Win.turned {w w' : World} {lo hi lo' hi' n c : Nat} {A : Option Addr} {zs : List Rc} (h : Win w lo hi A n c zs) (hw : Turned lo' hi' w w') (hd : hi ≤ lo' ∨ hi' ≤ lo) : Win w' lo hi A n c zs := by
  obtain ⟨w1, hb, hw⟩ := hw
  exact (h.below hb).wroteR hw hd
theorem markRcW_two {w : World} {lo hi lo' hi' n c n' c' : Nat} {A A' : Option Addr} {zs : List Rc} {ys : List Value} (k0 : Nat) (h : Win w lo hi A n c zs) (h' : Row w lo' hi' 57 4 A' n' c' ys) (hn : n ≤ 4194304) (hk1 : k0 ≤ 41943040) :
    Calls Tryz.prog 17 #[.slice A n c, .int .i64 (k0 : Int)] w fun e w' => e = .returned (.int .i64 ((k0 + 5 * n : Nat) : Int)) ∧ Win w' lo hi A n c (rcMarks k0 n) ∧ Row w' lo' hi' 57 4 A' n' c' ys ∧ Wrote w w' lo hi :=
  (markRcW_any n k0 zs w h hn hk1).mono fun _ _ ⟨he, ho, hg⟩ => ⟨he, ho, ⟨hg.kept h'.own (by decide), h'.lt⟩, hg.wrote⟩
theorem markCeW_two {w : World} {lo hi lo' hi' n c n' c' : Nat} {A A' : Option Addr} {zs : List Ce} {ys : List Rc} (k0 : Nat) (h : Row w lo hi 57 4 A n c (ceCells zs)) (h' : Win w lo' hi' A' n' c' ys) (hn : n ≤ 4194304) (hk1 : k0 ≤ 41943040) :
    Calls Tryz.prog 16 #[.slice A n c, .int .i64 (k0 : Int)] w fun e w' => e = .returned (.int .i64 ((k0 + 4 * n : Nat) : Int)) ∧ Row w' lo hi 57 4 A n c (ceCells (ceMarks k0 n)) ∧ Win w' lo' hi' A' n' c' ys ∧ Wrote w w' lo hi :=
  (markCeS_any n k0 lo zs h.ceLen (.slice A n c) w h.own hn hk1).mono fun _ _ ⟨he, ho, hg⟩ => ⟨he, ⟨ho, h.lt⟩, h'.types h.own hg (by decide), _, hg, fun g hgg => ⟨own_ge h.own g hgg, h.lt g hgg⟩⟩
theorem eqRcW_row {w : World} {lo1 hi1 lo2 hi2 n c1 c2 : Nat} {A1 A2 : Option Addr} {zs : List Rc} (h1 : Win w lo1 hi1 A1 n c1 zs) (h2 : Row w lo2 hi2 54 5 A2 n c2 (rcCells zs)) (hn : n ≤ 4194304) :
    Calls Tryz.prog 13 #[.slice A1 n c1, .slice A2 n c2] w fun e w' => e = .returned (.bool true) ∧ Below w.heap.size w w' :=
  (eqRcS_any n n zs zs h1.1 h1.1 A1 A2 c1 c2 w h1.rc h2.rc hn).mono fun _ _ ⟨he, hb⟩ => ⟨by rw [he]; simp, hb⟩
theorem heldRcW_row {w : World} {lo hi n c : Nat} {A : Option Addr} (k0 : Nat) (h : Win w lo hi A n c (rcMarks k0 n)) (hn : n ≤ 4194304) (hk1 : k0 ≤ 41943040) :
    Calls Tryz.prog 19 #[.slice A n c, .int .i64 (k0 : Int)] w fun e w' => e = .returned (.int .i64 ((k0 + 5 * n : Nat) : Int)) ∧ w = w' :=
  heldRcS_any n k0 A c w h.rc hn hk1
end Go.Proofs.YtlanmkimaambgaaGreat.hexes

namespace Go.Proofs.YtlanmkimaambgaaGreat.hexes
open Go.RowKit Go.ChangeShapes Go.WideShapes Go.Deep Go.Joins

/-- All its numbers are of 64 bits. -/
def wfCe (z : Ce) : Prop := (Lit.int .i64 z.1).wf = true ∧ (Lit.int .i64 z.2.1).wf = true ∧ (Lit.int .i64 z.2.2.1).wf = true ∧ (Lit.int .i64 z.2.2.2).wf = true
/-- WHAT THE WALK IS TOLD OF A LIST THAT CAME IN. -/
structure IsCes (w : World) (a : Option Addr) (n : Nat) (zs : List Ce) : Prop where
  len : zs.length = n
  max : n ≤ maxLen
  ces : Ces w a zs
  wf : ∀ z ∈ zs, wfCe z

theorem addr_add_ce (b off : Nat) (j : Nat) : (Addr.add ⟨b, off, none⟩ j) = ⟨b, off + j, none⟩ := by unfold Addr.add; split <;> simp_all

theorem ce_cells {H : Type} {enc : TypeId × Value → H} {W : World} {base : Nat} {sp : Nat → Bool} {held : Bool} {fuel : Nat} {cs : List Value} {x : DataW H × List MemPlace}
    (h : DataW.trod enc Tryz.prog W base sp held fuel 59 cs = some x) : ∃ p0 p1 p2 p3 : Int, cs = [.int .i64 p0, .int .i64 p1, .int .i64 p2, .int .i64 p3] ∧ (Lit.int .i64 p0).wf = true ∧ (Lit.int .i64 p1).wf = true ∧ (Lit.int .i64 p2).wf = true ∧ (Lit.int .i64 p3).wf = true := by
  have ce_int : Tryz.prog.cellsOf 3 = 1 := by kernel_rfl
  have ce : Tryz.prog.cellsOf 59 = 4 := by kernel_rfl
  have hlen : cs.length = 4 := by
    obtain ⟨_, _, _, _, hl, _⟩ := DataW.trod_struct Tryz.underlying59 h
    rw [ce] at hl
    exact hl
  obtain ⟨v0, v1, v2, v3, rfl⟩ : ∃ v0 v1 v2 v3, cs = [v0, v1, v2, v3] := by
    rcases cs with _ | ⟨u0, _ | ⟨u1, _ | ⟨u2, _ | ⟨u3, _ | ⟨u4, us⟩⟩⟩⟩⟩
    · simp at hlen
    · simp at hlen
    · simp at hlen
    · simp at hlen
    · exact ⟨u0, u1, u2, u3, rfl⟩
    · simp at hlen
  obtain ⟨xs_1, k_1, _, _, hl_1, hxl_1, hf_1⟩ := DataW.trod_struct Tryz.underlying59 h
  have hxl2_1 : xs_1.length = 4 := hxl_1
  clear hxl_1 hl_1
  obtain ⟨y_1_0, y_1_1, y_1_2, y_1_3, rfl⟩ : ∃ y_1_0 y_1_1 y_1_2 y_1_3, xs_1 = [y_1_0, y_1_1, y_1_2, y_1_3] := by
    rcases xs_1 with _ | ⟨z0, _ | ⟨z1, _ | ⟨z2, _ | ⟨z3, _ | ⟨z4, zs⟩⟩⟩⟩⟩
    · simp at hxl2_1
    · simp at hxl2_1
    · simp at hxl2_1
    · simp at hxl2_1
    · exact ⟨z0, z1, z2, z3, rfl⟩
    · simp at hxl2_1
  have g_1_0 := hf_1 0 _ rfl
  have g_1_1 := hf_1 1 _ rfl
  have g_1_2 := hf_1 2 _ rfl
  have g_1_3 := hf_1 3 _ rfl
  simp [ce_int] at g_1_0 g_1_1 g_1_2 g_1_3
  clear hf_1
  obtain ⟨p0, e0, _, w0⟩ := DataW.trod_int Tryz.underlying3 g_1_0
  simp only [List.cons.injEq, and_true] at e0
  obtain ⟨p1, e1, _, w1⟩ := DataW.trod_int Tryz.underlying3 g_1_1
  simp only [List.cons.injEq, and_true] at e1
  obtain ⟨p2, e2, _, w2⟩ := DataW.trod_int Tryz.underlying3 g_1_2
  simp only [List.cons.injEq, and_true] at e2
  obtain ⟨p3, e3, _, w3⟩ := DataW.trod_int Tryz.underlying3 g_1_3
  simp only [List.cons.injEq, and_true] at e3
  exact ⟨p0, p1, p2, p3, by rw [e0, e1, e2, e3], w0, w1, w2, w3⟩

set_option maxRecDepth 100000 in
theorem isCe_of_trod {H : Type} {enc : TypeId × Value → H} {W : World} {base : Nat} {sp : Nat → Bool} {held : Bool} {r : Reach} {b0 : Nat} {v : Value} {d : DataW H} {p : List MemPlace}
    (hv : Value.okWide Tryz.prog W r b0 59 v) (h : DataW.Trod enc Tryz.prog W base sp held 59 v d p) : ∃ p0 p1 p2 p3 : Int, v = .agg #[.int .i64 p0, .int .i64 p1, .int .i64 p2, .int .i64 p3] ∧ (Lit.int .i64 p0).wf = true ∧ (Lit.int .i64 p1).wf = true ∧ (Lit.int .i64 p2).wf = true ∧ (Lit.int .i64 p3).wf = true := by
  obtain ⟨cs, rfl, _⟩ := okWide_struct Tryz.underlying59 hv
  obtain ⟨fuel, hf⟩ := h
  obtain ⟨p0, p1, p2, p3, hc, hw⟩ := ce_cells hf
  refine ⟨p0, p1, p2, p3, ?_, hw⟩
  have : cs.toList = [.int .i64 p0, .int .i64 p1, .int .i64 p2, .int .i64 p3] := by simpa [Value.cells] using hc
  rw [← Array.toArray_toList (xs := cs), this]

theorem isCes_of_trod {H : Type} {enc : TypeId × Value → H} {W : World} {fuel len cap : Nat} {a : Option Addr} {x : DataW H × List MemPlace}
    (h : DataW.trod enc Tryz.prog W 0 (fun _ => true) true fuel 25 [.slice a len cap] = some x) : ∃ zs, IsCes W a len zs := by
  rcases open_slice Tryz.underlying25 h with ⟨hcs, _⟩ | ⟨ad, l, c, m, n, D, Pl, hcs, _, hl, hm, hmm, _, hc⟩
  · simp only [List.cons.injEq, Value.slice.injEq, and_true] at hcs
    obtain ⟨rfl, rfl, rfl⟩ := hcs
    exact ⟨[], rfl, Nat.zero_le _, (fun h => absurd h (by simp)), fun z hz => by cases hz⟩
  · simp only [List.cons.injEq, Value.slice.injEq, and_true] at hcs
    obtain ⟨rfl, rfl, rfl⟩ := hcs
    simp only [if_true] at hmm
    subst hmm
    have ce : Tryz.prog.cellsOf 59 = 4 := by kernel_rfl
    have key : ∀ i, i < len → ∃ p0 p1 p2 p3 : Int, (W.cell? (ad.add (i * 4)) = some (.int .i64 p0) ∧ W.cell? (ad.add (i * 4 + 1)) = some (.int .i64 p1) ∧ W.cell? (ad.add (i * 4 + 2)) = some (.int .i64 p2) ∧ W.cell? (ad.add (i * 4 + 3)) = some (.int .i64 p3)) ∧ (Lit.int .i64 p0).wf = true ∧ (Lit.int .i64 p1).wf = true ∧ (Lit.int .i64 p2).wf = true ∧ (Lit.int .i64 p3).wf = true := fun i hi => by
      obtain ⟨cs', h1, h2⟩ := hc i (by omega)
      rw [ce] at h1
      obtain ⟨_, hlen, hcell⟩ := World.cells?_some h1
      obtain ⟨p0, p1, p2, p3, rfl, hw⟩ := ce_cells h2
      have e0 := hcell 0 (by omega)
      have e1 := hcell 1 (by omega)
      have e2 := hcell 2 (by omega)
      have e3 := hcell 3 (by omega)
      rw [add_add] at e0 e1 e2 e3
      exact ⟨p0, p1, p2, p3, ⟨by simpa using e0, by simpa using e1, by simpa using e2, by simpa using e3⟩, hw⟩
    have spot : 0 < len → ad = ⟨ad.block, ad.off, none⟩ := fun hp => by
      obtain ⟨p0, p1, p2, p3, ⟨h0, _⟩, _⟩ := key 0 hp
      have : ad.spot = none := by simpa [Addr.add] using World.cell?_spot h0
      cases ad; simp_all
    have build : ∀ k, k ≤ len → ∃ zs : List Ce, zs.length = k ∧ (∀ j, (h : j < zs.length) → W.cell? (ad.add (j * 4)) = some (.int .i64 zs[j].1) ∧ W.cell? (ad.add (j * 4 + 1)) = some (.int .i64 zs[j].2.1) ∧ W.cell? (ad.add (j * 4 + 2)) = some (.int .i64 zs[j].2.2.1) ∧ W.cell? (ad.add (j * 4 + 3)) = some (.int .i64 zs[j].2.2.2)) ∧ ∀ z ∈ zs, wfCe z := by
      intro k
      induction k with
      | zero => exact fun _ => ⟨[], rfl, fun j h => absurd h (by simp), fun z hz => by cases hz⟩
      | succ k ih =>
        intro hk
        obtain ⟨zs, hl', hz, hwz⟩ := ih (by omega)
        obtain ⟨p0, p1, p2, p3, hcc, hw⟩ := key k (by omega)
        refine ⟨zs ++ [(p0, p1, p2, p3)], by simp [hl'], fun j hj => ?_, fun z hz => ?_⟩
        · by_cases hj2 : j < zs.length
          · rw [List.getElem_append_left hj2]
            exact hz j hj2
          · have hjk : j = k := by simp at hj; omega
            subst hjk
            rw [List.getElem_append_right (by omega)]
            simp only [hl', Nat.sub_self, List.getElem_cons_zero]
            exact hcc
        · rcases List.mem_append.1 hz with h' | h'
          · exact hwz z h'
          · simp only [List.mem_singleton] at h'
            subst h'
            exact hw
    obtain ⟨zs, hl', hz, hwz⟩ := build len (Nat.le_refl _)
    refine ⟨zs, hl', Nat.le_trans hl hm, fun hp => ?_, hwz⟩
    have hs := spot (by omega)
    refine ⟨ad.block, ad.off, by rw [← hs], ?_, fun j hj => ?_⟩
    · have h0 := (hz 0 (by omega)).1
      rw [hs, addr_add_ce] at h0
      exact World.block_lt_of_cell? W ⟨ad.block, ad.off + 0 * 4, none⟩ h0
    · obtain ⟨h0, h1, h2, h3⟩ := hz j hj
      rw [hs, addr_add_ce] at h0 h1 h2 h3
      exact ⟨h0, by rw [Nat.add_assoc]; exact h1, by rw [Nat.add_assoc]; exact h2, by rw [Nat.add_assoc]; exact h3⟩
end Go.Proofs.YtlanmkimaambgaaGreat.hexes

namespace Go.Proofs.YtlanmkimaambgaaGreat.hexes
open Go.RowKit

theorem ces_drew {w : World} {A : Option Addr} {zs : List Ce} (h : Ces w A zs) : Ces w.drew A zs := h
theorem XB.wrote {w w' : World} {b : Nat} {x0 x1 x2 x3 : Int} {lo hi : Nat} (h : XB b x0 x1 x2 x3 w) (hw : Wrote w w' lo hi) (hd : b < lo ∨ hi ≤ b) : XB b x0 x1 x2 x3 w' := by
  obtain ⟨row, hg, hr⟩ := hw
  exact h.grown hg (fun e => by have := hr b e; omega)
theorem Row.base {w : World} {lo lo' hi e size n c : Nat} {A : Option Addr} {xs : List Value} (h : Row w lo hi e size A n c xs) (hl : lo' ≤ lo) : Row w lo' hi e size A n c xs := ⟨own_base h.own hl, h.lt⟩
end Go.Proofs.YtlanmkimaambgaaGreat.hexes

namespace Go.Proofs.YtlanmkimaambgaaGreat.hexes
open Go.RowKit Go.ChangeShapes Go.WideShapes Go.Deep Go.Joins

/-- WHAT THE WALK IS TOLD OF A LIST THAT CAME IN. -/
structure IsRcs (w : World) (a : Option Addr) (n : Nat) (zs : List Rc) : Prop where
  len : zs.length = n
  max : n ≤ maxLen
  rcs : Rcs w a zs
  wf : ∀ z ∈ zs, wfRc z

theorem addr_add_rc (b off : Nat) (j : Nat) : (Addr.add ⟨b, off, none⟩ j) = ⟨b, off + j, none⟩ := by unfold Addr.add; split <;> simp_all

theorem rc_cells {H : Type} {enc : TypeId × Value → H} {W : World} {base : Nat} {sp : Nat → Bool} {held : Bool} {fuel : Nat} {cs : List Value} {x : DataW H × List MemPlace}
    (h : DataW.trod enc Tryz.prog W base sp held fuel 63 cs = some x) : ∃ p0 p1 p2 p3 p4 : Int, cs = [.int .i64 p0, .int .i64 p1, .int .i64 p2, .int .i64 p3, .int .i64 p4] ∧ (Lit.int .i64 p0).wf = true ∧ (Lit.int .i64 p1).wf = true ∧ (Lit.int .i64 p2).wf = true ∧ (Lit.int .i64 p3).wf = true ∧ (Lit.int .i64 p4).wf = true := by
  have ce_int : Tryz.prog.cellsOf 3 = 1 := by kernel_rfl
  have ce_Stamp : Tryz.prog.cellsOf 61 = 2 := by kernel_rfl
  have ce : Tryz.prog.cellsOf 63 = 5 := by kernel_rfl
  have hlen : cs.length = 5 := by
    obtain ⟨_, _, _, _, hl, _⟩ := DataW.trod_struct Tryz.underlying63 h
    rw [ce] at hl
    exact hl
  obtain ⟨v0, v1, v2, v3, v4, rfl⟩ : ∃ v0 v1 v2 v3 v4, cs = [v0, v1, v2, v3, v4] := by
    rcases cs with _ | ⟨u0, _ | ⟨u1, _ | ⟨u2, _ | ⟨u3, _ | ⟨u4, _ | ⟨u5, us⟩⟩⟩⟩⟩⟩
    · simp at hlen
    · simp at hlen
    · simp at hlen
    · simp at hlen
    · simp at hlen
    · exact ⟨u0, u1, u2, u3, u4, rfl⟩
    · simp at hlen
  obtain ⟨xs_1, k_1, _, _, hl_1, hxl_1, hf_1⟩ := DataW.trod_struct Tryz.underlying63 h
  have hxl2_1 : xs_1.length = 4 := hxl_1
  clear hxl_1 hl_1
  obtain ⟨y_1_0, y_1_1, y_1_2, y_1_3, rfl⟩ : ∃ y_1_0 y_1_1 y_1_2 y_1_3, xs_1 = [y_1_0, y_1_1, y_1_2, y_1_3] := by
    rcases xs_1 with _ | ⟨z0, _ | ⟨z1, _ | ⟨z2, _ | ⟨z3, _ | ⟨z4, zs⟩⟩⟩⟩⟩
    · simp at hxl2_1
    · simp at hxl2_1
    · simp at hxl2_1
    · simp at hxl2_1
    · exact ⟨z0, z1, z2, z3, rfl⟩
    · simp at hxl2_1
  have g_1_0 := hf_1 0 _ rfl
  have g_1_1 := hf_1 1 _ rfl
  have g_1_2 := hf_1 2 _ rfl
  have g_1_3 := hf_1 3 _ rfl
  simp [ce_int, ce_Stamp] at g_1_0 g_1_1 g_1_2 g_1_3
  clear hf_1
  obtain ⟨p0, e0, _, w0⟩ := DataW.trod_int Tryz.underlying3 g_1_0
  simp only [List.cons.injEq, and_true] at e0
  obtain ⟨xs_2, k_2, _, _, hl_2, hxl_2, hf_2⟩ := DataW.trod_struct Tryz.underlying61 g_1_1
  have hxl2_2 : xs_2.length = 2 := hxl_2
  clear hxl_2 hl_2
  obtain ⟨y_2_0, y_2_1, rfl⟩ : ∃ y_2_0 y_2_1, xs_2 = [y_2_0, y_2_1] := by
    rcases xs_2 with _ | ⟨z0, _ | ⟨z1, _ | ⟨z2, zs⟩⟩⟩
    · simp at hxl2_2
    · simp at hxl2_2
    · exact ⟨z0, z1, rfl⟩
    · simp at hxl2_2
  have g_2_0 := hf_2 0 _ rfl
  have g_2_1 := hf_2 1 _ rfl
  simp [ce_int] at g_2_0 g_2_1
  clear hf_2
  obtain ⟨p1, e1, _, w1⟩ := DataW.trod_int Tryz.underlying3 g_2_0
  simp only [List.cons.injEq, and_true] at e1
  obtain ⟨p2, e2, _, w2⟩ := DataW.trod_int Tryz.underlying3 g_2_1
  simp only [List.cons.injEq, and_true] at e2
  obtain ⟨p3, e3, _, w3⟩ := DataW.trod_int Tryz.underlying3 g_1_2
  simp only [List.cons.injEq, and_true] at e3
  obtain ⟨p4, e4, _, w4⟩ := DataW.trod_int Tryz.underlying3 g_1_3
  simp only [List.cons.injEq, and_true] at e4
  exact ⟨p0, p1, p2, p3, p4, by rw [e0, e1, e2, e3, e4], w0, w1, w2, w3, w4⟩

set_option maxRecDepth 100000 in
theorem isRc_of_trod {H : Type} {enc : TypeId × Value → H} {W : World} {base : Nat} {sp : Nat → Bool} {held : Bool} {r : Reach} {b0 : Nat} {v : Value} {d : DataW H} {p : List MemPlace}
    (hv : Value.okWide Tryz.prog W r b0 63 v) (h : DataW.Trod enc Tryz.prog W base sp held 63 v d p) : ∃ p0 p1 p2 p3 p4 : Int, v = .agg #[.int .i64 p0, .int .i64 p1, .int .i64 p2, .int .i64 p3, .int .i64 p4] ∧ (Lit.int .i64 p0).wf = true ∧ (Lit.int .i64 p1).wf = true ∧ (Lit.int .i64 p2).wf = true ∧ (Lit.int .i64 p3).wf = true ∧ (Lit.int .i64 p4).wf = true := by
  obtain ⟨cs, rfl, _⟩ := okWide_struct Tryz.underlying63 hv
  obtain ⟨fuel, hf⟩ := h
  obtain ⟨p0, p1, p2, p3, p4, hc, hw⟩ := rc_cells hf
  refine ⟨p0, p1, p2, p3, p4, ?_, hw⟩
  have : cs.toList = [.int .i64 p0, .int .i64 p1, .int .i64 p2, .int .i64 p3, .int .i64 p4] := by simpa [Value.cells] using hc
  rw [← Array.toArray_toList (xs := cs), this]

theorem isRcs_of_trod {H : Type} {enc : TypeId × Value → H} {W : World} {fuel len cap : Nat} {a : Option Addr} {x : DataW H × List MemPlace}
    (h : DataW.trod enc Tryz.prog W 0 (fun _ => true) true fuel 26 [.slice a len cap] = some x) : ∃ zs, IsRcs W a len zs := by
  rcases open_slice Tryz.underlying26 h with ⟨hcs, _⟩ | ⟨ad, l, c, m, n, D, Pl, hcs, _, hl, hm, hmm, _, hc⟩
  · simp only [List.cons.injEq, Value.slice.injEq, and_true] at hcs
    obtain ⟨rfl, rfl, rfl⟩ := hcs
    exact ⟨[], rfl, Nat.zero_le _, (fun h => absurd h (by simp)), fun z hz => by cases hz⟩
  · simp only [List.cons.injEq, Value.slice.injEq, and_true] at hcs
    obtain ⟨rfl, rfl, rfl⟩ := hcs
    simp only [if_true] at hmm
    subst hmm
    have ce : Tryz.prog.cellsOf 63 = 5 := by kernel_rfl
    have key : ∀ i, i < len → ∃ p0 p1 p2 p3 p4 : Int, (W.cell? (ad.add (i * 5)) = some (.int .i64 p0) ∧ W.cell? (ad.add (i * 5 + 1)) = some (.int .i64 p1) ∧ W.cell? (ad.add (i * 5 + 2)) = some (.int .i64 p2) ∧ W.cell? (ad.add (i * 5 + 3)) = some (.int .i64 p3) ∧ W.cell? (ad.add (i * 5 + 4)) = some (.int .i64 p4)) ∧ (Lit.int .i64 p0).wf = true ∧ (Lit.int .i64 p1).wf = true ∧ (Lit.int .i64 p2).wf = true ∧ (Lit.int .i64 p3).wf = true ∧ (Lit.int .i64 p4).wf = true := fun i hi => by
      obtain ⟨cs', h1, h2⟩ := hc i (by omega)
      rw [ce] at h1
      obtain ⟨_, hlen, hcell⟩ := World.cells?_some h1
      obtain ⟨p0, p1, p2, p3, p4, rfl, hw⟩ := rc_cells h2
      have e0 := hcell 0 (by omega)
      have e1 := hcell 1 (by omega)
      have e2 := hcell 2 (by omega)
      have e3 := hcell 3 (by omega)
      have e4 := hcell 4 (by omega)
      rw [add_add] at e0 e1 e2 e3 e4
      exact ⟨p0, p1, p2, p3, p4, ⟨by simpa using e0, by simpa using e1, by simpa using e2, by simpa using e3, by simpa using e4⟩, hw⟩
    have spot : 0 < len → ad = ⟨ad.block, ad.off, none⟩ := fun hp => by
      obtain ⟨p0, p1, p2, p3, p4, ⟨h0, _⟩, _⟩ := key 0 hp
      have : ad.spot = none := by simpa [Addr.add] using World.cell?_spot h0
      cases ad; simp_all
    have build : ∀ k, k ≤ len → ∃ zs : List Rc, zs.length = k ∧ (∀ j, (h : j < zs.length) → W.cell? (ad.add (j * 5)) = some (.int .i64 zs[j].1) ∧ W.cell? (ad.add (j * 5 + 1)) = some (.int .i64 zs[j].2.1.1) ∧ W.cell? (ad.add (j * 5 + 2)) = some (.int .i64 zs[j].2.1.2) ∧ W.cell? (ad.add (j * 5 + 3)) = some (.int .i64 zs[j].2.2.1) ∧ W.cell? (ad.add (j * 5 + 4)) = some (.int .i64 zs[j].2.2.2)) ∧ ∀ z ∈ zs, wfRc z := by
      intro k
      induction k with
      | zero => exact fun _ => ⟨[], rfl, fun j h => absurd h (by simp), fun z hz => by cases hz⟩
      | succ k ih =>
        intro hk
        obtain ⟨zs, hl', hz, hwz⟩ := ih (by omega)
        obtain ⟨p0, p1, p2, p3, p4, hcc, hw⟩ := key k (by omega)
        refine ⟨zs ++ [(p0, (p1, p2), p3, p4)], by simp [hl'], fun j hj => ?_, fun z hz => ?_⟩
        · by_cases hj2 : j < zs.length
          · rw [List.getElem_append_left hj2]
            exact hz j hj2
          · have hjk : j = k := by simp at hj; omega
            subst hjk
            rw [List.getElem_append_right (by omega)]
            simp only [hl', Nat.sub_self, List.getElem_cons_zero]
            exact hcc
        · rcases List.mem_append.1 hz with h' | h'
          · exact hwz z h'
          · simp only [List.mem_singleton] at h'
            subst h'
            exact hw
    obtain ⟨zs, hl', hz, hwz⟩ := build len (Nat.le_refl _)
    refine ⟨zs, hl', Nat.le_trans hl hm, fun hp => ?_, hwz⟩
    have hs := spot (by omega)
    refine ⟨ad.block, ad.off, by rw [← hs], ?_, fun j hj => ?_⟩
    · have h0 := (hz 0 (by omega)).1
      rw [hs, addr_add_rc] at h0
      exact World.block_lt_of_cell? W ⟨ad.block, ad.off + 0 * 5, none⟩ h0
    · obtain ⟨h0, h1, h2, h3, h4⟩ := hz j hj
      rw [hs, addr_add_rc] at h0 h1 h2 h3 h4
      exact ⟨h0, by rw [Nat.add_assoc]; exact h1, by rw [Nat.add_assoc]; exact h2, by rw [Nat.add_assoc]; exact h3, by rw [Nat.add_assoc]; exact h4⟩
end Go.Proofs.YtlanmkimaambgaaGreat.hexes

