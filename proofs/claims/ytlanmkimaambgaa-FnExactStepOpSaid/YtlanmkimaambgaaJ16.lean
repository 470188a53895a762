/-
  Lists of Record in memory: how they lie there, and the contracts of the laws' own functions on them.
-/
import Derived.Test.YtlanmkimaambgaaJ15
import Derived.Test.YtlanmkimaambgaaJ1

namespace Go.Proofs.Ytlanmkimaambgaa.hexes
open Go.RowKit

/-- A list of Record as a row of cells. -/
def rcCells (zs : List Rc) : List Value := zs.flatMap fun z => [.int .i64 z.1, .int .i64 z.2.1.1, .int .i64 z.2.1.2, .int .i64 z.2.2.1, .int .i64 z.2.2.2]

theorem rcCells_cons (z : Rc) (zs : List Rc) : rcCells (z :: zs) = .int .i64 z.1 :: .int .i64 z.2.1.1 :: .int .i64 z.2.1.2 :: .int .i64 z.2.2.1 :: .int .i64 z.2.2.2 :: rcCells zs := rfl
theorem rcCells_append (a b : List Rc) : rcCells (a ++ b) = rcCells a ++ rcCells b := by simp [rcCells]
theorem rcCells_length (zs : List Rc) : (rcCells zs).length = zs.length * 5 := by
  induction zs with
  | nil => rfl
  | cons z zs ih => rw [rcCells_cons]; simp only [List.length_cons, ih]; omega
theorem rcCells_at (zs : List Rc) (j : Nat) (h : j < zs.length) : (rcCells zs)[j * 5]? = some (.int .i64 zs[j].1) ∧ (rcCells zs)[j * 5 + 1]? = some (.int .i64 zs[j].2.1.1) ∧ (rcCells zs)[j * 5 + 2]? = some (.int .i64 zs[j].2.1.2) ∧ (rcCells zs)[j * 5 + 3]? = some (.int .i64 zs[j].2.2.1) ∧ (rcCells zs)[j * 5 + 4]? = some (.int .i64 zs[j].2.2.2) := by
  induction zs generalizing j with
  | nil => simp at h
  | cons z zs ih =>
    rw [rcCells_cons]
    cases j with
    | zero => exact ⟨rfl, rfl, rfl, rfl, rfl⟩
    | succ j =>
      have := ih j (by simpa using h)
      rw [show (j + 1) * 5 = j * 5 + 1 + 1 + 1 + 1 + 1 by omega]
      simpa using this
theorem rcCells_one {zs : List Rc} {u : Value} (h : u ∈ rcCells zs) : u.oneCell' = true := by
  simp only [rcCells, List.mem_flatMap, List.mem_cons, List.not_mem_nil, or_false] at h
  obtain ⟨z, _, rfl | rfl | rfl | rfl | rfl⟩ := h <;> rfl

/-- A list of Record that can be read at A. -/
def Rcs (w : World) (A : Option Addr) (zs : List Rc) : Prop :=
  0 < zs.length → ∃ b off, A = some ⟨b, off, none⟩ ∧ b < w.heap.size ∧ ∀ j, (h : j < zs.length) → w.cell? ⟨b, off + j * 5, none⟩ = some (.int .i64 zs[j].1) ∧ w.cell? ⟨b, off + j * 5 + 1, none⟩ = some (.int .i64 zs[j].2.1.1) ∧ w.cell? ⟨b, off + j * 5 + 2, none⟩ = some (.int .i64 zs[j].2.1.2) ∧ w.cell? ⟨b, off + j * 5 + 3, none⟩ = some (.int .i64 zs[j].2.2.1) ∧ w.cell? ⟨b, off + j * 5 + 4, none⟩ = some (.int .i64 zs[j].2.2.2)

theorem Rcs.below {w w' : World} {A : Option Addr} {zs : List Rc} (h : Rcs w A zs) (hb : Below w.heap.size w w') : Rcs w' A zs := fun hl => by
  obtain ⟨b, off, hA, hlt, hz⟩ := h hl
  refine ⟨b, off, hA, Nat.lt_of_lt_of_le hlt hb.size, fun j hj => ?_⟩
  obtain ⟨h0, h1, h2, h3, h4⟩ := hz j hj
  exact ⟨below_keep hb h0, below_keep hb h1, below_keep hb h2, below_keep hb h3, below_keep hb h4⟩

theorem Rcs.of_own {w : World} {B e n : Nat} {v : Value} {zs : List Rc} (h : w.ownsRow B e 5 v n (rcCells zs)) : ∃ A cap, v = .slice A n cap ∧ zs.length = n ∧ Rcs w A zs := by
  have hl : zs.length = n := by have := h.1; rw [rcCells_length] at this; omega
  rcases h.2 with ⟨rfl, rfl⟩ | ⟨g, cap, cur, rfl, _, hg, hnc, _, hcs, htk⟩
  · exact ⟨none, 0, rfl, hl, fun h => absurd h (by omega)⟩
  · refine ⟨some ⟨g, 0, none⟩, cap, rfl, hl, fun hp => ⟨g, 0, rfl, ?_, fun j hj => ?_⟩⟩
    · rcases Nat.lt_or_ge g w.heap.size with hlt | hge
      · exact hlt
      · rw [Array.getElem?_eq_none hge] at hg; cases hg
    · have key : ∀ i u, (rcCells zs)[i]? = some u → w.cell? ⟨g, i, none⟩ = some u := fun i u hu => by
        rw [cell_of_row w g i cur e (0, 0) hg]
        rw [← htk, List.getElem?_take] at hu
        split at hu
        · simpa using hu
        · cases hu
      rw [Nat.zero_add]
      obtain ⟨h0, h1, h2, h3, h4⟩ := rcCells_at zs j hj
      exact ⟨key _ _ h0, key _ _ h1, key _ _ h2, key _ _ h3, key _ _ h4⟩

/-- The k-th entry of a list that can be read, cell by cell. -/
theorem Rcs.at {w : World} {A : Option Addr} {zs : List Rc} (h : Rcs w A zs) {k : Nat} (hk : k < zs.length) : ∃ b off p0 p1 p2 p3 p4, A = some ⟨b, off, none⟩ ∧ zs[k] = (p0, (p1, p2), p3, p4) ∧ w.cell? ⟨b, off + k * 5, none⟩ = some (.int .i64 p0) ∧ w.cell? ⟨b, off + k * 5 + 1, none⟩ = some (.int .i64 p1) ∧ w.cell? ⟨b, off + k * 5 + 2, none⟩ = some (.int .i64 p2) ∧ w.cell? ⟨b, off + k * 5 + 3, none⟩ = some (.int .i64 p3) ∧ w.cell? ⟨b, off + k * 5 + 4, none⟩ = some (.int .i64 p4) := by
  obtain ⟨b, off, hA, _, hz⟩ := h (by omega)
  obtain ⟨h0, h1, h2, h3, h4⟩ := hz k hk
  exact ⟨b, off, zs[k].1, zs[k].2.1.1, zs[k].2.1.2, zs[k].2.2.1, zs[k].2.2.2, hA, rfl, h0, h1, h2, h3, h4⟩

theorem Rcs.news {w : World} {ad : Addr} {ys : List Rc} (h : Rcs w (some ad) ys) (j : Nat) (u : Value) (hu : (rcCells ys)[j]? = some u) : w.cell? (ad.add j) = some u := by
  have hj : j < ys.length * 5 := by rw [← rcCells_length]; exact (List.getElem?_eq_some_iff.1 hu).1
  obtain ⟨b, off, hA, _, hz⟩ := h (by omega)
  obtain rfl : ad = ⟨b, off, none⟩ := Option.some.inj hA
  rw [addr_add1]
  have hk : j / 5 < ys.length := by omega
  obtain ⟨e0, e1, e2, e3, e4⟩ := rcCells_at ys (j / 5) hk
  obtain ⟨z0, z1, z2, z3, z4⟩ := hz (j / 5) hk
  have hm : j % 5 = 0 ∨ j % 5 = 1 ∨ j % 5 = 2 ∨ j % 5 = 3 ∨ j % 5 = 4 := by omega
  rcases hm with h2 | h2 | h2 | h2 | h2
  · rw [show j / 5 * 5 = j by omega] at e0
    rw [show off + j / 5 * 5 = off + j by omega] at z0
    rw [z0, ← hu, e0]
  · rw [show j / 5 * 5 + 1 = j by omega] at e1
    rw [show off + j / 5 * 5 + 1 = off + j by omega] at z1
    rw [z1, ← hu, e1]
  · rw [show j / 5 * 5 + 2 = j by omega] at e2
    rw [show off + j / 5 * 5 + 2 = off + j by omega] at z2
    rw [z2, ← hu, e2]
  · rw [show j / 5 * 5 + 3 = j by omega] at e3
    rw [show off + j / 5 * 5 + 3 = off + j by omega] at z3
    rw [z3, ← hu, e3]
  · rw [show j / 5 * 5 + 4 = j by omega] at e4
    rw [show off + j / 5 * 5 + 4 = off + j by omega] at z4
    rw [z4, ← hu, e4]

theorem rcs_none {w : World} {n : Nat} {zs : List Rc} (h : Rcs w none zs) (hz : zs.length = n) : n = 0 := by
  rcases Nat.eq_zero_or_pos n with h0 | h0
  · exact h0
  · obtain ⟨b, off, hA, _⟩ := h (by omega)
    cases hA

theorem take_step_rc {zs ys : List Rc} {k : Nat} (h1 : k < zs.length) (h2 : k < ys.length) (ht : zs.take k = ys.take k) (he : zs[k] = ys[k]) : zs.take (k + 1) = ys.take (k + 1) := by
  rw [List.take_succ_eq_append_getElem h1, List.take_succ_eq_append_getElem h2, ht, he]

theorem eqRc_is {p0 p1 p2 p3 p4 q0 q1 q2 q3 q4 : Int} {b : Bool} (h : decide (p0 = q0 ∧ p1 = q1 ∧ p2 = q2 ∧ p3 = q3 ∧ p4 = q4) = b) (W : World) : Calls Try.prog 61 #[.agg #[.int .i64 p0, .int .i64 p1, .int .i64 p2, .int .i64 p3, .int .i64 p4], .agg #[.int .i64 q0, .int .i64 q1, .int .i64 q2, .int .i64 q3, .int .i64 q4]] W fun e w' => e = .returned (.bool b) ∧ Below W.heap.size W w' := by
  subst h; exact eqRecord_any _ _ _ _ _ _ _ _ _ _ W

set_option maxRecDepth 100000 in
theorem eqRcS_same (n : Nat) (zs ys : List Rc) (hz : zs.length = n) (hy : ys.length = n) (A1 A2 : Option Addr) (c1 c2 : Nat) (w : World) (h1 : Rcs w A1 zs) (h2 : Rcs w A2 ys) (hn : n ≤ 4194304) :
    Calls Try.prog 24 #[.slice A1 n c1, .slice A2 n c2] w fun e w' => e = .returned (.bool (decide (zs = ys))) ∧ Below w.heap.size w w' := by
  have H1 := Lib.hid h1
  have H2 := Lib.hid h2
  have HZ := Lib.hid hz
  have HY := Lib.hid hy
  clear h1 h2 hz hy
  go_enter Try.func24, Try.ntmps24
  go_wp2
  go_loopw [5] (fun i wr => ∃ k : Nat, k ≤ n ∧ i = .int .i64 k ∧ zs.take k = ys.take k ∧ Below w.heap.size w wr) (fun i _ => n - (intOf i).toNat)
  case atStart => exact ⟨0, Nat.zero_le _, rfl, rfl, Below.refl _ _⟩
  case round =>
    obtain ⟨k, hk, rfl, ht, hb⟩ := hrel
    have HT := Lib.hid ht
    have HB := Lib.hid hb
    by_cases hlt : k < n
    · have l1 : k < zs.length := by rw [HZ.out]; exact hlt
      have l2 : k < ys.length := by rw [HY.out]; exact hlt
      obtain ⟨b1, o1, p0, p1, p2, p3, p4, rfl, x1, e0, e1, e2, e3, e4⟩ := (H1.out.below hb).at l1
      obtain ⟨b2, o2, q0, q1, q2, q3, q4, rfl, x2, f0, f1, f2, f3, f4⟩ := (H2.out.below hb).at l2
      have X1 := Lib.hid x1
      have X2 := Lib.hid x2
      have i0 : (0 : Int) ≤ (k : Int) := by omega
      have i1 : (k : Int) < (n : Int) := by omega
      clear ht hb x1 x2
      by_cases he : p0 = q0 ∧ p1 = q1 ∧ p2 = q2 ∧ p3 = q3 ∧ p4 = q4
      · have E := Lib.hid (fun W => eqRc_is (b := true) (decide_eq_true he) W)
        obtain ⟨rfl, rfl, rfl, rfl, rfl⟩ := he
        have HT2 := Lib.hid (take_step_rc l1 l2 HT.out (X1.out.trans X2.out.symm))
        clear HT X1 X2 l1 l2
        go_wp2_with fail
        go_region_held3 (fun w' => w'.cell? ⟨b1, o1 + k * 5, none⟩ = some (.int .i64 p0) ∧ w'.cell? ⟨b1, o1 + k * 5 + 1, none⟩ = some (.int .i64 p1) ∧ w'.cell? ⟨b1, o1 + k * 5 + 2, none⟩ = some (.int .i64 p2) ∧ w'.cell? ⟨b1, o1 + k * 5 + 3, none⟩ = some (.int .i64 p3) ∧ w'.cell? ⟨b1, o1 + k * 5 + 4, none⟩ = some (.int .i64 p4) ∧ w'.cell? ⟨b2, o2 + k * 5, none⟩ = some (.int .i64 p0) ∧ w'.cell? ⟨b2, o2 + k * 5 + 1, none⟩ = some (.int .i64 p1) ∧ w'.cell? ⟨b2, o2 + k * 5 + 2, none⟩ = some (.int .i64 p2) ∧ w'.cell? ⟨b2, o2 + k * 5 + 3, none⟩ = some (.int .i64 p3) ∧ w'.cell? ⟨b2, o2 + k * 5 + 4, none⟩ = some (.int .i64 p4))
          (((try go_split_ands); refine ⟨?_, ?_, ?_, ?_, ?_, ?_, ?_, ?_, ?_, ?_⟩ <;> (repeat (first | with_reducible assumption | with_reducible refine drew_keep ?_ | with_reducible refine below_keep hbd ?_))))
          (first | (go_at_call 61; with_reducible refine (E.out _).mono ?_; rintro e w5 ⟨rfl, hbd⟩))
        have B5 := below_chain HB.out.drew hbd
        clear hbd
        go_wp2
        go_roundw
        case rel => exact ⟨k + 1, by omega, by go_num, HT2.out, B5⟩
        case measure => simp [intOf]; omega
      · have E := Lib.hid (fun W => eqRc_is (b := false) (decide_eq_false he) W)
        have hne : decide (zs = ys) = false := by
          simp only [decide_eq_false_iff_not]
          rintro rfl
          have := X1.out.symm.trans X2.out
          simp only [Prod.mk.injEq, and_assoc] at this
          exact he this
        have HN := Lib.hid hne
        clear HT X1 X2 l1 l2 he hne
        go_wp2_with fail
        go_region_held3 (fun w' => w'.cell? ⟨b1, o1 + k * 5, none⟩ = some (.int .i64 p0) ∧ w'.cell? ⟨b1, o1 + k * 5 + 1, none⟩ = some (.int .i64 p1) ∧ w'.cell? ⟨b1, o1 + k * 5 + 2, none⟩ = some (.int .i64 p2) ∧ w'.cell? ⟨b1, o1 + k * 5 + 3, none⟩ = some (.int .i64 p3) ∧ w'.cell? ⟨b1, o1 + k * 5 + 4, none⟩ = some (.int .i64 p4) ∧ w'.cell? ⟨b2, o2 + k * 5, none⟩ = some (.int .i64 q0) ∧ w'.cell? ⟨b2, o2 + k * 5 + 1, none⟩ = some (.int .i64 q1) ∧ w'.cell? ⟨b2, o2 + k * 5 + 2, none⟩ = some (.int .i64 q2) ∧ w'.cell? ⟨b2, o2 + k * 5 + 3, none⟩ = some (.int .i64 q3) ∧ w'.cell? ⟨b2, o2 + k * 5 + 4, none⟩ = some (.int .i64 q4))
          (((try go_split_ands); refine ⟨?_, ?_, ?_, ?_, ?_, ?_, ?_, ?_, ?_, ?_⟩ <;> (repeat (first | with_reducible assumption | with_reducible refine drew_keep ?_ | with_reducible refine below_keep hbd ?_))))
          (first | (go_at_call 61; with_reducible refine (E.out _).mono ?_; rintro e w5 ⟨rfl, hbd⟩))
        have B5 := below_chain HB.out.drew hbd
        clear hbd
        go_wp2
        go_ret
        exact ⟨congrArg (fun b => Ending.returned (Value.bool b)) HN.out.symm, B5⟩
    · have hkn : k = n := by omega
      have heq : zs = ys := by
        have h3 := HT.out
        rw [List.take_of_length_le (by rw [HZ.out]; omega), List.take_of_length_le (by rw [HY.out]; omega)] at h3
        exact h3
      have hd : decide (zs = ys) = true := by simp [heq]
      have HD := Lib.hid hd
      clear heq hd HT ht
      go_wp2
      go_ret
      exact ⟨congrArg (fun b => Ending.returned (Value.bool b)) HD.out.symm, HB.out⟩

theorem eqRcS_any (n m : Nat) (zs ys : List Rc) (hz : zs.length = n) (hy : ys.length = m) (A1 A2 : Option Addr) (c1 c2 : Nat) (w : World) (h1 : Rcs w A1 zs) (h2 : Rcs w A2 ys) (hn : n ≤ 4194304) :
    Calls Try.prog 24 #[.slice A1 n c1, .slice A2 m c2] w fun e w' => e = .returned (.bool (decide (zs = ys))) ∧ Below w.heap.size w w' := by
  by_cases h : n = m
  · subst h
    exact eqRcS_same n zs ys hz hy A1 A2 c1 c2 w h1 h2 hn
  · have hd : decide (zs = ys) = false := by
      simp only [decide_eq_false_iff_not]
      rintro rfl
      omega
    rw [hd]
    have hc : ((n : Int) != (m : Int)) = true := by simp; omega
    clear hz hy h1 h2 hd
    go_enter Try.func24, Try.ntmps24
    go_wp2
    go_ret
    exact ⟨rfl, Below.refl _ _⟩

theorem rcinfo : (Try.prog.info? 31).map (fun i => (i.zero, i.size, i.bytes)) = some (some (.agg #[.int .i64 0, .int .i64 0, .int .i64 0, .int .i64 0, .int .i64 0]), 5, 40) := by kernel_rfl

theorem rcCells_set (zs : List Rc) (k : Nat) (p0 p1 p2 p3 p4 : Int) : (((((rcCells zs).set (k * 5) (.int .i64 p0)).set (k * 5 + 1) (.int .i64 p1)).set (k * 5 + 2) (.int .i64 p2)).set (k * 5 + 3) (.int .i64 p3)).set (k * 5 + 4) (.int .i64 p4) = rcCells (zs.set k (p0, (p1, p2), p3, p4)) := by
  induction zs generalizing k with
  | nil => simp [rcCells]
  | cons z zs ih =>
    cases k with
    | zero => rfl
    | succ k =>
      rw [rcCells_cons, List.set_cons_succ, rcCells_cons, ← ih k, show (k + 1) * 5 = k * 5 + 5 by omega, show k * 5 + 5 + 1 = (k * 5 + 1) + 5 by omega, show k * 5 + 5 + 2 = (k * 5 + 2) + 5 by omega, show k * 5 + 5 + 3 = (k * 5 + 3) + 5 by omega, show k * 5 + 5 + 4 = (k * 5 + 4) + 5 by omega]
      rfl

/-- A store of one into an owned row. -/
theorem own_stored_rc {w : World} {base e g n cap : Nat} {ys : List Rc} (h : w.ownsRow base e 5 (.slice (some ⟨g, 0, none⟩) n cap) n (rcCells ys)) (k : Nat) (p0 p1 p2 p3 p4 : Int) :
    ((((((w).setCell ⟨g, k * 5, none⟩ (.int .i64 p0)).setCell ⟨g, k * 5 + 1, none⟩ (.int .i64 p1)).setCell ⟨g, k * 5 + 2, none⟩ (.int .i64 p2)).setCell ⟨g, k * 5 + 3, none⟩ (.int .i64 p3)).setCell ⟨g, k * 5 + 4, none⟩ (.int .i64 p4)).ownsRow base e 5 (.slice (some ⟨g, 0, none⟩) n cap) n (rcCells (ys.set k (p0, (p1, p2), p3, p4))) ∧ w.grownBy ((((((w).setCell ⟨g, k * 5, none⟩ (.int .i64 p0)).setCell ⟨g, k * 5 + 1, none⟩ (.int .i64 p1)).setCell ⟨g, k * 5 + 2, none⟩ (.int .i64 p2)).setCell ⟨g, k * 5 + 3, none⟩ (.int .i64 p3)).setCell ⟨g, k * 5 + 4, none⟩ (.int .i64 p4)) (some g) := by
  have s0 := h.stored (k * 5) (.int .i64 p0)
  have s1 := s0.1.stored (k * 5 + 1) (.int .i64 p1)
  have s2 := s1.1.stored (k * 5 + 2) (.int .i64 p2)
  have s3 := s2.1.stored (k * 5 + 3) (.int .i64 p3)
  have s4 := s3.1.stored (k * 5 + 4) (.int .i64 p4)
  have hl := s4.1
  rw [rcCells_set] at hl
  exact ⟨hl, grown_trans (grown_trans (grown_trans (grown_trans s0.2 s1.2) s2.2) s3.2) s4.2⟩

/-- The marks that the laws lay into a list of Record. -/
def rcMarks (k n : Nat) : List Rc := (List.range n).map fun i => (((k + 5 * i : Nat) : Int), (((k + 5 * i + 1 : Nat) : Int), ((k + 5 * i + 2 : Nat) : Int)), ((k + 5 * i + 3 : Nat) : Int), ((k + 5 * i + 4 : Nat) : Int))

theorem rcMarks_length (k n : Nat) : (rcMarks k n).length = n := by simp [rcMarks]
theorem rcMarks_succ (k n : Nat) : rcMarks k (n + 1) = rcMarks k n ++ [(((k + 5 * n : Nat) : Int), (((k + 5 * n + 1 : Nat) : Int), ((k + 5 * n + 2 : Nat) : Int)), ((k + 5 * n + 3 : Nat) : Int), ((k + 5 * n + 4 : Nat) : Int))] := by
  unfold rcMarks; rw [List.range_succ, List.map_append]; rfl
theorem rcMarks_at (k n j : Nat) (h : j < (rcMarks k n).length) : (rcMarks k n)[j] = (((k + 5 * j : Nat) : Int), (((k + 5 * j + 1 : Nat) : Int), ((k + 5 * j + 2 : Nat) : Int)), ((k + 5 * j + 3 : Nat) : Int), ((k + 5 * j + 4 : Nat) : Int)) := by simp [rcMarks]
theorem rcMarks_set {zs : List Rc} {k i n : Nat} (hi : i < n) (hl : zs.length = n) : (rcMarks k i ++ zs.drop i).set i (((k + 5 * i : Nat) : Int), (((k + 5 * i + 1 : Nat) : Int), ((k + 5 * i + 2 : Nat) : Int)), ((k + 5 * i + 3 : Nat) : Int), ((k + 5 * i + 4 : Nat) : Int)) = rcMarks k (i + 1) ++ zs.drop (i + 1) := by
  have l1 := rcMarks_length k i
  rw [List.set_append_right _ _ (by omega), l1, Nat.sub_self, List.drop_eq_getElem_cons (by omega), List.set_cons_zero, rcMarks_succ]
  simp only [List.append_assoc, List.singleton_append]

set_option maxRecDepth 100000 in
theorem markRcS_any (n k0 B : Nat) (zs : List Rc) (hz : zs.length = n) (v : Value) (w : World) (h : w.ownsRow B 31 5 v n (rcCells zs)) (hn : n ≤ 4194304) (hk1 : k0 ≤ 41943040) :
    Calls Try.prog 28 #[v, .int .i64 (k0 : Int)] w fun e w' => e = .returned (.int .i64 ((k0 + 5 * n : Nat) : Int)) ∧ w'.ownsRow B 31 5 v n (rcCells (rcMarks k0 n)) ∧ w.grownBy w' v.ownBlock := by
  obtain ⟨A, c, rfl, f⟩ := own_form h
  have HZ := Lib.hid hz
  by_cases h0 : n = 0
  · subst h0
    have e : rcCells zs = rcCells (rcMarks k0 0) := by
      obtain rfl := List.eq_nil_of_length_eq_zero hz
      rfl
    have H := Lib.hid (e ▸ h)
    clear h f hz e
    go_enter Try.func28, Try.ntmps28
    go_wp2
    go_loop [1, 5] (fun m i => m = .int .i64 (k0 : Int) ∧ i = .int .i64 0) (fun _ _ => 0)
    case atStart => exact ⟨rfl, rfl⟩
    case round =>
      obtain ⟨rfl, rfl⟩ := hrel
      go_wp2
      go_ret
      exact ⟨rfl, H.out, grown_refl _ _⟩
  · obtain ⟨g, rfl⟩ := f (by omega)
    have H0 := Lib.hid h
    clear h f hz
    go_enter Try.func28, Try.ntmps28
    go_wp2
    go_loopw [1, 5] (fun m i wr => ∃ k : Nat, k ≤ n ∧ m = .int .i64 ((k0 + 5 * k : Nat) : Int) ∧ i = .int .i64 k ∧ wr.ownsRow B 31 5 (.slice (some ⟨g, 0, none⟩) n c) n (rcCells (rcMarks k0 k ++ zs.drop k)) ∧ w.grownBy wr (some g)) (fun _ i _ => n - (intOf i).toNat)
    case atStart => exact ⟨0, Nat.zero_le _, rfl, rfl, by simpa [rcMarks] using H0.out, grown_refl _ _⟩
    case round =>
      obtain ⟨k, hk, rfl, rfl, hown, hg⟩ := hrel
      have HO := Lib.hid hown
      have HG := Lib.hid hg
      by_cases hlt : k < n
      · have i0' : (0 : Int) ≤ (k : Int) := by omega
        have i1 : (k : Int) < (n : Int) := by omega
        obtain ⟨u0, cu0⟩ : ∃ u, wr.cell? ⟨g, k * 5, none⟩ = some u := ⟨_, by rw [hown.cellAt (k * 5) (by omega)]; exact List.getElem?_eq_getElem (by rw [hown.1]; omega)⟩
        have fr0 := hown.frozenAt (k * 5)
        obtain ⟨u1, cu1⟩ : ∃ u, wr.cell? ⟨g, k * 5 + 1, none⟩ = some u := ⟨_, by rw [hown.cellAt (k * 5 + 1) (by omega)]; exact List.getElem?_eq_getElem (by rw [hown.1]; omega)⟩
        have fr1 := hown.frozenAt (k * 5 + 1)
        obtain ⟨u2, cu2⟩ : ∃ u, wr.cell? ⟨g, k * 5 + 2, none⟩ = some u := ⟨_, by rw [hown.cellAt (k * 5 + 2) (by omega)]; exact List.getElem?_eq_getElem (by rw [hown.1]; omega)⟩
        have fr2 := hown.frozenAt (k * 5 + 2)
        obtain ⟨u3, cu3⟩ : ∃ u, wr.cell? ⟨g, k * 5 + 3, none⟩ = some u := ⟨_, by rw [hown.cellAt (k * 5 + 3) (by omega)]; exact List.getElem?_eq_getElem (by rw [hown.1]; omega)⟩
        have fr3 := hown.frozenAt (k * 5 + 3)
        obtain ⟨u4, cu4⟩ : ∃ u, wr.cell? ⟨g, k * 5 + 4, none⟩ = some u := ⟨_, by rw [hown.cellAt (k * 5 + 4) (by omega)]; exact List.getElem?_eq_getElem (by rw [hown.1]; omega)⟩
        have fr4 := hown.frozenAt (k * 5 + 4)
        have st := own_stored_rc HO.out k ((k0 : Int) + 5 * (k : Int)) ((k0 : Int) + 5 * (k : Int) + 1) ((k0 : Int) + 5 * (k : Int) + 2) ((k0 : Int) + 5 * (k : Int) + 3) ((k0 : Int) + 5 * (k : Int) + 4)
        rw [show (((k0 : Int) + 5 * (k : Int), ((k0 : Int) + 5 * (k : Int) + 1, (k0 : Int) + 5 * (k : Int) + 2), (k0 : Int) + 5 * (k : Int) + 3, (k0 : Int) + 5 * (k : Int) + 4) : Rc) = (((k0 + 5 * k : Nat) : Int), (((k0 + 5 * k + 1 : Nat) : Int), ((k0 + 5 * k + 2 : Nat) : Int)), ((k0 + 5 * k + 3 : Nat) : Int), ((k0 + 5 * k + 4 : Nat) : Int)) by simp, rcMarks_set hlt HZ.out] at st
        have ST := Lib.hid st.1
        have G3 := Lib.hid (grown_trans HG.out st.2)
        clear hown hg st HO HG
        go_wp2
        go_roundw
        case rel => exact ⟨k + 1, by omega, by go_num, by go_num, ST.out, G3.out⟩
        case measure => simp [intOf]; omega
      · have hkn : k = n := by omega
        subst hkn
        have O := HO.out
        rw [List.drop_of_length_le (by have := HZ.out; omega), List.append_nil] at O
        have HO2 := Lib.hid O
        clear O hown hg
        go_wp2
        go_ret
        exact ⟨rfl, HO2.out, HG.out⟩

set_option maxRecDepth 100000 in
theorem heldRcS_any (n k0 : Nat) (A : Option Addr) (c : Nat) (w : World) (h : Rcs w A (rcMarks k0 n)) (hn : n ≤ 4194304) (hk1 : k0 ≤ 41943040) :
    Calls Try.prog 30 #[.slice A n c, .int .i64 (k0 : Int)] w fun e w' => e = .returned (.int .i64 ((k0 + 5 * n : Nat) : Int)) ∧ w = w' := by
  have H := Lib.hid h
  clear h
  go_enter Try.func30, Try.ntmps30
  go_wp2
  go_loop [1, 5] (fun m i => ∃ k : Nat, k ≤ n ∧ m = .int .i64 ((k0 + 5 * k : Nat) : Int) ∧ i = .int .i64 k) (fun _ i => n - (intOf i).toNat)
  case atStart => exact ⟨0, Nat.zero_le _, rfl, rfl⟩
  case round =>
    obtain ⟨k, hk, rfl, rfl⟩ := hrel
    by_cases hlt : k < n
    · have l1 : k < (rcMarks k0 n).length := by rw [rcMarks_length]; exact hlt
      obtain ⟨b1, o1, p0, p1, p2, p3, p4, rfl, x1, e0, e1, e2, e3, e4⟩ := H.out.at l1
      rw [rcMarks_at] at x1
      simp only [Prod.mk.injEq, and_assoc] at x1
      obtain ⟨rfl, rfl, rfl, rfl, rfl⟩ := x1
      have i0' : (0 : Int) ≤ (k : Int) := by omega
      have i1 : (k : Int) < (n : Int) := by omega
      clear H l1
      go_wp2
      go_round
      case rel => exact ⟨k + 1, by omega, by go_num, by go_num⟩
      case measure => simp [intOf]; omega
    · have hkn : k = n := by omega
      subst hkn
      go_wp2
      go_ret
      exact ⟨rfl, rfl⟩

/-- An append of a list of Record to an owned one. -/
theorem wpList_append_rc {w : World} {ops : Array Oper} {rest : List Oper} {o : Oper} {a : Act} {Q : Exit → Act → World → Prop} (hgd : o.guard = none) (s x : Operand)
    (ho : o.op = .call { callee := .builtin .append, args := #[s, x], argTypes := #[34, 34] })
    (base : Nat) (v : Value) (n : Nat) (zs : List Rc) (hs : a.eval s = v) (hown : w.ownsRow base 31 5 v n (rcCells zs))
    (A : Option Addr) (m c : Nat) (ys : List Rc) (hx : a.eval x = .slice A m c) (hA : A = none → c = 0) (hl : ys.length = m) (hsts : Rcs w A ys)
    (hb : n + m ≤ 4194304) (hbase : base ≤ w.heap.size)
    (h : ∀ v' w', w'.ownsRow base 31 5 v' (n + m) (rcCells (zs ++ ys)) → w.grownBy w' v.ownBlock → wpList Try.prog ops Q rest (a.put o.dst v') w') : wpList Try.prog ops Q (o :: rest) a w := by
  obtain ⟨i0, hi, hz0, hz1, hz2⟩ := info_parts rcinfo
  cases A with
  | none =>
    obtain rfl := rcs_none hsts hl
    obtain rfl := hA rfl
    obtain rfl := List.eq_nil_of_length_eq_zero hl
    exact wpList_append_own_none hgd s x 34 ho base 31 i0 5 Try.underlying34 hi v n (rcCells zs) hs hown hx (h v w (by simpa using hown) (grown_refl _ _))
  | some ad =>
    refine wpList_append_own w hgd s x 34 ho base 31 i0 (.agg #[.int .i64 0, .int .i64 0, .int .i64 0, .int .i64 0, .int .i64 0]) 5 40 Try.underlying34 hi hz0 hz1 hz2 rfl (by decide) v n (rcCells zs) hs hown ad m c (rcCells ys) hx (by rw [rcCells_length, hl]) hsts.news (fun u hu => rcCells_one hu) (by unfold maxLen; omega) (by omega) hbase ?_
    intro v' w' h2 h3 _
    rw [← rcCells_append] at h2
    exact h v' w' h2 h3

theorem rc_new (w : World) (p0 p1 p2 p3 p4 : Int) : Rcs (w.alloc (.cells #[.int .i64 p0, .int .i64 p1, .int .i64 p2, .int .i64 p3, .int .i64 p4] 31)) (some ⟨w.heap.size, 0, none⟩) [(p0, (p1, p2), p3, p4)] := fun _ =>
  ⟨w.heap.size, 0, rfl, by simp, fun j hj => by
    obtain rfl : j = 0 := by simpa using hj
    exact ⟨alloc_cells rfl rfl, alloc_cells rfl rfl, alloc_cells rfl rfl, alloc_cells rfl rfl, alloc_cells rfl rfl⟩⟩

theorem Row.rc {w : World} {lo hi e n c : Nat} {A : Option Addr} {zs : List Rc} (h : Row w lo hi e 5 A n c (rcCells zs)) : Rcs w A zs := by
  obtain ⟨A', c', he, _, hs⟩ := Rcs.of_own h.own
  simp only [Value.slice.injEq, true_and] at he
  obtain ⟨rfl, rfl⟩ := he
  exact hs
theorem Row.rcLen {w : World} {lo hi e n c : Nat} {A : Option Addr} {zs : List Rc} (h : Row w lo hi e 5 A n c (rcCells zs)) : zs.length = n := by
  have := h.own.1; rw [rcCells_length] at this; omega

theorem eqRcS_row {w : World} {lo1 hi1 lo2 hi2 n c1 c2 : Nat} {A1 A2 : Option Addr} {zs : List Rc} (h1 : Row w lo1 hi1 31 5 A1 n c1 (rcCells zs)) (h2 : Row w lo2 hi2 31 5 A2 n c2 (rcCells zs)) (hn : n ≤ 4194304) :
    Calls Try.prog 24 #[.slice A1 n c1, .slice A2 n c2] w fun e w' => e = .returned (.bool true) ∧ Below w.heap.size w w' := by
  have h := eqRcS_any n n zs zs h1.rcLen h2.rcLen A1 A2 c1 c2 w h1.rc h2.rc hn
  simpa using h

theorem heldRcS_row {w : World} {lo hi n c : Nat} {A : Option Addr} (k0 : Nat) (h : Row w lo hi 31 5 A n c (rcCells (rcMarks k0 n))) (hn : n ≤ 4194304) (hk1 : k0 ≤ 41943040) :
    Calls Try.prog 30 #[.slice A n c, .int .i64 (k0 : Int)] w fun e w' => e = .returned (.int .i64 ((k0 + 5 * n : Nat) : Int)) ∧ w = w' :=
  heldRcS_any n k0 A c w h.rc hn hk1

end Go.Proofs.Ytlanmkimaambgaa.hexes

