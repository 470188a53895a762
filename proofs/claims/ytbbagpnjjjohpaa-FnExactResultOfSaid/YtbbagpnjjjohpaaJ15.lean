/-
  Cells: the contracts of the laws' eqCell and toCell.
  Lists of Cell in memory: how they lie there, and the contracts of the laws' own functions on them.
-/
import Derived.Test.YtbbagpnjjjohpaaJ11
import Derived.Test.YtbbagpnjjjohpaaJ0
import Derived.Test.YtbbagpnjjjohpaaJ2

namespace Go.Proofs.Ytbbagpnjjjohpaa.hexes
open Go.RowKit

theorem eqCell_at (p0 p1 p2 p3 q0 q1 q2 q3 : Int) (w : World) :
    Calls Try.prog 67 #[.agg #[.int .i64 p0, .int .i64 p1, .int .i64 p2, .int .i64 p3], .agg #[.int .i64 q0, .int .i64 q1, .int .i64 q2, .int .i64 q3]] w fun e w' => e = .returned (.bool (decide (p0 = q0 ∧ p1 = q1 ∧ p2 = q2 ∧ p3 = q3))) ∧ (w.alloc (.cells #[.int .i64 p0, .int .i64 p1, .int .i64 p2, .int .i64 p3] 38)).alloc (.cells #[.int .i64 q0, .int .i64 q1, .int .i64 q2, .int .i64 q3] 38) = w' := by
  go_enter Try.func67, Try.ntmps67
  go_wp2
  all_goals (go_ret; refine ⟨?_, rfl⟩; simp_all)

theorem eqCell_any (p0 p1 p2 p3 q0 q1 q2 q3 : Int) (w : World) : Calls Try.prog 67 #[.agg #[.int .i64 p0, .int .i64 p1, .int .i64 p2, .int .i64 p3], .agg #[.int .i64 q0, .int .i64 q1, .int .i64 q2, .int .i64 q3]] w fun e w' => e = .returned (.bool (decide (p0 = q0 ∧ p1 = q1 ∧ p2 = q2 ∧ p3 = q3))) ∧ Below w.heap.size w w' :=
  (eqCell_at p0 p1 p2 p3 q0 q1 q2 q3 w).mono fun _ _ ⟨he, hw⟩ => ⟨he, hw ▸ ((Below.refl _ _).alloc (by simp) _).alloc (by simp) _⟩

end Go.Proofs.Ytbbagpnjjjohpaa.hexes

namespace Go.Proofs.Ytbbagpnjjjohpaa.hexes
open Go.RowKit

/-- A list of Cell as a row of cells. -/
def ceCells (zs : List Ce) : List Value := zs.flatMap fun z => [.int .i64 z.1, .int .i64 z.2.1, .int .i64 z.2.2.1, .int .i64 z.2.2.2]

theorem ceCells_cons (z : Ce) (zs : List Ce) : ceCells (z :: zs) = .int .i64 z.1 :: .int .i64 z.2.1 :: .int .i64 z.2.2.1 :: .int .i64 z.2.2.2 :: ceCells zs := rfl
theorem ceCells_append (a b : List Ce) : ceCells (a ++ b) = ceCells a ++ ceCells b := by simp [ceCells]
theorem ceCells_length (zs : List Ce) : (ceCells zs).length = zs.length * 4 := by
  induction zs with
  | nil => rfl
  | cons z zs ih => rw [ceCells_cons]; simp only [List.length_cons, ih]; omega
theorem ceCells_at (zs : List Ce) (j : Nat) (h : j < zs.length) : (ceCells zs)[j * 4]? = some (.int .i64 zs[j].1) ∧ (ceCells zs)[j * 4 + 1]? = some (.int .i64 zs[j].2.1) ∧ (ceCells zs)[j * 4 + 2]? = some (.int .i64 zs[j].2.2.1) ∧ (ceCells zs)[j * 4 + 3]? = some (.int .i64 zs[j].2.2.2) := by
  induction zs generalizing j with
  | nil => simp at h
  | cons z zs ih =>
    rw [ceCells_cons]
    cases j with
    | zero => exact ⟨rfl, rfl, rfl, rfl⟩
    | succ j =>
      have := ih j (by simpa using h)
      rw [show (j + 1) * 4 = j * 4 + 1 + 1 + 1 + 1 by omega]
      simpa using this
theorem ceCells_one {zs : List Ce} {u : Value} (h : u ∈ ceCells zs) : u.oneCell' = true := by
  simp only [ceCells, List.mem_flatMap, List.mem_cons, List.not_mem_nil, or_false] at h
  obtain ⟨z, _, rfl | rfl | rfl | rfl⟩ := h <;> rfl

/-- A list of Cell that can be read at A. -/
def Ces (w : World) (A : Option Addr) (zs : List Ce) : Prop :=
  0 < zs.length → ∃ b off, A = some ⟨b, off, none⟩ ∧ b < w.heap.size ∧ ∀ j, (h : j < zs.length) → w.cell? ⟨b, off + j * 4, none⟩ = some (.int .i64 zs[j].1) ∧ w.cell? ⟨b, off + j * 4 + 1, none⟩ = some (.int .i64 zs[j].2.1) ∧ w.cell? ⟨b, off + j * 4 + 2, none⟩ = some (.int .i64 zs[j].2.2.1) ∧ w.cell? ⟨b, off + j * 4 + 3, none⟩ = some (.int .i64 zs[j].2.2.2)

theorem Ces.below {w w' : World} {A : Option Addr} {zs : List Ce} (h : Ces w A zs) (hb : Below w.heap.size w w') : Ces w' A zs := fun hl => by
  obtain ⟨b, off, hA, hlt, hz⟩ := h hl
  refine ⟨b, off, hA, Nat.lt_of_lt_of_le hlt hb.size, fun j hj => ?_⟩
  obtain ⟨h0, h1, h2, h3⟩ := hz j hj
  exact ⟨below_keep hb h0, below_keep hb h1, below_keep hb h2, below_keep hb h3⟩

theorem Ces.of_own {w : World} {B e n : Nat} {v : Value} {zs : List Ce} (h : w.ownsRow B e 4 v n (ceCells zs)) : ∃ A cap, v = .slice A n cap ∧ zs.length = n ∧ Ces w A zs := by
  have hl : zs.length = n := by have := h.1; rw [ceCells_length] at this; omega
  rcases h.2 with ⟨rfl, rfl⟩ | ⟨g, cap, cur, rfl, _, hg, hnc, _, hcs, htk⟩
  · exact ⟨none, 0, rfl, hl, fun h => absurd h (by omega)⟩
  · refine ⟨some ⟨g, 0, none⟩, cap, rfl, hl, fun hp => ⟨g, 0, rfl, ?_, fun j hj => ?_⟩⟩
    · rcases Nat.lt_or_ge g w.heap.size with hlt | hge
      · exact hlt
      · rw [Array.getElem?_eq_none hge] at hg; cases hg
    · have key : ∀ i u, (ceCells zs)[i]? = some u → w.cell? ⟨g, i, none⟩ = some u := fun i u hu => by
        rw [cell_of_row w g i cur e (0, 0) hg]
        rw [← htk, List.getElem?_take] at hu
        split at hu
        · simpa using hu
        · cases hu
      rw [Nat.zero_add]
      obtain ⟨h0, h1, h2, h3⟩ := ceCells_at zs j hj
      exact ⟨key _ _ h0, key _ _ h1, key _ _ h2, key _ _ h3⟩

/-- The k-th entry of a list that can be read, cell by cell. -/
theorem Ces.at {w : World} {A : Option Addr} {zs : List Ce} (h : Ces w A zs) {k : Nat} (hk : k < zs.length) : ∃ b off p0 p1 p2 p3, A = some ⟨b, off, none⟩ ∧ zs[k] = (p0, p1, p2, p3) ∧ w.cell? ⟨b, off + k * 4, none⟩ = some (.int .i64 p0) ∧ w.cell? ⟨b, off + k * 4 + 1, none⟩ = some (.int .i64 p1) ∧ w.cell? ⟨b, off + k * 4 + 2, none⟩ = some (.int .i64 p2) ∧ w.cell? ⟨b, off + k * 4 + 3, none⟩ = some (.int .i64 p3) := by
  obtain ⟨b, off, hA, _, hz⟩ := h (by omega)
  obtain ⟨h0, h1, h2, h3⟩ := hz k hk
  exact ⟨b, off, zs[k].1, zs[k].2.1, zs[k].2.2.1, zs[k].2.2.2, hA, rfl, h0, h1, h2, h3⟩

theorem Ces.news {w : World} {ad : Addr} {ys : List Ce} (h : Ces w (some ad) ys) (j : Nat) (u : Value) (hu : (ceCells ys)[j]? = some u) : w.cell? (ad.add j) = some u := by
  have hj : j < ys.length * 4 := by rw [← ceCells_length]; exact (List.getElem?_eq_some_iff.1 hu).1
  obtain ⟨b, off, hA, _, hz⟩ := h (by omega)
  obtain rfl : ad = ⟨b, off, none⟩ := Option.some.inj hA
  rw [addr_add1]
  have hk : j / 4 < ys.length := by omega
  obtain ⟨e0, e1, e2, e3⟩ := ceCells_at ys (j / 4) hk
  obtain ⟨z0, z1, z2, z3⟩ := hz (j / 4) hk
  have hm : j % 4 = 0 ∨ j % 4 = 1 ∨ j % 4 = 2 ∨ j % 4 = 3 := by omega
  rcases hm with h2 | h2 | h2 | h2
  · rw [show j / 4 * 4 = j by omega] at e0
    rw [show off + j / 4 * 4 = off + j by omega] at z0
    rw [z0, ← hu, e0]
  · rw [show j / 4 * 4 + 1 = j by omega] at e1
    rw [show off + j / 4 * 4 + 1 = off + j by omega] at z1
    rw [z1, ← hu, e1]
  · rw [show j / 4 * 4 + 2 = j by omega] at e2
    rw [show off + j / 4 * 4 + 2 = off + j by omega] at z2
    rw [z2, ← hu, e2]
  · rw [show j / 4 * 4 + 3 = j by omega] at e3
    rw [show off + j / 4 * 4 + 3 = off + j by omega] at z3
    rw [z3, ← hu, e3]

theorem ces_none {w : World} {n : Nat} {zs : List Ce} (h : Ces w none zs) (hz : zs.length = n) : n = 0 := by
  rcases Nat.eq_zero_or_pos n with h0 | h0
  · exact h0
  · obtain ⟨b, off, hA, _⟩ := h (by omega)
    cases hA

theorem take_step_ce {zs ys : List Ce} {k : Nat} (h1 : k < zs.length) (h2 : k < ys.length) (ht : zs.take k = ys.take k) (he : zs[k] = ys[k]) : zs.take (k + 1) = ys.take (k + 1) := by
  rw [List.take_succ_eq_append_getElem h1, List.take_succ_eq_append_getElem h2, ht, he]

theorem eqCe_is {p0 p1 p2 p3 q0 q1 q2 q3 : Int} {b : Bool} (h : decide (p0 = q0 ∧ p1 = q1 ∧ p2 = q2 ∧ p3 = q3) = b) (W : World) : Calls Try.prog 67 #[.agg #[.int .i64 p0, .int .i64 p1, .int .i64 p2, .int .i64 p3], .agg #[.int .i64 q0, .int .i64 q1, .int .i64 q2, .int .i64 q3]] W fun e w' => e = .returned (.bool b) ∧ Below W.heap.size W w' := by
  subst h; exact eqCell_any _ _ _ _ _ _ _ _ W

set_option maxRecDepth 100000 in
theorem eqCeS_same (n : Nat) (zs ys : List Ce) (hz : zs.length = n) (hy : ys.length = n) (A1 A2 : Option Addr) (c1 c2 : Nat) (w : World) (h1 : Ces w A1 zs) (h2 : Ces w A2 ys) (hn : n ≤ 4194304) :
    Calls Try.prog 37 #[.slice A1 n c1, .slice A2 n c2] w fun e w' => e = .returned (.bool (decide (zs = ys))) ∧ Below w.heap.size w w' := by
  have H1 := Lib.hid h1
  have H2 := Lib.hid h2
  have HZ := Lib.hid hz
  have HY := Lib.hid hy
  clear h1 h2 hz hy
  go_enter Try.func37, Try.ntmps37
  go_wp2
  go_loopw [5] (fun i wr => ∃ k : Nat, k ≤ n ∧ i = .int .i64 k ∧ zs.take k = ys.take k ∧ Below w.heap.size w wr) (fun i _ => n - (intOf i).toNat)
  case atStart => exact ⟨0, Nat.zero_le _, rfl, rfl, Below.refl _ _⟩
  case round =>
    obtain ⟨k, hk, rfl, ht, hb⟩ := hrel
    have HT := Lib.hid ht
    have HB := Lib.hid hb
    by_cases hlt : k < n
    · have l1 : k < zs.length := by rw [HZ.out]; exact hlt
      have l2 : k < ys.length := by rw [HY.out]; exact hlt
      obtain ⟨b1, o1, p0, p1, p2, p3, rfl, x1, e0, e1, e2, e3⟩ := (H1.out.below hb).at l1
      obtain ⟨b2, o2, q0, q1, q2, q3, rfl, x2, f0, f1, f2, f3⟩ := (H2.out.below hb).at l2
      have X1 := Lib.hid x1
      have X2 := Lib.hid x2
      have i0 : (0 : Int) ≤ (k : Int) := by omega
      have i1 : (k : Int) < (n : Int) := by omega
      clear ht hb x1 x2
      by_cases he : p0 = q0 ∧ p1 = q1 ∧ p2 = q2 ∧ p3 = q3
      · have E := Lib.hid (fun W => eqCe_is (b := true) (decide_eq_true he) W)
        obtain ⟨rfl, rfl, rfl, rfl⟩ := he
        have HT2 := Lib.hid (take_step_ce l1 l2 HT.out (X1.out.trans X2.out.symm))
        clear HT X1 X2 l1 l2
        go_wp2_with fail
        go_region_held3 (fun w' => w'.cell? ⟨b1, o1 + k * 4, none⟩ = some (.int .i64 p0) ∧ w'.cell? ⟨b1, o1 + k * 4 + 1, none⟩ = some (.int .i64 p1) ∧ w'.cell? ⟨b1, o1 + k * 4 + 2, none⟩ = some (.int .i64 p2) ∧ w'.cell? ⟨b1, o1 + k * 4 + 3, none⟩ = some (.int .i64 p3) ∧ w'.cell? ⟨b2, o2 + k * 4, none⟩ = some (.int .i64 p0) ∧ w'.cell? ⟨b2, o2 + k * 4 + 1, none⟩ = some (.int .i64 p1) ∧ w'.cell? ⟨b2, o2 + k * 4 + 2, none⟩ = some (.int .i64 p2) ∧ w'.cell? ⟨b2, o2 + k * 4 + 3, none⟩ = some (.int .i64 p3))
          (((try go_split_ands); refine ⟨?_, ?_, ?_, ?_, ?_, ?_, ?_, ?_⟩ <;> (repeat (first | with_reducible assumption | with_reducible refine drew_keep ?_ | with_reducible refine below_keep hbd ?_))))
          (first | (go_at_call 67; with_reducible refine (E.out _).mono ?_; rintro e w5 ⟨rfl, hbd⟩))
        have B5 := below_chain HB.out.drew hbd
        clear hbd
        go_wp2
        go_roundw
        case rel => exact ⟨k + 1, by omega, by go_num, HT2.out, B5⟩
        case measure => simp [intOf]; omega
      · have E := Lib.hid (fun W => eqCe_is (b := false) (decide_eq_false he) W)
        have hne : decide (zs = ys) = false := by
          simp only [decide_eq_false_iff_not]
          rintro rfl
          have := X1.out.symm.trans X2.out
          simp only [Prod.mk.injEq] at this
          exact he this
        have HN := Lib.hid hne
        clear HT X1 X2 l1 l2 he hne
        go_wp2_with fail
        go_region_held3 (fun w' => w'.cell? ⟨b1, o1 + k * 4, none⟩ = some (.int .i64 p0) ∧ w'.cell? ⟨b1, o1 + k * 4 + 1, none⟩ = some (.int .i64 p1) ∧ w'.cell? ⟨b1, o1 + k * 4 + 2, none⟩ = some (.int .i64 p2) ∧ w'.cell? ⟨b1, o1 + k * 4 + 3, none⟩ = some (.int .i64 p3) ∧ w'.cell? ⟨b2, o2 + k * 4, none⟩ = some (.int .i64 q0) ∧ w'.cell? ⟨b2, o2 + k * 4 + 1, none⟩ = some (.int .i64 q1) ∧ w'.cell? ⟨b2, o2 + k * 4 + 2, none⟩ = some (.int .i64 q2) ∧ w'.cell? ⟨b2, o2 + k * 4 + 3, none⟩ = some (.int .i64 q3))
          (((try go_split_ands); refine ⟨?_, ?_, ?_, ?_, ?_, ?_, ?_, ?_⟩ <;> (repeat (first | with_reducible assumption | with_reducible refine drew_keep ?_ | with_reducible refine below_keep hbd ?_))))
          (first | (go_at_call 67; with_reducible refine (E.out _).mono ?_; rintro e w5 ⟨rfl, hbd⟩))
        have B5 := below_chain HB.out.drew hbd
        clear hbd
        go_wp2
        go_ret
        exact ⟨congrArg (fun b => Ending.returned (Value.bool b)) HN.out.symm, B5⟩
    · have hkn : k = n := by omega
      have heq : zs = ys := by
        have h3 := HT.out
        rw [List.take_of_length_le (by rw [HZ.out]; omega), List.take_of_length_le (by rw [HY.out]; omega)] at h3
        exact h3
      have hd : decide (zs = ys) = true := by simp [heq]
      have HD := Lib.hid hd
      clear heq hd HT ht
      go_wp2
      go_ret
      exact ⟨congrArg (fun b => Ending.returned (Value.bool b)) HD.out.symm, HB.out⟩

theorem eqCeS_any (n m : Nat) (zs ys : List Ce) (hz : zs.length = n) (hy : ys.length = m) (A1 A2 : Option Addr) (c1 c2 : Nat) (w : World) (h1 : Ces w A1 zs) (h2 : Ces w A2 ys) (hn : n ≤ 4194304) :
    Calls Try.prog 37 #[.slice A1 n c1, .slice A2 m c2] w fun e w' => e = .returned (.bool (decide (zs = ys))) ∧ Below w.heap.size w w' := by
  by_cases h : n = m
  · subst h
    exact eqCeS_same n zs ys hz hy A1 A2 c1 c2 w h1 h2 hn
  · have hd : decide (zs = ys) = false := by
      simp only [decide_eq_false_iff_not]
      rintro rfl
      omega
    rw [hd]
    have hc : ((n : Int) != (m : Int)) = true := by simp; omega
    clear hz hy h1 h2 hd
    go_enter Try.func37, Try.ntmps37
    go_wp2
    go_ret
    exact ⟨rfl, Below.refl _ _⟩

theorem ceinfo : (Try.prog.info? 38).map (fun i => (i.zero, i.size, i.bytes)) = some (some (.agg #[.int .i64 0, .int .i64 0, .int .i64 0, .int .i64 0]), 4, 32) := by kernel_rfl

theorem ceCells_set (zs : List Ce) (k : Nat) (p0 p1 p2 p3 : Int) : ((((ceCells zs).set (k * 4) (.int .i64 p0)).set (k * 4 + 1) (.int .i64 p1)).set (k * 4 + 2) (.int .i64 p2)).set (k * 4 + 3) (.int .i64 p3) = ceCells (zs.set k (p0, p1, p2, p3)) := by
  induction zs generalizing k with
  | nil => simp [ceCells]
  | cons z zs ih =>
    cases k with
    | zero => rfl
    | succ k =>
      rw [ceCells_cons, List.set_cons_succ, ceCells_cons, ← ih k, show (k + 1) * 4 = k * 4 + 4 by omega, show k * 4 + 4 + 1 = (k * 4 + 1) + 4 by omega, show k * 4 + 4 + 2 = (k * 4 + 2) + 4 by omega, show k * 4 + 4 + 3 = (k * 4 + 3) + 4 by omega]
      rfl

/-- A store of one into an owned row. -/
theorem own_stored_ce {w : World} {base e g n cap : Nat} {ys : List Ce} (h : w.ownsRow base e 4 (.slice (some ⟨g, 0, none⟩) n cap) n (ceCells ys)) (k : Nat) (p0 p1 p2 p3 : Int) :
    (((((w).setCell ⟨g, k * 4, none⟩ (.int .i64 p0)).setCell ⟨g, k * 4 + 1, none⟩ (.int .i64 p1)).setCell ⟨g, k * 4 + 2, none⟩ (.int .i64 p2)).setCell ⟨g, k * 4 + 3, none⟩ (.int .i64 p3)).ownsRow base e 4 (.slice (some ⟨g, 0, none⟩) n cap) n (ceCells (ys.set k (p0, p1, p2, p3))) ∧ w.grownBy (((((w).setCell ⟨g, k * 4, none⟩ (.int .i64 p0)).setCell ⟨g, k * 4 + 1, none⟩ (.int .i64 p1)).setCell ⟨g, k * 4 + 2, none⟩ (.int .i64 p2)).setCell ⟨g, k * 4 + 3, none⟩ (.int .i64 p3)) (some g) := by
  have s0 := h.stored (k * 4) (.int .i64 p0)
  have s1 := s0.1.stored (k * 4 + 1) (.int .i64 p1)
  have s2 := s1.1.stored (k * 4 + 2) (.int .i64 p2)
  have s3 := s2.1.stored (k * 4 + 3) (.int .i64 p3)
  have hl := s3.1
  rw [ceCells_set] at hl
  exact ⟨hl, grown_trans (grown_trans (grown_trans s0.2 s1.2) s2.2) s3.2⟩

/-- The marks that the laws lay into a list of Cell. -/
def ceMarks (k n : Nat) : List Ce := (List.range n).map fun i => (((k + 4 * i : Nat) : Int), ((k + 4 * i + 1 : Nat) : Int), ((k + 4 * i + 2 : Nat) : Int), ((k + 4 * i + 3 : Nat) : Int))

theorem ceMarks_length (k n : Nat) : (ceMarks k n).length = n := by simp [ceMarks]
theorem ceMarks_succ (k n : Nat) : ceMarks k (n + 1) = ceMarks k n ++ [(((k + 4 * n : Nat) : Int), ((k + 4 * n + 1 : Nat) : Int), ((k + 4 * n + 2 : Nat) : Int), ((k + 4 * n + 3 : Nat) : Int))] := by
  unfold ceMarks; rw [List.range_succ, List.map_append]; rfl
theorem ceMarks_at (k n j : Nat) (h : j < (ceMarks k n).length) : (ceMarks k n)[j] = (((k + 4 * j : Nat) : Int), ((k + 4 * j + 1 : Nat) : Int), ((k + 4 * j + 2 : Nat) : Int), ((k + 4 * j + 3 : Nat) : Int)) := by simp [ceMarks]
theorem ceMarks_set {zs : List Ce} {k i n : Nat} (hi : i < n) (hl : zs.length = n) : (ceMarks k i ++ zs.drop i).set i (((k + 4 * i : Nat) : Int), ((k + 4 * i + 1 : Nat) : Int), ((k + 4 * i + 2 : Nat) : Int), ((k + 4 * i + 3 : Nat) : Int)) = ceMarks k (i + 1) ++ zs.drop (i + 1) := by
  have l1 := ceMarks_length k i
  rw [List.set_append_right _ _ (by omega), l1, Nat.sub_self, List.drop_eq_getElem_cons (by omega), List.set_cons_zero, ceMarks_succ]
  simp only [List.append_assoc, List.singleton_append]

set_option maxRecDepth 100000 in
theorem heldCeS_any (n k0 : Nat) (A : Option Addr) (c : Nat) (w : World) (h : Ces w A (ceMarks k0 n)) (hn : n ≤ 4194304) (hk1 : k0 ≤ 41943040) :
    Calls Try.prog 41 #[.slice A n c, .int .i64 (k0 : Int)] w fun e w' => e = .returned (.int .i64 ((k0 + 4 * n : Nat) : Int)) ∧ w = w' := by
  have H := Lib.hid h
  clear h
  go_enter Try.func41, Try.ntmps41
  go_wp2
  go_loop [1, 5] (fun m i => ∃ k : Nat, k ≤ n ∧ m = .int .i64 ((k0 + 4 * k : Nat) : Int) ∧ i = .int .i64 k) (fun _ i => n - (intOf i).toNat)
  case atStart => exact ⟨0, Nat.zero_le _, rfl, rfl⟩
  case round =>
    obtain ⟨k, hk, rfl, rfl⟩ := hrel
    by_cases hlt : k < n
    · have l1 : k < (ceMarks k0 n).length := by rw [ceMarks_length]; exact hlt
      obtain ⟨b1, o1, p0, p1, p2, p3, rfl, x1, e0, e1, e2, e3⟩ := H.out.at l1
      rw [ceMarks_at] at x1
      simp only [Prod.mk.injEq] at x1
      obtain ⟨rfl, rfl, rfl, rfl⟩ := x1
      have i0' : (0 : Int) ≤ (k : Int) := by omega
      have i1 : (k : Int) < (n : Int) := by omega
      clear H l1
      go_wp2
      go_round
      case rel => exact ⟨k + 1, by omega, by go_num, by go_num⟩
      case measure => simp [intOf]; omega
    · have hkn : k = n := by omega
      subst hkn
      go_wp2
      go_ret
      exact ⟨rfl, rfl⟩

/-- An append of a list of Cell to an owned one. -/
theorem wpList_append_ce {w : World} {ops : Array Oper} {rest : List Oper} {o : Oper} {a : Act} {Q : Exit → Act → World → Prop} (hgd : o.guard = none) (s x : Operand)
    (ho : o.op = .call { callee := .builtin .append, args := #[s, x], argTypes := #[30, 30] })
    (base : Nat) (v : Value) (n : Nat) (zs : List Ce) (hs : a.eval s = v) (hown : w.ownsRow base 38 4 v n (ceCells zs))
    (A : Option Addr) (m c : Nat) (ys : List Ce) (hx : a.eval x = .slice A m c) (hA : A = none → c = 0) (hl : ys.length = m) (hsts : Ces w A ys)
    (hb : n + m ≤ 4194304) (hbase : base ≤ w.heap.size)
    (h : ∀ v' w', w'.ownsRow base 38 4 v' (n + m) (ceCells (zs ++ ys)) → w.grownBy w' v.ownBlock → wpList Try.prog ops Q rest (a.put o.dst v') w') : wpList Try.prog ops Q (o :: rest) a w := by
  obtain ⟨i0, hi, hz0, hz1, hz2⟩ := info_parts ceinfo
  cases A with
  | none =>
    obtain rfl := ces_none hsts hl
    obtain rfl := hA rfl
    obtain rfl := List.eq_nil_of_length_eq_zero hl
    exact wpList_append_own_none hgd s x 30 ho base 38 i0 4 Try.underlying30 hi v n (ceCells zs) hs hown hx (h v w (by simpa using hown) (grown_refl _ _))
  | some ad =>
    refine wpList_append_own w hgd s x 30 ho base 38 i0 (.agg #[.int .i64 0, .int .i64 0, .int .i64 0, .int .i64 0]) 4 32 Try.underlying30 hi hz0 hz1 hz2 rfl (by decide) v n (ceCells zs) hs hown ad m c (ceCells ys) hx (by rw [ceCells_length, hl]) hsts.news (fun u hu => ceCells_one hu) (by unfold maxLen; omega) (by omega) hbase ?_
    intro v' w' h2 h3 _
    rw [← ceCells_append] at h2
    exact h v' w' h2 h3

theorem ce_new (w : World) (p0 p1 p2 p3 : Int) : Ces (w.alloc (.cells #[.int .i64 p0, .int .i64 p1, .int .i64 p2, .int .i64 p3] 38)) (some ⟨w.heap.size, 0, none⟩) [(p0, p1, p2, p3)] := fun _ =>
  ⟨w.heap.size, 0, rfl, by simp, fun j hj => by
    obtain rfl : j = 0 := by simpa using hj
    exact ⟨alloc_cells rfl rfl, alloc_cells rfl rfl, alloc_cells rfl rfl, alloc_cells rfl rfl⟩⟩

theorem Row.ce {w : World} {lo hi e n c : Nat} {A : Option Addr} {zs : List Ce} (h : Row w lo hi e 4 A n c (ceCells zs)) : Ces w A zs := by
  obtain ⟨A', c', he, _, hs⟩ := Ces.of_own h.own
  simp only [Value.slice.injEq, true_and] at he
  obtain ⟨rfl, rfl⟩ := he
  exact hs

end Go.Proofs.Ytbbagpnjjjohpaa.hexes

