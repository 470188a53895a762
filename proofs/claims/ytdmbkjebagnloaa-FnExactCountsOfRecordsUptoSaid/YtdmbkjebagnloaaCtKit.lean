/-
  Lists of Count in memory: how they lie there, and the contracts of the laws' own functions on them.
-/
import Derived.Test.YtdmbkjebagnloaaCtBase
import Derived.Test.YtdmbkjebagnloaaRows2
namespace Go.Proofs.Ytdmbkjebagnloaa.hexes
open Go.RowKit

/-- A list of Count as a row of cells. -/
def ctCells (zs : List Ct) : List Value := zs.flatMap fun z => [.int .i64 z.1.1, .int .i64 z.1.2, .int .i64 z.2]

theorem ctCells_nil : ctCells [] = [] := rfl
theorem ctCells_cons (z : Ct) (zs : List Ct) : ctCells (z :: zs) = .int .i64 z.1.1 :: .int .i64 z.1.2 :: .int .i64 z.2 :: ctCells zs := rfl
theorem ctCells_append (a b : List Ct) : ctCells (a ++ b) = ctCells a ++ ctCells b := by simp [ctCells]
theorem ctCells_length (zs : List Ct) : (ctCells zs).length = zs.length * 3 := by
  induction zs with
  | nil => rfl
  | cons z zs ih => rw [ctCells_cons]; simp only [List.length_cons, ih]; omega
theorem ctCells_at (zs : List Ct) (j : Nat) (h : j < zs.length) : (ctCells zs)[j * 3]? = some (.int .i64 zs[j].1.1) ∧ (ctCells zs)[j * 3 + 1]? = some (.int .i64 zs[j].1.2) ∧ (ctCells zs)[j * 3 + 2]? = some (.int .i64 zs[j].2) := by
  induction zs generalizing j with
  | nil => simp at h
  | cons z zs ih =>
    rw [ctCells_cons]
    cases j with
    | zero => exact ⟨rfl, rfl, rfl⟩
    | succ j =>
      have := ih j (by simpa using h)
      rw [show (j + 1) * 3 = j * 3 + 1 + 1 + 1 by omega]
      simpa using this
theorem ctCells_one {zs : List Ct} {u : Value} (h : u ∈ ctCells zs) : u.oneCell' = true := by
  simp only [ctCells, List.mem_flatMap, List.mem_cons, List.not_mem_nil, or_false] at h
  obtain ⟨z, _, rfl | rfl | rfl⟩ := h <;> rfl

/-- A list of Count that can be read at A. -/
def Cts (w : World) (A : Option Addr) (zs : List Ct) : Prop :=
  0 < zs.length → ∃ b off, A = some ⟨b, off, none⟩ ∧ b < w.heap.size ∧ ∀ j, (h : j < zs.length) → w.cell? ⟨b, off + j * 3, none⟩ = some (.int .i64 zs[j].1.1) ∧ w.cell? ⟨b, off + j * 3 + 1, none⟩ = some (.int .i64 zs[j].1.2) ∧ w.cell? ⟨b, off + j * 3 + 2, none⟩ = some (.int .i64 zs[j].2)

theorem Cts.below {w w' : World} {A : Option Addr} {zs : List Ct} (h : Cts w A zs) (hb : Below w.heap.size w w') : Cts w' A zs := fun hl => by
  obtain ⟨b, off, hA, hlt, hz⟩ := h hl
  refine ⟨b, off, hA, Nat.lt_of_lt_of_le hlt hb.size, fun j hj => ?_⟩
  obtain ⟨h0, h1, h2⟩ := hz j hj
  exact ⟨below_keep hb h0, below_keep hb h1, below_keep hb h2⟩

theorem Cts.of_own {w : World} {B e n : Nat} {v : Value} {zs : List Ct} (h : w.ownsRow B e 3 v n (ctCells zs)) : ∃ A cap, v = .slice A n cap ∧ zs.length = n ∧ Cts w A zs := by
  have hl : zs.length = n := by have := h.1; rw [ctCells_length] at this; omega
  rcases h.2 with ⟨rfl, rfl⟩ | ⟨g, cap, cur, rfl, _, hg, hnc, _, hcs, htk⟩
  · exact ⟨none, 0, rfl, hl, fun h => absurd h (by omega)⟩
  · refine ⟨some ⟨g, 0, none⟩, cap, rfl, hl, fun hp => ⟨g, 0, rfl, ?_, fun j hj => ?_⟩⟩
    · rcases Nat.lt_or_ge g w.heap.size with hlt | hge
      · exact hlt
      · rw [Array.getElem?_eq_none hge] at hg; cases hg
    · have key : ∀ i u, (ctCells zs)[i]? = some u → w.cell? ⟨g, i, none⟩ = some u := fun i u hu => by
        rw [cell_of_row w g i cur e (0, 0) hg]
        rw [← htk, List.getElem?_take] at hu
        split at hu
        · simpa using hu
        · cases hu
      rw [Nat.zero_add]
      obtain ⟨h0, h1, h2⟩ := ctCells_at zs j hj
      exact ⟨key _ _ h0, key _ _ h1, key _ _ h2⟩

/-- The k-th entry of a list that can be read, cell by cell. -/
theorem Cts.at {w : World} {A : Option Addr} {zs : List Ct} (h : Cts w A zs) {k : Nat} (hk : k < zs.length) : ∃ b off p0 p1 p2, A = some ⟨b, off, none⟩ ∧ zs[k] = ((p0, p1), p2) ∧ w.cell? ⟨b, off + k * 3, none⟩ = some (.int .i64 p0) ∧ w.cell? ⟨b, off + k * 3 + 1, none⟩ = some (.int .i64 p1) ∧ w.cell? ⟨b, off + k * 3 + 2, none⟩ = some (.int .i64 p2) := by
  obtain ⟨b, off, hA, _, hz⟩ := h (by omega)
  obtain ⟨h0, h1, h2⟩ := hz k hk
  exact ⟨b, off, zs[k].1.1, zs[k].1.2, zs[k].2, hA, rfl, h0, h1, h2⟩

theorem Cts.news {w : World} {ad : Addr} {ys : List Ct} (h : Cts w (some ad) ys) (j : Nat) (u : Value) (hu : (ctCells ys)[j]? = some u) : w.cell? (ad.add j) = some u := by
  have hj : j < ys.length * 3 := by rw [← ctCells_length]; exact (List.getElem?_eq_some_iff.1 hu).1
  obtain ⟨b, off, hA, _, hz⟩ := h (by omega)
  obtain rfl : ad = ⟨b, off, none⟩ := Option.some.inj hA
  rw [addr_add1]
  have hk : j / 3 < ys.length := by omega
  obtain ⟨e0, e1, e2⟩ := ctCells_at ys (j / 3) hk
  obtain ⟨z0, z1, z2⟩ := hz (j / 3) hk
  have hm : j % 3 = 0 ∨ j % 3 = 1 ∨ j % 3 = 2 := by omega
  rcases hm with h2 | h2 | h2
  · rw [show j / 3 * 3 = j by omega] at e0
    rw [show off + j / 3 * 3 = off + j by omega] at z0
    rw [z0, ← hu, e0]
  · rw [show j / 3 * 3 + 1 = j by omega] at e1
    rw [show off + j / 3 * 3 + 1 = off + j by omega] at z1
    rw [z1, ← hu, e1]
  · rw [show j / 3 * 3 + 2 = j by omega] at e2
    rw [show off + j / 3 * 3 + 2 = off + j by omega] at z2
    rw [z2, ← hu, e2]

theorem cts_none {w : World} {n : Nat} {zs : List Ct} (h : Cts w none zs) (hz : zs.length = n) : n = 0 := by
  rcases Nat.eq_zero_or_pos n with h0 | h0
  · exact h0
  · obtain ⟨b, off, hA, _⟩ := h (by omega)
    cases hA

theorem take_step_ct {zs ys : List Ct} {k : Nat} (h1 : k < zs.length) (h2 : k < ys.length) (ht : zs.take k = ys.take k) (he : zs[k] = ys[k]) : zs.take (k + 1) = ys.take (k + 1) := by
  rw [List.take_succ_eq_append_getElem h1, List.take_succ_eq_append_getElem h2, ht, he]

theorem eqCt_is {p0 p1 p2 q0 q1 q2 : Int} {b : Bool} (h : decide (p0 = q0 ∧ p1 = q1 ∧ p2 = q2) = b) (W : World) : Calls Try.prog 55 #[.agg #[.int .i64 p0, .int .i64 p1, .int .i64 p2], .agg #[.int .i64 q0, .int .i64 q1, .int .i64 q2]] W fun e w' => e = .returned (.bool b) ∧ Below W.heap.size W w' := by
  subst h; exact eqCount_any _ _ _ _ _ _ W

set_option maxRecDepth 100000 in
theorem eqCtS_same (n : Nat) (zs ys : List Ct) (hz : zs.length = n) (hy : ys.length = n) (A1 A2 : Option Addr) (c1 c2 : Nat) (w : World) (h1 : Cts w A1 zs) (h2 : Cts w A2 ys) (hn : n ≤ 4194304) :
    Calls Try.prog 34 #[.slice A1 n c1, .slice A2 n c2] w fun e w' => e = .returned (.bool (decide (zs = ys))) ∧ Below w.heap.size w w' := by
  have H1 := Lib.hid h1
  have H2 := Lib.hid h2
  have HZ := Lib.hid hz
  have HY := Lib.hid hy
  clear h1 h2 hz hy
  go_enter Try.func34, Try.ntmps34
  go_wp2
  go_loopw [5] (fun i wr => ∃ k : Nat, k ≤ n ∧ i = .int .i64 k ∧ zs.take k = ys.take k ∧ Below w.heap.size w wr) (fun i _ => n - (intOf i).toNat)
  case atStart => exact ⟨0, Nat.zero_le _, rfl, rfl, Below.refl _ _⟩
  case round =>
    obtain ⟨k, hk, rfl, ht, hb⟩ := hrel
    have HT := Lib.hid ht
    have HB := Lib.hid hb
    by_cases hlt : k < n
    · have l1 : k < zs.length := by rw [HZ.out]; exact hlt
      have l2 : k < ys.length := by rw [HY.out]; exact hlt
      obtain ⟨b1, o1, p0, p1, p2, rfl, x1, e0, e1, e2⟩ := (H1.out.below hb).at l1
      obtain ⟨b2, o2, q0, q1, q2, rfl, x2, f0, f1, f2⟩ := (H2.out.below hb).at l2
      have X1 := Lib.hid x1
      have X2 := Lib.hid x2
      have i0 : (0 : Int) ≤ (k : Int) := by omega
      have i1 : (k : Int) < (n : Int) := by omega
      clear ht hb x1 x2
      by_cases he : p0 = q0 ∧ p1 = q1 ∧ p2 = q2
      · have E := Lib.hid (fun W => eqCt_is (b := true) (decide_eq_true he) W)
        obtain ⟨rfl, rfl, rfl⟩ := he
        have HT2 := Lib.hid (take_step_ct l1 l2 HT.out (X1.out.trans X2.out.symm))
        clear HT X1 X2 l1 l2
        go_wp2_with fail
        go_region_held3 (fun w' => w'.cell? ⟨b1, o1 + k * 3, none⟩ = some (.int .i64 p0) ∧ w'.cell? ⟨b1, o1 + k * 3 + 1, none⟩ = some (.int .i64 p1) ∧ w'.cell? ⟨b1, o1 + k * 3 + 2, none⟩ = some (.int .i64 p2) ∧ w'.cell? ⟨b2, o2 + k * 3, none⟩ = some (.int .i64 p0) ∧ w'.cell? ⟨b2, o2 + k * 3 + 1, none⟩ = some (.int .i64 p1) ∧ w'.cell? ⟨b2, o2 + k * 3 + 2, none⟩ = some (.int .i64 p2))
          (((try go_split_ands); refine ⟨?_, ?_, ?_, ?_, ?_, ?_⟩ <;> (repeat (first | with_reducible assumption | with_reducible refine drew_keep ?_ | with_reducible refine below_keep hbd ?_))))
          (first | (go_at_call 55; with_reducible refine (E.out _).mono ?_; rintro e w5 ⟨rfl, hbd⟩))
        have B5 := below_chain HB.out.drew hbd
        clear hbd
        go_wp2
        go_roundw
        case rel => exact ⟨k + 1, by omega, by go_num, HT2.out, B5⟩
        case measure => simp [intOf]; omega
      · have E := Lib.hid (fun W => eqCt_is (b := false) (decide_eq_false he) W)
        have hne : decide (zs = ys) = false := by
          simp only [decide_eq_false_iff_not]
          rintro rfl
          have := X1.out.symm.trans X2.out
          simp only [Prod.mk.injEq, and_assoc] at this
          exact he this
        have HN := Lib.hid hne
        clear HT X1 X2 l1 l2 he hne
        go_wp2_with fail
        go_region_held3 (fun w' => w'.cell? ⟨b1, o1 + k * 3, none⟩ = some (.int .i64 p0) ∧ w'.cell? ⟨b1, o1 + k * 3 + 1, none⟩ = some (.int .i64 p1) ∧ w'.cell? ⟨b1, o1 + k * 3 + 2, none⟩ = some (.int .i64 p2) ∧ w'.cell? ⟨b2, o2 + k * 3, none⟩ = some (.int .i64 q0) ∧ w'.cell? ⟨b2, o2 + k * 3 + 1, none⟩ = some (.int .i64 q1) ∧ w'.cell? ⟨b2, o2 + k * 3 + 2, none⟩ = some (.int .i64 q2))
          (((try go_split_ands); refine ⟨?_, ?_, ?_, ?_, ?_, ?_⟩ <;> (repeat (first | with_reducible assumption | with_reducible refine drew_keep ?_ | with_reducible refine below_keep hbd ?_))))
          (first | (go_at_call 55; with_reducible refine (E.out _).mono ?_; rintro e w5 ⟨rfl, hbd⟩))
        have B5 := below_chain HB.out.drew hbd
        clear hbd
        go_wp2
        go_ret
        exact ⟨congrArg (fun b => Ending.returned (Value.bool b)) HN.out.symm, B5⟩
    · have hkn : k = n := by omega
      have heq : zs = ys := by
        have h3 := HT.out
        rw [List.take_of_length_le (by rw [HZ.out]; omega), List.take_of_length_le (by rw [HY.out]; omega)] at h3
        exact h3
      have hd : decide (zs = ys) = true := by simp [heq]
      have HD := Lib.hid hd
      clear heq hd HT ht
      go_wp2
      go_ret
      exact ⟨congrArg (fun b => Ending.returned (Value.bool b)) HD.out.symm, HB.out⟩

theorem eqCtS_any (n m : Nat) (zs ys : List Ct) (hz : zs.length = n) (hy : ys.length = m) (A1 A2 : Option Addr) (c1 c2 : Nat) (w : World) (h1 : Cts w A1 zs) (h2 : Cts w A2 ys) (hn : n ≤ 4194304) :
    Calls Try.prog 34 #[.slice A1 n c1, .slice A2 m c2] w fun e w' => e = .returned (.bool (decide (zs = ys))) ∧ Below w.heap.size w w' := by
  by_cases h : n = m
  · subst h
    exact eqCtS_same n zs ys hz hy A1 A2 c1 c2 w h1 h2 hn
  · have hd : decide (zs = ys) = false := by
      simp only [decide_eq_false_iff_not]
      rintro rfl
      omega
    rw [hd]
    have hc : ((n : Int) != (m : Int)) = true := by simp; omega
    clear hz hy h1 h2 hd
    go_enter Try.func34, Try.ntmps34
    go_wp2
    go_ret
    exact ⟨rfl, Below.refl _ _⟩

theorem ctinfo : (Try.prog.info? 74).map (fun i => (i.zero, i.size, i.bytes)) = some (some (.agg #[.int .i64 0, .int .i64 0, .int .i64 0]), 3, 24) := by kernel_rfl

theorem ctCells_made (n : Nat) : (madeCells #[.int .i64 0, .int .i64 0, .int .i64 0] (n * 3)).toList = ctCells (List.replicate n ((0, 0), 0)) := by
  apply List.ext_getElem?
  intro i
  have hl : (ctCells (List.replicate n (((0, 0), 0) : Ct))).length = n * 3 := by rw [ctCells_length]; simp
  by_cases hi : i < n * 3
  · have hm : i % 3 = 0 ∨ i % 3 = 1 ∨ i % 3 = 2 := by omega
    have hL : (madeCells #[.int .i64 0, .int .i64 0, .int .i64 0] (n * 3)).toList[i]? = some (.int .i64 0) := by
      simp only [madeCells, Array.toList_map, Array.toList_range, List.getElem?_map, List.getElem?_range hi, Option.map_some]
      rcases hm with h | h | h <;> simp [h]
    rw [hL]
    have hj : i / 3 < (List.replicate n (((0, 0), 0) : Ct)).length := by simp; omega
    obtain ⟨e0, e1, e2⟩ := ctCells_at (List.replicate n ((0, 0), 0)) (i / 3) hj
    rcases hm with h | h | h
    · rw [show i / 3 * 3 = i by omega] at e0
      rw [e0]; simp
    · rw [show i / 3 * 3 + 1 = i by omega] at e1
      rw [e1]; simp
    · rw [show i / 3 * 3 + 2 = i by omega] at e2
      rw [e2]; simp
  · rw [List.getElem?_eq_none (by simp [size_madeCells]; omega), List.getElem?_eq_none (by omega)]

theorem ctCells_set (zs : List Ct) (k : Nat) (p0 p1 p2 : Int) : (((ctCells zs).set (k * 3) (.int .i64 p0)).set (k * 3 + 1) (.int .i64 p1)).set (k * 3 + 2) (.int .i64 p2) = ctCells (zs.set k ((p0, p1), p2)) := by
  induction zs generalizing k with
  | nil => simp [ctCells]
  | cons z zs ih =>
    cases k with
    | zero => rfl
    | succ k =>
      rw [ctCells_cons, List.set_cons_succ, ctCells_cons, ← ih k, show (k + 1) * 3 = k * 3 + 3 by omega, show k * 3 + 3 + 1 = (k * 3 + 1) + 3 by omega, show k * 3 + 3 + 2 = (k * 3 + 2) + 3 by omega]
      rfl

theorem fill_step_ct {zs : List Ct} {k n : Nat} (hk : k < zs.length) (hn : zs.length = n) : (zs.take k ++ List.replicate (n - k) (((0, 0), 0) : Ct)).set k zs[k] = zs.take (k + 1) ++ List.replicate (n - (k + 1)) ((0, 0), 0) := by
  have hl : (zs.take k).length = k := by simp; omega
  rw [List.set_append_right _ _ (by omega), hl, Nat.sub_self, show n - k = (n - (k + 1)) + 1 by omega, List.replicate_succ, List.set_cons_zero, List.take_succ_eq_append_getElem hk]
  simp only [List.append_assoc, List.singleton_append]

/-- A store of one into an owned row. -/
theorem own_stored_ct {w : World} {base e g n cap : Nat} {ys : List Ct} (h : w.ownsRow base e 3 (.slice (some ⟨g, 0, none⟩) n cap) n (ctCells ys)) (k : Nat) (p0 p1 p2 : Int) :
    ((((w).setCell ⟨g, k * 3, none⟩ (.int .i64 p0)).setCell ⟨g, k * 3 + 1, none⟩ (.int .i64 p1)).setCell ⟨g, k * 3 + 2, none⟩ (.int .i64 p2)).ownsRow base e 3 (.slice (some ⟨g, 0, none⟩) n cap) n (ctCells (ys.set k ((p0, p1), p2))) ∧ w.grownBy ((((w).setCell ⟨g, k * 3, none⟩ (.int .i64 p0)).setCell ⟨g, k * 3 + 1, none⟩ (.int .i64 p1)).setCell ⟨g, k * 3 + 2, none⟩ (.int .i64 p2)) (some g) := by
  have s0 := h.stored (k * 3) (.int .i64 p0)
  have s1 := s0.1.stored (k * 3 + 1) (.int .i64 p1)
  have s2 := s1.1.stored (k * 3 + 2) (.int .i64 p2)
  have hl := s2.1
  rw [ctCells_set] at hl
  exact ⟨hl, grown_trans (grown_trans s0.2 s1.2) s2.2⟩

/-- The marks that the laws lay into a list of Count. -/
def ctMarks (k n : Nat) : List Ct := (List.range n).map fun i => ((((k + 3 * i : Nat) : Int), ((k + 3 * i + 1 : Nat) : Int)), ((k + 3 * i + 2 : Nat) : Int))

theorem ctMarks_length (k n : Nat) : (ctMarks k n).length = n := by simp [ctMarks]
theorem ctMarks_succ (k n : Nat) : ctMarks k (n + 1) = ctMarks k n ++ [((((k + 3 * n : Nat) : Int), ((k + 3 * n + 1 : Nat) : Int)), ((k + 3 * n + 2 : Nat) : Int))] := by
  unfold ctMarks; rw [List.range_succ, List.map_append]; rfl
theorem ctMarks_at (k n j : Nat) (h : j < (ctMarks k n).length) : (ctMarks k n)[j] = ((((k + 3 * j : Nat) : Int), ((k + 3 * j + 1 : Nat) : Int)), ((k + 3 * j + 2 : Nat) : Int)) := by simp [ctMarks]
theorem ctMarks_set {zs : List Ct} {k i n : Nat} (hi : i < n) (hl : zs.length = n) : (ctMarks k i ++ zs.drop i).set i ((((k + 3 * i : Nat) : Int), ((k + 3 * i + 1 : Nat) : Int)), ((k + 3 * i + 2 : Nat) : Int)) = ctMarks k (i + 1) ++ zs.drop (i + 1) := by
  have l1 := ctMarks_length k i
  rw [List.set_append_right _ _ (by omega), l1, Nat.sub_self, List.drop_eq_getElem_cons (by omega), List.set_cons_zero, ctMarks_succ]
  simp only [List.append_assoc, List.singleton_append]

set_option maxRecDepth 100000 in
theorem markCtS_any (n k0 B : Nat) (zs : List Ct) (hz : zs.length = n) (v : Value) (w : World) (h : w.ownsRow B 74 3 v n (ctCells zs)) (hn : n ≤ 4194304) (hk1 : k0 ≤ 41943040) :
    Calls Try.prog 35 #[v, .int .i64 (k0 : Int)] w fun e w' => e = .returned (.int .i64 ((k0 + 3 * n : Nat) : Int)) ∧ w'.ownsRow B 74 3 v n (ctCells (ctMarks k0 n)) ∧ w.grownBy w' v.ownBlock := by
  obtain ⟨A, c, rfl, f⟩ := own_form h
  have HZ := Lib.hid hz
  by_cases h0 : n = 0
  · subst h0
    have e : ctCells zs = ctCells (ctMarks k0 0) := by
      obtain rfl := List.eq_nil_of_length_eq_zero hz
      rfl
    have H := Lib.hid (e ▸ h)
    clear h f hz e
    go_enter Try.func35, Try.ntmps35
    go_wp2
    go_loop [1, 5] (fun m i => m = .int .i64 (k0 : Int) ∧ i = .int .i64 0) (fun _ _ => 0)
    case atStart => exact ⟨rfl, rfl⟩
    case round =>
      obtain ⟨rfl, rfl⟩ := hrel
      go_wp2
      go_ret
      exact ⟨rfl, H.out, grown_refl _ _⟩
  · obtain ⟨g, rfl⟩ := f (by omega)
    have H0 := Lib.hid h
    clear h f hz
    go_enter Try.func35, Try.ntmps35
    go_wp2
    go_loopw [1, 5] (fun m i wr => ∃ k : Nat, k ≤ n ∧ m = .int .i64 ((k0 + 3 * k : Nat) : Int) ∧ i = .int .i64 k ∧ wr.ownsRow B 74 3 (.slice (some ⟨g, 0, none⟩) n c) n (ctCells (ctMarks k0 k ++ zs.drop k)) ∧ w.grownBy wr (some g)) (fun _ i _ => n - (intOf i).toNat)
    case atStart => exact ⟨0, Nat.zero_le _, rfl, rfl, by simpa [ctMarks] using H0.out, grown_refl _ _⟩
    case round =>
      obtain ⟨k, hk, rfl, rfl, hown, hg⟩ := hrel
      have HO := Lib.hid hown
      have HG := Lib.hid hg
      by_cases hlt : k < n
      · have i0' : (0 : Int) ≤ (k : Int) := by omega
        have i1 : (k : Int) < (n : Int) := by omega
        obtain ⟨u0, cu0⟩ : ∃ u, wr.cell? ⟨g, k * 3, none⟩ = some u := ⟨_, by rw [hown.cellAt (k * 3) (by omega)]; exact List.getElem?_eq_getElem (by rw [hown.1]; omega)⟩
        have fr0 := hown.frozenAt (k * 3)
        obtain ⟨u1, cu1⟩ : ∃ u, wr.cell? ⟨g, k * 3 + 1, none⟩ = some u := ⟨_, by rw [hown.cellAt (k * 3 + 1) (by omega)]; exact List.getElem?_eq_getElem (by rw [hown.1]; omega)⟩
        have fr1 := hown.frozenAt (k * 3 + 1)
        obtain ⟨u2, cu2⟩ : ∃ u, wr.cell? ⟨g, k * 3 + 2, none⟩ = some u := ⟨_, by rw [hown.cellAt (k * 3 + 2) (by omega)]; exact List.getElem?_eq_getElem (by rw [hown.1]; omega)⟩
        have fr2 := hown.frozenAt (k * 3 + 2)
        have st := own_stored_ct HO.out k ((k0 : Int) + 3 * (k : Int)) ((k0 : Int) + 3 * (k : Int) + 1) ((k0 : Int) + 3 * (k : Int) + 2)
        rw [show ((((k0 : Int) + 3 * (k : Int), (k0 : Int) + 3 * (k : Int) + 1), (k0 : Int) + 3 * (k : Int) + 2) : Ct) = ((((k0 + 3 * k : Nat) : Int), ((k0 + 3 * k + 1 : Nat) : Int)), ((k0 + 3 * k + 2 : Nat) : Int)) by simp, ctMarks_set hlt HZ.out] at st
        have ST := Lib.hid st.1
        have G3 := Lib.hid (grown_trans HG.out st.2)
        clear hown hg st HO HG
        go_wp2
        go_roundw
        case rel => exact ⟨k + 1, by omega, by go_num, by go_num, ST.out, G3.out⟩
        case measure => simp [intOf]; omega
      · have hkn : k = n := by omega
        subst hkn
        have O := HO.out
        rw [List.drop_of_length_le (by have := HZ.out; omega), List.append_nil] at O
        have HO2 := Lib.hid O
        clear O hown hg
        go_wp2
        go_ret
        exact ⟨rfl, HO2.out, HG.out⟩

set_option maxRecDepth 100000 in
theorem heldCtS_any (n k0 : Nat) (A : Option Addr) (c : Nat) (w : World) (h : Cts w A (ctMarks k0 n)) (hn : n ≤ 4194304) (hk1 : k0 ≤ 41943040) :
    Calls Try.prog 36 #[.slice A n c, .int .i64 (k0 : Int)] w fun e w' => e = .returned (.int .i64 ((k0 + 3 * n : Nat) : Int)) ∧ w = w' := by
  have H := Lib.hid h
  clear h
  go_enter Try.func36, Try.ntmps36
  go_wp2
  go_loop [1, 5] (fun m i => ∃ k : Nat, k ≤ n ∧ m = .int .i64 ((k0 + 3 * k : Nat) : Int) ∧ i = .int .i64 k) (fun _ i => n - (intOf i).toNat)
  case atStart => exact ⟨0, Nat.zero_le _, rfl, rfl⟩
  case round =>
    obtain ⟨k, hk, rfl, rfl⟩ := hrel
    by_cases hlt : k < n
    · have l1 : k < (ctMarks k0 n).length := by rw [ctMarks_length]; exact hlt
      obtain ⟨b1, o1, p0, p1, p2, rfl, x1, e0, e1, e2⟩ := H.out.at l1
      rw [ctMarks_at] at x1
      simp only [Prod.mk.injEq, and_assoc] at x1
      obtain ⟨rfl, rfl, rfl⟩ := x1
      have i0' : (0 : Int) ≤ (k : Int) := by omega
      have i1 : (k : Int) < (n : Int) := by omega
      clear H l1
      go_wp2
      go_round
      case rel => exact ⟨k + 1, by omega, by go_num, by go_num⟩
      case measure => simp [intOf]; omega
    · have hkn : k = n := by omega
      subst hkn
      go_wp2
      go_ret
      exact ⟨rfl, rfl⟩

/-- An append of a list of Count to an owned one. -/
theorem wpList_append_ct {w : World} {ops : Array Oper} {rest : List Oper} {o : Oper} {a : Act} {Q : Exit → Act → World → Prop} (hgd : o.guard = none) (s x : Operand)
    (ho : o.op = .call { callee := .builtin .append, args := #[s, x], argTypes := #[52, 52] })
    (base : Nat) (v : Value) (n : Nat) (zs : List Ct) (hs : a.eval s = v) (hown : w.ownsRow base 74 3 v n (ctCells zs))
    (A : Option Addr) (m c : Nat) (ys : List Ct) (hx : a.eval x = .slice A m c) (hA : A = none → c = 0) (hl : ys.length = m) (hsts : Cts w A ys)
    (hb : n + m ≤ 4194304) (hbase : base ≤ w.heap.size)
    (h : ∀ v' w', w'.ownsRow base 74 3 v' (n + m) (ctCells (zs ++ ys)) → w.grownBy w' v.ownBlock → wpList Try.prog ops Q rest (a.put o.dst v') w') : wpList Try.prog ops Q (o :: rest) a w := by
  obtain ⟨i0, hi, hz0, hz1, hz2⟩ := info_parts ctinfo
  cases A with
  | none =>
    obtain rfl := cts_none hsts hl
    obtain rfl := hA rfl
    obtain rfl := List.eq_nil_of_length_eq_zero hl
    exact wpList_append_own_none hgd s x 52 ho base 74 i0 3 Try.underlying52 hi v n (ctCells zs) hs hown hx (h v w (by simpa using hown) (grown_refl _ _))
  | some ad =>
    refine wpList_append_own w hgd s x 52 ho base 74 i0 (.agg #[.int .i64 0, .int .i64 0, .int .i64 0]) 3 24 Try.underlying52 hi hz0 hz1 hz2 rfl (by decide) v n (ctCells zs) hs hown ad m c (ctCells ys) hx (by rw [ctCells_length, hl]) hsts.news (fun u hu => ctCells_one hu) (by unfold maxLen; omega) (by omega) hbase ?_
    intro v' w' h2 h3 _
    rw [← ctCells_append] at h2
    exact h v' w' h2 h3

theorem ct_new (w : World) (p0 p1 p2 : Int) : Cts (w.alloc (.cells #[.int .i64 p0, .int .i64 p1, .int .i64 p2] 74)) (some ⟨w.heap.size, 0, none⟩) [((p0, p1), p2)] := fun _ =>
  ⟨w.heap.size, 0, rfl, by simp, fun j hj => by
    obtain rfl : j = 0 := by simpa using hj
    exact ⟨alloc_cells rfl rfl, alloc_cells rfl rfl, alloc_cells rfl rfl⟩⟩

theorem Row.ct {w : World} {lo hi e n c : Nat} {A : Option Addr} {zs : List Ct} (h : Row w lo hi e 3 A n c (ctCells zs)) : Cts w A zs := by
  obtain ⟨A', c', he, _, hs⟩ := Cts.of_own h.own
  simp only [Value.slice.injEq, true_and] at he
  obtain ⟨rfl, rfl⟩ := he
  exact hs
theorem Row.ctLen {w : World} {lo hi e n c : Nat} {A : Option Addr} {zs : List Ct} (h : Row w lo hi e 3 A n c (ctCells zs)) : zs.length = n := by
  have := h.own.1; rw [ctCells_length] at this; omega

theorem eqCtS_row {w : World} {lo1 hi1 lo2 hi2 n c1 c2 : Nat} {A1 A2 : Option Addr} {zs : List Ct} (h1 : Row w lo1 hi1 74 3 A1 n c1 (ctCells zs)) (h2 : Row w lo2 hi2 74 3 A2 n c2 (ctCells zs)) (hn : n ≤ 4194304) :
    Calls Try.prog 34 #[.slice A1 n c1, .slice A2 n c2] w fun e w' => e = .returned (.bool true) ∧ Below w.heap.size w w' := by
  have h := eqCtS_any n n zs zs h1.ctLen h2.ctLen A1 A2 c1 c2 w h1.ct h2.ct hn
  simpa using h

theorem markCtS_row {w : World} {lo hi n c : Nat} {A : Option Addr} {zs : List Ct} (k0 : Nat) (h : Row w lo hi 74 3 A n c (ctCells zs)) (hn : n ≤ 4194304) (hk1 : k0 ≤ 41943040) :
    Calls Try.prog 35 #[.slice A n c, .int .i64 (k0 : Int)] w fun e w' => e = .returned (.int .i64 ((k0 + 3 * n : Nat) : Int)) ∧ Row w' lo hi 74 3 A n c (ctCells (ctMarks k0 n)) ∧ Wrote w w' lo hi :=
  (markCtS_any n k0 lo zs h.ctLen (.slice A n c) w h.own hn hk1).mono fun _ _ ⟨he, ho, hg⟩ => ⟨he, ⟨ho, h.lt⟩, _, hg, fun g hgg => ⟨own_ge h.own g hgg, h.lt g hgg⟩⟩

theorem heldCtS_row {w : World} {lo hi n c : Nat} {A : Option Addr} (k0 : Nat) (h : Row w lo hi 74 3 A n c (ctCells (ctMarks k0 n))) (hn : n ≤ 4194304) (hk1 : k0 ≤ 41943040) :
    Calls Try.prog 36 #[.slice A n c, .int .i64 (k0 : Int)] w fun e w' => e = .returned (.int .i64 ((k0 + 3 * n : Nat) : Int)) ∧ w = w' :=
  heldCtS_any n k0 A c w h.ct hn hk1

end Go.Proofs.Ytdmbkjebagnloaa.hexes
