/-
  Lists of stamps in memory: how they lie there, and the contracts of the laws' own functions on them.
-/
import Derived.Test.YtiehpniogehkmaaStamps
import Derived.Test.YtiehpniogehkmaaOwned
import Derived.Deep.RegionHeld3
namespace Go.Proofs.Ytiehpniogehkmaa.hexes
open Go.RowKit

/-- A list of stamps as a row of cells. -/
def stCells (zs : List (Int × Int)) : List Value := zs.flatMap fun z => [.int .i64 z.1, .int .i64 z.2]

theorem stCells_nil : stCells [] = [] := rfl
theorem stCells_cons (z : Int × Int) (zs : List (Int × Int)) : stCells (z :: zs) = .int .i64 z.1 :: .int .i64 z.2 :: stCells zs := rfl
theorem stCells_append (a b : List (Int × Int)) : stCells (a ++ b) = stCells a ++ stCells b := by simp [stCells]
theorem stCells_length (zs : List (Int × Int)) : (stCells zs).length = zs.length * 2 := by
  induction zs with
  | nil => rfl
  | cons z zs ih => rw [stCells_cons]; simp only [List.length_cons, ih]; omega
theorem stCells_at (zs : List (Int × Int)) (j : Nat) (h : j < zs.length) : (stCells zs)[j * 2]? = some (.int .i64 zs[j].1) ∧ (stCells zs)[j * 2 + 1]? = some (.int .i64 zs[j].2) := by
  induction zs generalizing j with
  | nil => simp at h
  | cons z zs ih =>
    rw [stCells_cons]
    cases j with
    | zero => exact ⟨rfl, rfl⟩
    | succ j =>
      have := ih j (by simpa using h)
      rw [show (j + 1) * 2 = j * 2 + 1 + 1 by omega, show j * 2 + 1 + 1 + 1 = (j * 2 + 1) + 1 + 1 by omega]
      simpa using this

/-- A list of stamps that can be read at A. -/
def Sts (w : World) (A : Option Addr) (zs : List (Int × Int)) : Prop :=
  0 < zs.length → ∃ b off, A = some ⟨b, off, none⟩ ∧ b < w.heap.size ∧ ∀ j, (h : j < zs.length) → w.cell? ⟨b, off + j * 2, none⟩ = some (.int .i64 zs[j].1) ∧ w.cell? ⟨b, off + j * 2 + 1, none⟩ = some (.int .i64 zs[j].2)

theorem Sts.below {w w' : World} {A : Option Addr} {zs : List (Int × Int)} (h : Sts w A zs) (hb : Below w.heap.size w w') : Sts w' A zs := fun hl => by
  obtain ⟨b, off, hA, hlt, hz⟩ := h hl
  exact ⟨b, off, hA, Nat.lt_of_lt_of_le hlt hb.size, fun j hj => ⟨below_keep hb (hz j hj).1, below_keep hb (hz j hj).2⟩⟩

theorem Sts.of_own {w : World} {B e n : Nat} {v : Value} {zs : List (Int × Int)} (h : w.ownsRow B e 2 v n (stCells zs)) : ∃ A cap, v = .slice A n cap ∧ zs.length = n ∧ Sts w A zs := by
  have hl : zs.length = n := by have := h.1; rw [stCells_length] at this; omega
  rcases h.2 with ⟨rfl, rfl⟩ | ⟨g, cap, cur, rfl, _, hg, hnc, _, hcs, htk⟩
  · exact ⟨none, 0, rfl, hl, fun h => absurd h (by omega)⟩
  · refine ⟨some ⟨g, 0, none⟩, cap, rfl, hl, fun hp => ⟨g, 0, rfl, ?_, fun j hj => ?_⟩⟩
    · rcases Nat.lt_or_ge g w.heap.size with hlt | hge
      · exact hlt
      · rw [Array.getElem?_eq_none hge] at hg; cases hg
    · have key : ∀ i u, (stCells zs)[i]? = some u → w.cell? ⟨g, i, none⟩ = some u := fun i u hu => by
        rw [cell_of_row w g i cur e (0, 0) hg]
        rw [← htk, List.getElem?_take] at hu
        split at hu
        · simpa using hu
        · cases hu
      rw [Nat.zero_add]
      exact ⟨key _ _ (stCells_at zs j hj).1, key _ _ (stCells_at zs j hj).2⟩

theorem take_step {zs ys : List (Int × Int)} {k : Nat} (h1 : k < zs.length) (h2 : k < ys.length) (ht : zs.take k = ys.take k) (he : zs[k] = ys[k]) : zs.take (k + 1) = ys.take (k + 1) := by
  rw [List.take_succ_eq_append_getElem h1, List.take_succ_eq_append_getElem h2, ht, he]

theorem eqSt_is {x y u v : Int} {b : Bool} (h : decide (x = u ∧ y = v) = b) (W : World) : Calls Try.prog 60 #[.agg #[.int .i64 x, .int .i64 y], .agg #[.int .i64 u, .int .i64 v]] W fun e w' => e = .returned (.bool b) ∧ Below W.heap.size W w' := by
  subst h; exact eqStamp_any _ _ _ _ W

/-- The k-th stamp of a list that can be read, cell by cell. -/
theorem Sts.at {w : World} {A : Option Addr} {zs : List (Int × Int)} (h : Sts w A zs) {k : Nat} (hk : k < zs.length) : ∃ b off p q, A = some ⟨b, off, none⟩ ∧ zs[k] = (p, q) ∧ w.cell? ⟨b, off + k * 2, none⟩ = some (.int .i64 p) ∧ w.cell? ⟨b, off + k * 2 + 1, none⟩ = some (.int .i64 q) := by
  obtain ⟨b, off, hA, _, hz⟩ := h (by omega)
  exact ⟨b, off, zs[k].1, zs[k].2, hA, rfl, (hz k hk).1, (hz k hk).2⟩

set_option maxRecDepth 100000 in
theorem eqStS_same (n : Nat) (zs ys : List (Int × Int)) (hz : zs.length = n) (hy : ys.length = n) (A1 A2 : Option Addr) (c1 c2 : Nat) (w : World) (h1 : Sts w A1 zs) (h2 : Sts w A2 ys) (hn : n ≤ 4194304) :
    Calls Try.prog 37 #[.slice A1 n c1, .slice A2 n c2] w fun e w' => e = .returned (.bool (decide (zs = ys))) ∧ Below w.heap.size w w' := by
  have H1 := Lib.hid h1
  have H2 := Lib.hid h2
  have HZ := Lib.hid hz
  have HY := Lib.hid hy
  clear h1 h2 hz hy
  go_enter Try.func37, Try.ntmps37
  go_wp2
  go_loopw [5] (fun i wr => ∃ k : Nat, k ≤ n ∧ i = .int .i64 k ∧ zs.take k = ys.take k ∧ Below w.heap.size w wr) (fun i _ => n - (intOf i).toNat)
  case atStart => exact ⟨0, Nat.zero_le _, rfl, rfl, Below.refl _ _⟩
  case round =>
    obtain ⟨k, hk, rfl, ht, hb⟩ := hrel
    have HT := Lib.hid ht
    have HB := Lib.hid hb
    by_cases hlt : k < n
    · have l1 : k < zs.length := by rw [HZ.out]; exact hlt
      have l2 : k < ys.length := by rw [HY.out]; exact hlt
      obtain ⟨b1, o1, p, q, rfl, x1, e1, e2⟩ := (H1.out.below hb).at l1
      obtain ⟨b2, o2, r, s, rfl, x2, e3, e4⟩ := (H2.out.below hb).at l2
      have X1 := Lib.hid x1
      have X2 := Lib.hid x2
      have i0 : (0 : Int) ≤ (k : Int) := by omega
      have i1 : (k : Int) < (n : Int) := by omega
      clear ht hb x1 x2
      by_cases he : p = r ∧ q = s
      · obtain ⟨rfl, rfl⟩ := he
        have E := Lib.hid (fun W => eqSt_is (x := p) (y := q) (u := p) (v := q) (b := true) (by simp) W)
        have HT2 := Lib.hid (take_step l1 l2 HT.out (X1.out.trans X2.out.symm))
        clear HT X1 X2 l1 l2
        go_wp2_with fail
        go_region_held3 (fun w' => w'.cell? ⟨b1, o1 + k * 2, none⟩ = some (.int .i64 p) ∧ w'.cell? ⟨b1, o1 + k * 2 + 1, none⟩ = some (.int .i64 q) ∧ w'.cell? ⟨b2, o2 + k * 2, none⟩ = some (.int .i64 p) ∧ w'.cell? ⟨b2, o2 + k * 2 + 1, none⟩ = some (.int .i64 q))
          (((try go_split_ands); refine ⟨?_, ?_, ?_, ?_⟩ <;> (repeat (first | with_reducible assumption | with_reducible refine drew_keep ?_ | with_reducible refine below_keep hbd ?_))))
          (first | (go_at_call 60; with_reducible refine (E.out _).mono ?_; rintro e w5 ⟨rfl, hbd⟩))
        have B5 := below_chain HB.out.drew hbd
        clear hbd
        go_wp2
        go_roundw
        case rel => exact ⟨k + 1, by omega, by go_num, HT2.out, B5⟩
        case measure => simp [intOf]; omega
      · have E := Lib.hid (fun W => eqSt_is (x := p) (y := q) (u := r) (v := s) (b := false) (by simpa using he) W)
        have hne : decide (zs = ys) = false := by
          simp only [decide_eq_false_iff_not]
          rintro rfl
          have := X1.out.symm.trans X2.out
          simp only [Prod.mk.injEq] at this
          exact he this
        have HN := Lib.hid hne
        clear HT X1 X2 l1 l2 he hne
        go_wp2_with fail
        go_region_held3 (fun w' => w'.cell? ⟨b1, o1 + k * 2, none⟩ = some (.int .i64 p) ∧ w'.cell? ⟨b1, o1 + k * 2 + 1, none⟩ = some (.int .i64 q) ∧ w'.cell? ⟨b2, o2 + k * 2, none⟩ = some (.int .i64 r) ∧ w'.cell? ⟨b2, o2 + k * 2 + 1, none⟩ = some (.int .i64 s))
          (((try go_split_ands); refine ⟨?_, ?_, ?_, ?_⟩ <;> (repeat (first | with_reducible assumption | with_reducible refine drew_keep ?_ | with_reducible refine below_keep hbd ?_))))
          (first | (go_at_call 60; with_reducible refine (E.out _).mono ?_; rintro e w5 ⟨rfl, hbd⟩))
        have B5 := below_chain HB.out.drew hbd
        clear hbd
        go_wp2
        go_ret
        exact ⟨congrArg (fun b => Ending.returned (Value.bool b)) HN.out.symm, B5⟩
    · have hkn : k = n := by omega
      have heq : zs = ys := by
        have h3 := HT.out
        rw [List.take_of_length_le (by rw [HZ.out]; omega), List.take_of_length_le (by rw [HY.out]; omega)] at h3
        exact h3
      have hd : decide (zs = ys) = true := by simp [heq]
      have HD := Lib.hid hd
      clear heq hd HT ht
      go_wp2
      go_ret
      exact ⟨congrArg (fun b => Ending.returned (Value.bool b)) HD.out.symm, HB.out⟩

theorem eqStS_any (n m : Nat) (zs ys : List (Int × Int)) (hz : zs.length = n) (hy : ys.length = m) (A1 A2 : Option Addr) (c1 c2 : Nat) (w : World) (h1 : Sts w A1 zs) (h2 : Sts w A2 ys) (hn : n ≤ 4194304) :
    Calls Try.prog 37 #[.slice A1 n c1, .slice A2 m c2] w fun e w' => e = .returned (.bool (decide (zs = ys))) ∧ Below w.heap.size w w' := by
  by_cases h : n = m
  · subst h
    exact eqStS_same n zs ys hz hy A1 A2 c1 c2 w h1 h2 hn
  · have hd : decide (zs = ys) = false := by
      simp only [decide_eq_false_iff_not]
      rintro rfl
      omega
    rw [hd]
    have hc : ((n : Int) != (m : Int)) = true := by simp; omega
    clear hz hy h1 h2 hd
    go_enter Try.func37, Try.ntmps37
    go_wp2
    go_ret
    exact ⟨rfl, Below.refl _ _⟩

theorem stinfo : (Try.prog.info? 26).map (fun i => (i.zero, i.size, i.bytes)) = some (some (.agg #[.int .i64 0, .int .i64 0]), 2, 16) := by kernel_rfl

theorem stCells_made (n : Nat) : (madeCells #[.int .i64 0, .int .i64 0] (n * 2)).toList = stCells (List.replicate n (0, 0)) := by
  apply List.ext_getElem?
  intro i
  have hl : (stCells (List.replicate n ((0 : Int), (0 : Int)))).length = n * 2 := by rw [stCells_length]; simp
  by_cases hi : i < n * 2
  · have hL : (madeCells #[.int .i64 0, .int .i64 0] (n * 2)).toList[i]? = some (.int .i64 0) := by
      simp only [madeCells, Array.toList_map, Array.toList_range, List.getElem?_map, List.getElem?_range hi, Option.map_some]
      rcases Nat.mod_two_eq_zero_or_one i with h | h
      · simp [h]
      · simp [h]
    rw [hL]
    have hj : i / 2 < (List.replicate n ((0 : Int), (0 : Int))).length := by simp; omega
    have := stCells_at (List.replicate n (0, 0)) (i / 2) hj
    rcases Nat.mod_two_eq_zero_or_one i with h | h
    · rw [show i / 2 * 2 = i by omega] at this
      rw [this.1]; simp
    · rw [show i / 2 * 2 + 1 = i by omega] at this
      rw [this.2]; simp
  · rw [List.getElem?_eq_none (by simp [size_madeCells]; omega), List.getElem?_eq_none (by omega)]

theorem stCells_set (zs : List (Int × Int)) (k : Nat) (x y : Int) : ((stCells zs).set (k * 2) (.int .i64 x)).set (k * 2 + 1) (.int .i64 y) = stCells (zs.set k (x, y)) := by
  induction zs generalizing k with
  | nil => simp [stCells]
  | cons z zs ih =>
    cases k with
    | zero => rfl
    | succ k =>
      rw [stCells_cons, List.set_cons_succ, stCells_cons, ← ih k, show (k + 1) * 2 = k * 2 + 2 by omega, show k * 2 + 2 + 1 = (k * 2 + 1) + 2 by omega]
      rfl

theorem fill_step {zs : List (Int × Int)} {k n : Nat} (hk : k < zs.length) (hn : zs.length = n) : (zs.take k ++ List.replicate (n - k) ((0 : Int), (0 : Int))).set k zs[k] = zs.take (k + 1) ++ List.replicate (n - (k + 1)) (0, 0) := by
  have hl : (zs.take k).length = k := by simp; omega
  rw [List.set_append_right _ _ (by omega), hl, Nat.sub_self, show n - k = (n - (k + 1)) + 1 by omega, List.replicate_succ, List.set_cons_zero, List.take_succ_eq_append_getElem hk]
  simp only [List.append_assoc, List.singleton_append]

/-- A store of a stamp into an owned row. -/
theorem own_stored2 {w : World} {base e g n cap : Nat} {ys : List (Int × Int)} (h : w.ownsRow base e 2 (.slice (some ⟨g, 0, none⟩) n cap) n (stCells ys)) (k : Nat) (x y : Int) :
    ((w.setCell ⟨g, k * 2, none⟩ (.int .i64 x)).setCell ⟨g, k * 2 + 1, none⟩ (.int .i64 y)).ownsRow base e 2 (.slice (some ⟨g, 0, none⟩) n cap) n (stCells (ys.set k (x, y))) ∧ w.grownBy ((w.setCell ⟨g, k * 2, none⟩ (.int .i64 x)).setCell ⟨g, k * 2 + 1, none⟩ (.int .i64 y)) (some g) := by
  have h1 := h.stored (k * 2) (.int .i64 x)
  have h2 := h1.1.stored (k * 2 + 1) (.int .i64 y)
  rw [stCells_set] at h2
  exact ⟨h2.1, grown_trans h1.2 h2.2⟩

/-- The marks that the laws lay into a list of stamps. -/
def stMarks (k n : Nat) : List (Int × Int) := (List.range n).map fun i => (((k + 2 * i : Nat) : Int), ((k + 2 * i + 1 : Nat) : Int))

theorem stMarks_length (k n : Nat) : (stMarks k n).length = n := by simp [stMarks]
theorem stMarks_succ (k n : Nat) : stMarks k (n + 1) = stMarks k n ++ [(((k + 2 * n : Nat) : Int), ((k + 2 * n + 1 : Nat) : Int))] := by
  unfold stMarks; rw [List.range_succ, List.map_append]; rfl
theorem stMarks_at (k n j : Nat) (h : j < (stMarks k n).length) : (stMarks k n)[j] = (((k + 2 * j : Nat) : Int), ((k + 2 * j + 1 : Nat) : Int)) := by simp [stMarks]
theorem stMarks_set {zs : List (Int × Int)} {k i n : Nat} (hi : i < n) (hl : zs.length = n) : (stMarks k i ++ zs.drop i).set i (((k + 2 * i : Nat) : Int), ((k + 2 * i + 1 : Nat) : Int)) = stMarks k (i + 1) ++ zs.drop (i + 1) := by
  have l1 := stMarks_length k i
  rw [List.set_append_right _ _ (by omega), l1, Nat.sub_self, List.drop_eq_getElem_cons (by omega), List.set_cons_zero, stMarks_succ]
  simp only [List.append_assoc, List.singleton_append]

set_option maxRecDepth 100000 in
theorem markStS_any (n k0 B : Nat) (zs : List (Int × Int)) (hz : zs.length = n) (v : Value) (w : World) (h : w.ownsRow B 26 2 v n (stCells zs)) (hn : n ≤ 4194304) (hk1 : k0 ≤ 4194304) :
    Calls Try.prog 38 #[v, .int .i64 (k0 : Int)] w fun e w' => e = .returned (.int .i64 ((k0 + 2 * n : Nat) : Int)) ∧ w'.ownsRow B 26 2 v n (stCells (stMarks k0 n)) ∧ w.grownBy w' v.ownBlock := by
  obtain ⟨A, c, rfl, f⟩ := own_form h
  have HZ := Lib.hid hz
  by_cases h0 : n = 0
  · subst h0
    have e : stCells zs = stCells (stMarks k0 0) := by
      obtain rfl := List.eq_nil_of_length_eq_zero hz
      rfl
    have H := Lib.hid (e ▸ h)
    clear h f hz e
    go_enter Try.func38, Try.ntmps38
    go_wp2
    go_loop [1, 5] (fun m i => m = .int .i64 (k0 : Int) ∧ i = .int .i64 0) (fun _ _ => 0)
    case atStart => exact ⟨rfl, rfl⟩
    case round =>
      obtain ⟨rfl, rfl⟩ := hrel
      go_wp2
      go_ret
      exact ⟨rfl, H.out, grown_refl _ _⟩
  · obtain ⟨g, rfl⟩ := f (by omega)
    have H0 := Lib.hid h
    clear h f hz
    go_enter Try.func38, Try.ntmps38
    go_wp2
    go_loopw [1, 5] (fun m i wr => ∃ k : Nat, k ≤ n ∧ m = .int .i64 ((k0 + 2 * k : Nat) : Int) ∧ i = .int .i64 k ∧ wr.ownsRow B 26 2 (.slice (some ⟨g, 0, none⟩) n c) n (stCells (stMarks k0 k ++ zs.drop k)) ∧ w.grownBy wr (some g)) (fun _ i _ => n - (intOf i).toNat)
    case atStart => exact ⟨0, Nat.zero_le _, rfl, rfl, by simpa [stMarks] using H0.out, grown_refl _ _⟩
    case round =>
      obtain ⟨k, hk, rfl, rfl, hown, hg⟩ := hrel
      have HO := Lib.hid hown
      have HG := Lib.hid hg
      by_cases hlt : k < n
      · have i0' : (0 : Int) ≤ (k : Int) := by omega
        have i1 : (k : Int) < (n : Int) := by omega
        have cu : ∃ u, wr.cell? ⟨g, k * 2, none⟩ = some u := ⟨_, by rw [hown.cellAt (k * 2) (by omega)]; exact List.getElem?_eq_getElem (by rw [hown.1]; omega)⟩
        have cv : ∃ u, wr.cell? ⟨g, k * 2 + 1, none⟩ = some u := ⟨_, by rw [hown.cellAt (k * 2 + 1) (by omega)]; exact List.getElem?_eq_getElem (by rw [hown.1]; omega)⟩
        obtain ⟨u, cu⟩ := cu
        obtain ⟨v, cv⟩ := cv
        have f1 := hown.frozenAt (k * 2)
        have f2 := hown.frozenAt (k * 2 + 1)
        have st := own_stored2 HO.out k ((k0 : Int) + 2 * (k : Int)) ((k0 : Int) + 2 * (k : Int) + 1)
        rw [show ((k0 : Int) + 2 * (k : Int), (k0 : Int) + 2 * (k : Int) + 1) = (((k0 + 2 * k : Nat) : Int), ((k0 + 2 * k + 1 : Nat) : Int)) by simp, stMarks_set hlt HZ.out] at st
        have ST := Lib.hid st.1
        have G3 := Lib.hid (grown_trans HG.out st.2)
        clear hown hg st HO HG
        go_wp2
        go_roundw
        case rel => exact ⟨k + 1, by omega, by go_num, by go_num, ST.out, G3.out⟩
        case measure => simp [intOf]; omega
      · have hkn : k = n := by omega
        subst hkn
        have O := HO.out
        rw [List.drop_of_length_le (by have := HZ.out; omega), List.append_nil] at O
        have HO2 := Lib.hid O
        clear O hown hg
        go_wp2
        go_ret
        exact ⟨rfl, HO2.out, HG.out⟩

set_option maxRecDepth 100000 in
theorem heldStS_any (n k0 : Nat) (A : Option Addr) (c : Nat) (w : World) (h : Sts w A (stMarks k0 n)) (hn : n ≤ 4194304) (hk1 : k0 ≤ 4194304) :
    Calls Try.prog 39 #[.slice A n c, .int .i64 (k0 : Int)] w fun e w' => e = .returned (.int .i64 ((k0 + 2 * n : Nat) : Int)) ∧ w = w' := by
  have H := Lib.hid h
  clear h
  go_enter Try.func39, Try.ntmps39
  go_wp2
  go_loop [1, 5] (fun m i => ∃ k : Nat, k ≤ n ∧ m = .int .i64 ((k0 + 2 * k : Nat) : Int) ∧ i = .int .i64 k) (fun _ i => n - (intOf i).toNat)
  case atStart => exact ⟨0, Nat.zero_le _, rfl, rfl⟩
  case round =>
    obtain ⟨k, hk, rfl, rfl⟩ := hrel
    by_cases hlt : k < n
    · have l1 : k < (stMarks k0 n).length := by rw [stMarks_length]; exact hlt
      obtain ⟨b1, o1, p, q, rfl, x1, e1, e2⟩ := H.out.at l1
      rw [stMarks_at] at x1
      simp only [Prod.mk.injEq] at x1
      obtain ⟨rfl, rfl⟩ := x1
      have i0' : (0 : Int) ≤ (k : Int) := by omega
      have i1 : (k : Int) < (n : Int) := by omega
      clear H l1
      go_wp2
      go_round
      case rel => exact ⟨k + 1, by omega, by go_num, by go_num⟩
      case measure => simp [intOf]; omega
    · have hkn : k = n := by omega
      subst hkn
      go_wp2
      go_ret
      exact ⟨rfl, rfl⟩

end Go.Proofs.Ytiehpniogehkmaa.hexes
