/-
  Lists of Cell in memory: how they lie there, and the contracts of the laws' own functions on them.
-/
import Derived.Test.YtbbagpnjjjohpaaJ16
import Derived.Test.YtbbagpnjjjohpaaJ1

namespace Go.Proofs.Ytbbagpnjjjohpaa.hexes
open Go.RowKit

/-- A list of Cell as a row of cells. -/
def ceCells (zs : List Ce) : List Value := zs.flatMap fun z => [.int .i64 z.1, .int .i64 z.2.1, .int .i64 z.2.2.1, .int .i64 z.2.2.2]

theorem ceCells_cons (z : Ce) (zs : List Ce) : ceCells (z :: zs) = .int .i64 z.1 :: .int .i64 z.2.1 :: .int .i64 z.2.2.1 :: .int .i64 z.2.2.2 :: ceCells zs := rfl
theorem ceCells_append (a b : List Ce) : ceCells (a ++ b) = ceCells a ++ ceCells b := by simp [ceCells]
theorem ceCells_length (zs : List Ce) : (ceCells zs).length = zs.length * 4 := by
  induction zs with
  | nil => rfl
  | cons z zs ih => rw [ceCells_cons]; simp only [List.length_cons, ih]; omega
theorem ceCells_at (zs : List Ce) (j : Nat) (h : j < zs.length) : (ceCells zs)[j * 4]? = some (.int .i64 zs[j].1) ∧ (ceCells zs)[j * 4 + 1]? = some (.int .i64 zs[j].2.1) ∧ (ceCells zs)[j * 4 + 2]? = some (.int .i64 zs[j].2.2.1) ∧ (ceCells zs)[j * 4 + 3]? = some (.int .i64 zs[j].2.2.2) := by
  induction zs generalizing j with
  | nil => simp at h
  | cons z zs ih =>
    rw [ceCells_cons]
    cases j with
    | zero => exact ⟨rfl, rfl, rfl, rfl⟩
    | succ j =>
      have := ih j (by simpa using h)
      rw [show (j + 1) * 4 = j * 4 + 1 + 1 + 1 + 1 by omega]
      simpa using this
theorem ceCells_one {zs : List Ce} {u : Value} (h : u ∈ ceCells zs) : u.oneCell' = true := by
  simp only [ceCells, List.mem_flatMap, List.mem_cons, List.not_mem_nil, or_false] at h
  obtain ⟨z, _, rfl | rfl | rfl | rfl⟩ := h <;> rfl

/-- A list of Cell that can be read at A. -/
def Ces (w : World) (A : Option Addr) (zs : List Ce) : Prop :=
  0 < zs.length → ∃ b off, A = some ⟨b, off, none⟩ ∧ b < w.heap.size ∧ ∀ j, (h : j < zs.length) → w.cell? ⟨b, off + j * 4, none⟩ = some (.int .i64 zs[j].1) ∧ w.cell? ⟨b, off + j * 4 + 1, none⟩ = some (.int .i64 zs[j].2.1) ∧ w.cell? ⟨b, off + j * 4 + 2, none⟩ = some (.int .i64 zs[j].2.2.1) ∧ w.cell? ⟨b, off + j * 4 + 3, none⟩ = some (.int .i64 zs[j].2.2.2)

theorem Ces.below {w w' : World} {A : Option Addr} {zs : List Ce} (h : Ces w A zs) (hb : Below w.heap.size w w') : Ces w' A zs := fun hl => by
  obtain ⟨b, off, hA, hlt, hz⟩ := h hl
  refine ⟨b, off, hA, Nat.lt_of_lt_of_le hlt hb.size, fun j hj => ?_⟩
  obtain ⟨h0, h1, h2, h3⟩ := hz j hj
  exact ⟨below_keep hb h0, below_keep hb h1, below_keep hb h2, below_keep hb h3⟩

theorem Ces.of_own {w : World} {B e n : Nat} {v : Value} {zs : List Ce} (h : w.ownsRow B e 4 v n (ceCells zs)) : ∃ A cap, v = .slice A n cap ∧ zs.length = n ∧ Ces w A zs := by
  have hl : zs.length = n := by have := h.1; rw [ceCells_length] at this; omega
  rcases h.2 with ⟨rfl, rfl⟩ | ⟨g, cap, cur, rfl, _, hg, hnc, _, hcs, htk⟩
  · exact ⟨none, 0, rfl, hl, fun h => absurd h (by omega)⟩
  · refine ⟨some ⟨g, 0, none⟩, cap, rfl, hl, fun hp => ⟨g, 0, rfl, ?_, fun j hj => ?_⟩⟩
    · rcases Nat.lt_or_ge g w.heap.size with hlt | hge
      · exact hlt
      · rw [Array.getElem?_eq_none hge] at hg; cases hg
    · have key : ∀ i u, (ceCells zs)[i]? = some u → w.cell? ⟨g, i, none⟩ = some u := fun i u hu => by
        rw [cell_of_row w g i cur e (0, 0) hg]
        rw [← htk, List.getElem?_take] at hu
        split at hu
        · simpa using hu
        · cases hu
      rw [Nat.zero_add]
      obtain ⟨h0, h1, h2, h3⟩ := ceCells_at zs j hj
      exact ⟨key _ _ h0, key _ _ h1, key _ _ h2, key _ _ h3⟩

/-- The k-th entry of a list that can be read, cell by cell. -/
theorem Ces.at {w : World} {A : Option Addr} {zs : List Ce} (h : Ces w A zs) {k : Nat} (hk : k < zs.length) : ∃ b off p0 p1 p2 p3, A = some ⟨b, off, none⟩ ∧ zs[k] = (p0, p1, p2, p3) ∧ w.cell? ⟨b, off + k * 4, none⟩ = some (.int .i64 p0) ∧ w.cell? ⟨b, off + k * 4 + 1, none⟩ = some (.int .i64 p1) ∧ w.cell? ⟨b, off + k * 4 + 2, none⟩ = some (.int .i64 p2) ∧ w.cell? ⟨b, off + k * 4 + 3, none⟩ = some (.int .i64 p3) := by
  obtain ⟨b, off, hA, _, hz⟩ := h (by omega)
  obtain ⟨h0, h1, h2, h3⟩ := hz k hk
  exact ⟨b, off, zs[k].1, zs[k].2.1, zs[k].2.2.1, zs[k].2.2.2, hA, rfl, h0, h1, h2, h3⟩

theorem Ces.news {w : World} {ad : Addr} {ys : List Ce} (h : Ces w (some ad) ys) (j : Nat) (u : Value) (hu : (ceCells ys)[j]? = some u) : w.cell? (ad.add j) = some u := by
  have hj : j < ys.length * 4 := by rw [← ceCells_length]; exact (List.getElem?_eq_some_iff.1 hu).1
  obtain ⟨b, off, hA, _, hz⟩ := h (by omega)
  obtain rfl : ad = ⟨b, off, none⟩ := Option.some.inj hA
  rw [addr_add1]
  have hk : j / 4 < ys.length := by omega
  obtain ⟨e0, e1, e2, e3⟩ := ceCells_at ys (j / 4) hk
  obtain ⟨z0, z1, z2, z3⟩ := hz (j / 4) hk
  have hm : j % 4 = 0 ∨ j % 4 = 1 ∨ j % 4 = 2 ∨ j % 4 = 3 := by omega
  rcases hm with h2 | h2 | h2 | h2
  · rw [show j / 4 * 4 = j by omega] at e0
    rw [show off + j / 4 * 4 = off + j by omega] at z0
    rw [z0, ← hu, e0]
  · rw [show j / 4 * 4 + 1 = j by omega] at e1
    rw [show off + j / 4 * 4 + 1 = off + j by omega] at z1
    rw [z1, ← hu, e1]
  · rw [show j / 4 * 4 + 2 = j by omega] at e2
    rw [show off + j / 4 * 4 + 2 = off + j by omega] at z2
    rw [z2, ← hu, e2]
  · rw [show j / 4 * 4 + 3 = j by omega] at e3
    rw [show off + j / 4 * 4 + 3 = off + j by omega] at z3
    rw [z3, ← hu, e3]

theorem ces_none {w : World} {n : Nat} {zs : List Ce} (h : Ces w none zs) (hz : zs.length = n) : n = 0 := by
  rcases Nat.eq_zero_or_pos n with h0 | h0
  · exact h0
  · obtain ⟨b, off, hA, _⟩ := h (by omega)
    cases hA

theorem szCe_any (A : Option Addr) (n c : Nat) (left : Int) (h0 : 0 ≤ left) (h1 : left ≤ 1048576) (hn : n ≤ maxLen) (w : World) :
    Calls Try.prog 33 #[.slice A n c, .int .i64 left] w fun e w' => e = .returned (.int .i64 (if left < (n : Int) then -1 else left - n)) ∧ w = w' := by
  unfold maxLen at hn
  have m : IntKind.i64.wrap (left - (n : Int)) = left - (n : Int) := IntWalk.i64_in _ (by omega)
  by_cases h : left < (n : Int)
  · have hd : decide (left - (n : Int) < 0) = true := by simp; omega
    rw [if_pos h]
    go_enter Try.func33, Try.ntmps33
    go_wp2
    go_ret
    exact ⟨rfl, rfl⟩
  · have hd : decide (left - (n : Int) < 0) = false := by simp; omega
    rw [if_neg h]
    go_enter Try.func33, Try.ntmps33
    go_wp2
    go_ret
    exact ⟨rfl, rfl⟩

theorem szCe_over (A : Option Addr) (n c : Nat) (left : Int) (h0 : 0 ≤ left) (h1 : left ≤ 1048576) (hn : n ≤ maxLen) (h : left < (n : Int)) (w : World) :
    Calls Try.prog 33 #[.slice A n c, .int .i64 left] w fun e w' => e = .returned (.int .i64 (-1)) ∧ w = w' := by
  have := szCe_any A n c left h0 h1 hn w
  rwa [if_pos h] at this

theorem szCe_in (A : Option Addr) (n c : Nat) (left : Int) (h0 : 0 ≤ left) (h1 : left ≤ 1048576) (hn : n ≤ maxLen) (h : ¬left < (n : Int)) (w : World) :
    Calls Try.prog 33 #[.slice A n c, .int .i64 left] w fun e w' => e = .returned (.int .i64 (left - n)) ∧ w = w' := by
  have := szCe_any A n c left h0 h1 hn w
  rwa [if_neg h] at this

theorem take_step_ce {zs ys : List Ce} {k : Nat} (h1 : k < zs.length) (h2 : k < ys.length) (ht : zs.take k = ys.take k) (he : zs[k] = ys[k]) : zs.take (k + 1) = ys.take (k + 1) := by
  rw [List.take_succ_eq_append_getElem h1, List.take_succ_eq_append_getElem h2, ht, he]

theorem eqCe_is {p0 p1 p2 p3 q0 q1 q2 q3 : Int} {b : Bool} (h : decide (p0 = q0 ∧ p1 = q1 ∧ p2 = q2 ∧ p3 = q3) = b) (W : World) : Calls Try.prog 67 #[.agg #[.int .i64 p0, .int .i64 p1, .int .i64 p2, .int .i64 p3], .agg #[.int .i64 q0, .int .i64 q1, .int .i64 q2, .int .i64 q3]] W fun e w' => e = .returned (.bool b) ∧ Below W.heap.size W w' := by
  subst h; exact eqCell_any _ _ _ _ _ _ _ _ W

set_option maxRecDepth 100000 in
theorem eqCeS_same (n : Nat) (zs ys : List Ce) (hz : zs.length = n) (hy : ys.length = n) (A1 A2 : Option Addr) (c1 c2 : Nat) (w : World) (h1 : Ces w A1 zs) (h2 : Ces w A2 ys) (hn : n ≤ 4194304) :
    Calls Try.prog 37 #[.slice A1 n c1, .slice A2 n c2] w fun e w' => e = .returned (.bool (decide (zs = ys))) ∧ Below w.heap.size w w' := by
  have H1 := Lib.hid h1
  have H2 := Lib.hid h2
  have HZ := Lib.hid hz
  have HY := Lib.hid hy
  clear h1 h2 hz hy
  go_enter Try.func37, Try.ntmps37
  go_wp2
  go_loopw [5] (fun i wr => ∃ k : Nat, k ≤ n ∧ i = .int .i64 k ∧ zs.take k = ys.take k ∧ Below w.heap.size w wr) (fun i _ => n - (intOf i).toNat)
  case atStart => exact ⟨0, Nat.zero_le _, rfl, rfl, Below.refl _ _⟩
  case round =>
    obtain ⟨k, hk, rfl, ht, hb⟩ := hrel
    have HT := Lib.hid ht
    have HB := Lib.hid hb
    by_cases hlt : k < n
    · have l1 : k < zs.length := by rw [HZ.out]; exact hlt
      have l2 : k < ys.length := by rw [HY.out]; exact hlt
      obtain ⟨b1, o1, p0, p1, p2, p3, rfl, x1, e0, e1, e2, e3⟩ := (H1.out.below hb).at l1
      obtain ⟨b2, o2, q0, q1, q2, q3, rfl, x2, f0, f1, f2, f3⟩ := (H2.out.below hb).at l2
      have X1 := Lib.hid x1
      have X2 := Lib.hid x2
      have i0 : (0 : Int) ≤ (k : Int) := by omega
      have i1 : (k : Int) < (n : Int) := by omega
      clear ht hb x1 x2
      by_cases he : p0 = q0 ∧ p1 = q1 ∧ p2 = q2 ∧ p3 = q3
      · have E := Lib.hid (fun W => eqCe_is (b := true) (decide_eq_true he) W)
        obtain ⟨rfl, rfl, rfl, rfl⟩ := he
        have HT2 := Lib.hid (take_step_ce l1 l2 HT.out (X1.out.trans X2.out.symm))
        clear HT X1 X2 l1 l2
        go_wp2_with fail
        go_region_held3 (fun w' => w'.cell? ⟨b1, o1 + k * 4, none⟩ = some (.int .i64 p0) ∧ w'.cell? ⟨b1, o1 + k * 4 + 1, none⟩ = some (.int .i64 p1) ∧ w'.cell? ⟨b1, o1 + k * 4 + 2, none⟩ = some (.int .i64 p2) ∧ w'.cell? ⟨b1, o1 + k * 4 + 3, none⟩ = some (.int .i64 p3) ∧ w'.cell? ⟨b2, o2 + k * 4, none⟩ = some (.int .i64 p0) ∧ w'.cell? ⟨b2, o2 + k * 4 + 1, none⟩ = some (.int .i64 p1) ∧ w'.cell? ⟨b2, o2 + k * 4 + 2, none⟩ = some (.int .i64 p2) ∧ w'.cell? ⟨b2, o2 + k * 4 + 3, none⟩ = some (.int .i64 p3))
          (((try go_split_ands); refine ⟨?_, ?_, ?_, ?_, ?_, ?_, ?_, ?_⟩ <;> (repeat (first | with_reducible assumption | with_reducible refine drew_keep ?_ | with_reducible refine below_keep hbd ?_))))
          (first | (go_at_call 67; with_reducible refine (E.out _).mono ?_; rintro e w5 ⟨rfl, hbd⟩))
        have B5 := below_chain HB.out.drew hbd
        clear hbd
        go_wp2
        go_roundw
        case rel => exact ⟨k + 1, by omega, by go_num, HT2.out, B5⟩
        case measure => simp [intOf]; omega
      · have E := Lib.hid (fun W => eqCe_is (b := false) (decide_eq_false he) W)
        have hne : decide (zs = ys) = false := by
          simp only [decide_eq_false_iff_not]
          rintro rfl
          have := X1.out.symm.trans X2.out
          simp only [Prod.mk.injEq] at this
          exact he this
        have HN := Lib.hid hne
        clear HT X1 X2 l1 l2 he hne
        go_wp2_with fail
        go_region_held3 (fun w' => w'.cell? ⟨b1, o1 + k * 4, none⟩ = some (.int .i64 p0) ∧ w'.cell? ⟨b1, o1 + k * 4 + 1, none⟩ = some (.int .i64 p1) ∧ w'.cell? ⟨b1, o1 + k * 4 + 2, none⟩ = some (.int .i64 p2) ∧ w'.cell? ⟨b1, o1 + k * 4 + 3, none⟩ = some (.int .i64 p3) ∧ w'.cell? ⟨b2, o2 + k * 4, none⟩ = some (.int .i64 q0) ∧ w'.cell? ⟨b2, o2 + k * 4 + 1, none⟩ = some (.int .i64 q1) ∧ w'.cell? ⟨b2, o2 + k * 4 + 2, none⟩ = some (.int .i64 q2) ∧ w'.cell? ⟨b2, o2 + k * 4 + 3, none⟩ = some (.int .i64 q3))
          (((try go_split_ands); refine ⟨?_, ?_, ?_, ?_, ?_, ?_, ?_, ?_⟩ <;> (repeat (first | with_reducible assumption | with_reducible refine drew_keep ?_ | with_reducible refine below_keep hbd ?_))))
          (first | (go_at_call 67; with_reducible refine (E.out _).mono ?_; rintro e w5 ⟨rfl, hbd⟩))
        have B5 := below_chain HB.out.drew hbd
        clear hbd
        go_wp2
        go_ret
        exact ⟨congrArg (fun b => Ending.returned (Value.bool b)) HN.out.symm, B5⟩
    · have hkn : k = n := by omega
      have heq : zs = ys := by
        have h3 := HT.out
        rw [List.take_of_length_le (by rw [HZ.out]; omega), List.take_of_length_le (by rw [HY.out]; omega)] at h3
        exact h3
      have hd : decide (zs = ys) = true := by simp [heq]
      have HD := Lib.hid hd
      clear heq hd HT ht
      go_wp2
      go_ret
      exact ⟨congrArg (fun b => Ending.returned (Value.bool b)) HD.out.symm, HB.out⟩

theorem eqCeS_any (n m : Nat) (zs ys : List Ce) (hz : zs.length = n) (hy : ys.length = m) (A1 A2 : Option Addr) (c1 c2 : Nat) (w : World) (h1 : Ces w A1 zs) (h2 : Ces w A2 ys) (hn : n ≤ 4194304) :
    Calls Try.prog 37 #[.slice A1 n c1, .slice A2 m c2] w fun e w' => e = .returned (.bool (decide (zs = ys))) ∧ Below w.heap.size w w' := by
  by_cases h : n = m
  · subst h
    exact eqCeS_same n zs ys hz hy A1 A2 c1 c2 w h1 h2 hn
  · have hd : decide (zs = ys) = false := by
      simp only [decide_eq_false_iff_not]
      rintro rfl
      omega
    rw [hd]
    have hc : ((n : Int) != (m : Int)) = true := by simp; omega
    clear hz hy h1 h2 hd
    go_enter Try.func37, Try.ntmps37
    go_wp2
    go_ret
    exact ⟨rfl, Below.refl _ _⟩

theorem ceinfo : (Try.prog.info? 38).map (fun i => (i.zero, i.size, i.bytes)) = some (some (.agg #[.int .i64 0, .int .i64 0, .int .i64 0, .int .i64 0]), 4, 32) := by kernel_rfl

theorem ceCells_made (n : Nat) : (madeCells #[.int .i64 0, .int .i64 0, .int .i64 0, .int .i64 0] (n * 4)).toList = ceCells (List.replicate n (0, 0, 0, 0)) := by
  apply List.ext_getElem?
  intro i
  have hl : (ceCells (List.replicate n ((0, 0, 0, 0) : Ce))).length = n * 4 := by rw [ceCells_length]; simp
  by_cases hi : i < n * 4
  · have hm : i % 4 = 0 ∨ i % 4 = 1 ∨ i % 4 = 2 ∨ i % 4 = 3 := by omega
    have hL : (madeCells #[.int .i64 0, .int .i64 0, .int .i64 0, .int .i64 0] (n * 4)).toList[i]? = some (.int .i64 0) := by
      simp only [madeCells, Array.toList_map, Array.toList_range, List.getElem?_map, List.getElem?_range hi, Option.map_some]
      rcases hm with h | h | h | h <;> simp [h]
    rw [hL]
    have hj : i / 4 < (List.replicate n ((0, 0, 0, 0) : Ce)).length := by simp; omega
    obtain ⟨e0, e1, e2, e3⟩ := ceCells_at (List.replicate n (0, 0, 0, 0)) (i / 4) hj
    rcases hm with h | h | h | h
    · rw [show i / 4 * 4 = i by omega] at e0
      rw [e0]; simp
    · rw [show i / 4 * 4 + 1 = i by omega] at e1
      rw [e1]; simp
    · rw [show i / 4 * 4 + 2 = i by omega] at e2
      rw [e2]; simp
    · rw [show i / 4 * 4 + 3 = i by omega] at e3
      rw [e3]; simp
  · rw [List.getElem?_eq_none (by simp [size_madeCells]; omega), List.getElem?_eq_none (by omega)]

theorem ceCells_set (zs : List Ce) (k : Nat) (p0 p1 p2 p3 : Int) : ((((ceCells zs).set (k * 4) (.int .i64 p0)).set (k * 4 + 1) (.int .i64 p1)).set (k * 4 + 2) (.int .i64 p2)).set (k * 4 + 3) (.int .i64 p3) = ceCells (zs.set k (p0, p1, p2, p3)) := by
  induction zs generalizing k with
  | nil => simp [ceCells]
  | cons z zs ih =>
    cases k with
    | zero => rfl
    | succ k =>
      rw [ceCells_cons, List.set_cons_succ, ceCells_cons, ← ih k, show (k + 1) * 4 = k * 4 + 4 by omega, show k * 4 + 4 + 1 = (k * 4 + 1) + 4 by omega, show k * 4 + 4 + 2 = (k * 4 + 2) + 4 by omega, show k * 4 + 4 + 3 = (k * 4 + 3) + 4 by omega]
      rfl

theorem fill_step_ce {zs : List Ce} {k n : Nat} (hk : k < zs.length) (hn : zs.length = n) : (zs.take k ++ List.replicate (n - k) ((0, 0, 0, 0) : Ce)).set k zs[k] = zs.take (k + 1) ++ List.replicate (n - (k + 1)) (0, 0, 0, 0) := by
  have hl : (zs.take k).length = k := by simp; omega
  rw [List.set_append_right _ _ (by omega), hl, Nat.sub_self, show n - k = (n - (k + 1)) + 1 by omega, List.replicate_succ, List.set_cons_zero, List.take_succ_eq_append_getElem hk]
  simp only [List.append_assoc, List.singleton_append]

/-- A store of one into an owned row. -/
theorem own_stored_ce {w : World} {base e g n cap : Nat} {ys : List Ce} (h : w.ownsRow base e 4 (.slice (some ⟨g, 0, none⟩) n cap) n (ceCells ys)) (k : Nat) (p0 p1 p2 p3 : Int) :
    (((((w).setCell ⟨g, k * 4, none⟩ (.int .i64 p0)).setCell ⟨g, k * 4 + 1, none⟩ (.int .i64 p1)).setCell ⟨g, k * 4 + 2, none⟩ (.int .i64 p2)).setCell ⟨g, k * 4 + 3, none⟩ (.int .i64 p3)).ownsRow base e 4 (.slice (some ⟨g, 0, none⟩) n cap) n (ceCells (ys.set k (p0, p1, p2, p3))) ∧ w.grownBy (((((w).setCell ⟨g, k * 4, none⟩ (.int .i64 p0)).setCell ⟨g, k * 4 + 1, none⟩ (.int .i64 p1)).setCell ⟨g, k * 4 + 2, none⟩ (.int .i64 p2)).setCell ⟨g, k * 4 + 3, none⟩ (.int .i64 p3)) (some g) := by
  have s0 := h.stored (k * 4) (.int .i64 p0)
  have s1 := s0.1.stored (k * 4 + 1) (.int .i64 p1)
  have s2 := s1.1.stored (k * 4 + 2) (.int .i64 p2)
  have s3 := s2.1.stored (k * 4 + 3) (.int .i64 p3)
  have hl := s3.1
  rw [ceCells_set] at hl
  exact ⟨hl, grown_trans (grown_trans (grown_trans s0.2 s1.2) s2.2) s3.2⟩

set_option maxRecDepth 100000 in
theorem toCeS_any (n : Nat) (zs : List Ce) (hz : zs.length = n) (A : Option Addr) (c : Nat) (w : World) (h1 : Ces w A zs) (hn : n ≤ 1048576) :
    Calls Try.prog 35 #[.slice A n c] w fun e w' => ∃ v, e = .returned v ∧ w'.ownsRow w.heap.size 38 4 v n (ceCells zs) ∧ Below w.heap.size w w' := by
  obtain ⟨i0, hi, hz0, hz1, hz2⟩ := info_parts ceinfo
  have H1 := Lib.hid h1
  have HZ := Lib.hid hz
  clear h1 hz
  go_enter Try.func35, Try.ntmps35
  go_wp2_with (at_make; refine wpList_make_full _ rfl _ _ 30 rfl w.heap.size 38 i0 (.agg #[.int .i64 0, .int .i64 0, .int .i64 0, .int .i64 0]) 4 Try.underlying30 hi hz0 hz1 .i64 .i64 _ _ n rfl rfl rfl rfl (by rw [hz2]; omega) (by unfold maxLen; omega) (Nat.le_refl _) ?_; intro w1 hown1 hg1)
  have B1 := Lib.hid ((Below.refl w.heap.size w).grown hg1 (Nat.le_refl _) (fun k hk => by simp at hk))
  have hc1 : (madeCells (Value.agg #[.int .i64 0, .int .i64 0, .int .i64 0, .int .i64 0]).cells (n * 4)).toList = ceCells (List.replicate n (0, 0, 0, 0)) := ceCells_made n
  rw [hc1] at hown1
  have O1 := Lib.hid hown1
  clear hown1 hg1 hc1
  go_wp2
  go_loopw [4] (fun i wr => ∃ k : Nat, k ≤ n ∧ i = .int .i64 k ∧ wr.ownsRow w.heap.size 38 4 (.slice (some ⟨w.heap.size, 0, none⟩) n n) n (ceCells (zs.take k ++ List.replicate (n - k) (0, 0, 0, 0))) ∧ Below w.heap.size w wr) (fun i _ => n - (intOf i).toNat)
  case atStart => exact ⟨0, Nat.zero_le _, rfl, by simpa using O1.out, B1.out⟩
  case round =>
    obtain ⟨k, hk, rfl, hown, hb⟩ := hrel
    have HO := Lib.hid hown
    have HB := Lib.hid hb
    by_cases hlt : k < n
    · have l1 : k < zs.length := by rw [HZ.out]; exact hlt
      obtain ⟨b1, o1, p0, p1, p2, p3, rfl, x1, e0, e1, e2, e3⟩ := (H1.out.below hb).at l1
      have X1 := Lib.hid x1
      have i0' : (0 : Int) ≤ (k : Int) := by omega
      have i1 : (k : Int) < (n : Int) := by omega
      clear hown hb x1
      go_wp2_with fail
      refine (toCell_any _ _ _ _ _).mono ?_
      rintro e w2 ⟨rfl, hb2⟩
      have o2 := own_below HO.out hb2
      have st := own_stored_ce o2 k p0 p1 p2 p3
      rw [show ((p0, p1, p2, p3) : Ce) = zs[k] from X1.out.symm, fill_step_ce l1 HZ.out] at st
      have ST := Lib.hid st.1
      have B3 := Lib.hid ((below_chain HB.out hb2).grown st.2 (below_chain HB.out hb2).size (fun j hj => by simp at hj; omega))
      obtain ⟨u0, cu0⟩ : ∃ u, w2.cell? ⟨w.heap.size, k * 4, none⟩ = some u := ⟨_, by rw [o2.cellAt (k * 4) (by omega)]; exact List.getElem?_eq_getElem (by rw [o2.1]; omega)⟩
      have fr0 := o2.frozenAt (k * 4)
      obtain ⟨u1, cu1⟩ : ∃ u, w2.cell? ⟨w.heap.size, k * 4 + 1, none⟩ = some u := ⟨_, by rw [o2.cellAt (k * 4 + 1) (by omega)]; exact List.getElem?_eq_getElem (by rw [o2.1]; omega)⟩
      have fr1 := o2.frozenAt (k * 4 + 1)
      obtain ⟨u2, cu2⟩ : ∃ u, w2.cell? ⟨w.heap.size, k * 4 + 2, none⟩ = some u := ⟨_, by rw [o2.cellAt (k * 4 + 2) (by omega)]; exact List.getElem?_eq_getElem (by rw [o2.1]; omega)⟩
      have fr2 := o2.frozenAt (k * 4 + 2)
      obtain ⟨u3, cu3⟩ : ∃ u, w2.cell? ⟨w.heap.size, k * 4 + 3, none⟩ = some u := ⟨_, by rw [o2.cellAt (k * 4 + 3) (by omega)]; exact List.getElem?_eq_getElem (by rw [o2.1]; omega)⟩
      have fr3 := o2.frozenAt (k * 4 + 3)
      clear o2 st hb2 X1 l1
      go_wp2
      go_roundw
      case rel => exact ⟨k + 1, by omega, by go_num, ST.out, B3.out⟩
      case measure => simp [intOf]; omega
    · have hkn : k = n := by omega
      subst hkn
      have ho2 : wr.ownsRow w.heap.size 38 4 (.slice (some ⟨w.heap.size, 0, none⟩) k k) k (ceCells zs) := by
        have h3 := HO.out
        rw [List.take_of_length_le (by rw [HZ.out]; omega), Nat.sub_self] at h3
        simpa using h3
      have HO2 := Lib.hid ho2
      clear ho2 hown hb
      go_wp2
      go_ret
      exact ⟨_, rfl, HO2.out, HB.out⟩

/-- The marks that the laws lay into a list of Cell. -/
def ceMarks (k n : Nat) : List Ce := (List.range n).map fun i => (((k + 4 * i : Nat) : Int), ((k + 4 * i + 1 : Nat) : Int), ((k + 4 * i + 2 : Nat) : Int), ((k + 4 * i + 3 : Nat) : Int))

theorem ceMarks_length (k n : Nat) : (ceMarks k n).length = n := by simp [ceMarks]
theorem ceMarks_succ (k n : Nat) : ceMarks k (n + 1) = ceMarks k n ++ [(((k + 4 * n : Nat) : Int), ((k + 4 * n + 1 : Nat) : Int), ((k + 4 * n + 2 : Nat) : Int), ((k + 4 * n + 3 : Nat) : Int))] := by
  unfold ceMarks; rw [List.range_succ, List.map_append]; rfl
theorem ceMarks_at (k n j : Nat) (h : j < (ceMarks k n).length) : (ceMarks k n)[j] = (((k + 4 * j : Nat) : Int), ((k + 4 * j + 1 : Nat) : Int), ((k + 4 * j + 2 : Nat) : Int), ((k + 4 * j + 3 : Nat) : Int)) := by simp [ceMarks]
theorem ceMarks_set {zs : List Ce} {k i n : Nat} (hi : i < n) (hl : zs.length = n) : (ceMarks k i ++ zs.drop i).set i (((k + 4 * i : Nat) : Int), ((k + 4 * i + 1 : Nat) : Int), ((k + 4 * i + 2 : Nat) : Int), ((k + 4 * i + 3 : Nat) : Int)) = ceMarks k (i + 1) ++ zs.drop (i + 1) := by
  have l1 := ceMarks_length k i
  rw [List.set_append_right _ _ (by omega), l1, Nat.sub_self, List.drop_eq_getElem_cons (by omega), List.set_cons_zero, ceMarks_succ]
  simp only [List.append_assoc, List.singleton_append]

set_option maxRecDepth 100000 in
theorem markCeS_any (n k0 B : Nat) (zs : List Ce) (hz : zs.length = n) (v : Value) (w : World) (h : w.ownsRow B 38 4 v n (ceCells zs)) (hn : n ≤ 4194304) (hk1 : k0 ≤ 41943040) :
    Calls Try.prog 40 #[v, .int .i64 (k0 : Int)] w fun e w' => e = .returned (.int .i64 ((k0 + 4 * n : Nat) : Int)) ∧ w'.ownsRow B 38 4 v n (ceCells (ceMarks k0 n)) ∧ w.grownBy w' v.ownBlock := by
  obtain ⟨A, c, rfl, f⟩ := own_form h
  have HZ := Lib.hid hz
  by_cases h0 : n = 0
  · subst h0
    have e : ceCells zs = ceCells (ceMarks k0 0) := by
      obtain rfl := List.eq_nil_of_length_eq_zero hz
      rfl
    have H := Lib.hid (e ▸ h)
    clear h f hz e
    go_enter Try.func40, Try.ntmps40
    go_wp2
    go_loop [1, 5] (fun m i => m = .int .i64 (k0 : Int) ∧ i = .int .i64 0) (fun _ _ => 0)
    case atStart => exact ⟨rfl, rfl⟩
    case round =>
      obtain ⟨rfl, rfl⟩ := hrel
      go_wp2
      go_ret
      exact ⟨rfl, H.out, grown_refl _ _⟩
  · obtain ⟨g, rfl⟩ := f (by omega)
    have H0 := Lib.hid h
    clear h f hz
    go_enter Try.func40, Try.ntmps40
    go_wp2
    go_loopw [1, 5] (fun m i wr => ∃ k : Nat, k ≤ n ∧ m = .int .i64 ((k0 + 4 * k : Nat) : Int) ∧ i = .int .i64 k ∧ wr.ownsRow B 38 4 (.slice (some ⟨g, 0, none⟩) n c) n (ceCells (ceMarks k0 k ++ zs.drop k)) ∧ w.grownBy wr (some g)) (fun _ i _ => n - (intOf i).toNat)
    case atStart => exact ⟨0, Nat.zero_le _, rfl, rfl, by simpa [ceMarks] using H0.out, grown_refl _ _⟩
    case round =>
      obtain ⟨k, hk, rfl, rfl, hown, hg⟩ := hrel
      have HO := Lib.hid hown
      have HG := Lib.hid hg
      by_cases hlt : k < n
      · have i0' : (0 : Int) ≤ (k : Int) := by omega
        have i1 : (k : Int) < (n : Int) := by omega
        obtain ⟨u0, cu0⟩ : ∃ u, wr.cell? ⟨g, k * 4, none⟩ = some u := ⟨_, by rw [hown.cellAt (k * 4) (by omega)]; exact List.getElem?_eq_getElem (by rw [hown.1]; omega)⟩
        have fr0 := hown.frozenAt (k * 4)
        obtain ⟨u1, cu1⟩ : ∃ u, wr.cell? ⟨g, k * 4 + 1, none⟩ = some u := ⟨_, by rw [hown.cellAt (k * 4 + 1) (by omega)]; exact List.getElem?_eq_getElem (by rw [hown.1]; omega)⟩
        have fr1 := hown.frozenAt (k * 4 + 1)
        obtain ⟨u2, cu2⟩ : ∃ u, wr.cell? ⟨g, k * 4 + 2, none⟩ = some u := ⟨_, by rw [hown.cellAt (k * 4 + 2) (by omega)]; exact List.getElem?_eq_getElem (by rw [hown.1]; omega)⟩
        have fr2 := hown.frozenAt (k * 4 + 2)
        obtain ⟨u3, cu3⟩ : ∃ u, wr.cell? ⟨g, k * 4 + 3, none⟩ = some u := ⟨_, by rw [hown.cellAt (k * 4 + 3) (by omega)]; exact List.getElem?_eq_getElem (by rw [hown.1]; omega)⟩
        have fr3 := hown.frozenAt (k * 4 + 3)
        have st := own_stored_ce HO.out k ((k0 : Int) + 4 * (k : Int)) ((k0 : Int) + 4 * (k : Int) + 1) ((k0 : Int) + 4 * (k : Int) + 2) ((k0 : Int) + 4 * (k : Int) + 3)
        rw [show (((k0 : Int) + 4 * (k : Int), (k0 : Int) + 4 * (k : Int) + 1, (k0 : Int) + 4 * (k : Int) + 2, (k0 : Int) + 4 * (k : Int) + 3) : Ce) = (((k0 + 4 * k : Nat) : Int), ((k0 + 4 * k + 1 : Nat) : Int), ((k0 + 4 * k + 2 : Nat) : Int), ((k0 + 4 * k + 3 : Nat) : Int)) by simp, ceMarks_set hlt HZ.out] at st
        have ST := Lib.hid st.1
        have G3 := Lib.hid (grown_trans HG.out st.2)
        clear hown hg st HO HG
        go_wp2
        go_roundw
        case rel => exact ⟨k + 1, by omega, by go_num, by go_num, ST.out, G3.out⟩
        case measure => simp [intOf]; omega
      · have hkn : k = n := by omega
        subst hkn
        have O := HO.out
        rw [List.drop_of_length_le (by have := HZ.out; omega), List.append_nil] at O
        have HO2 := Lib.hid O
        clear O hown hg
        go_wp2
        go_ret
        exact ⟨rfl, HO2.out, HG.out⟩

set_option maxRecDepth 100000 in
theorem heldCeS_any (n k0 : Nat) (A : Option Addr) (c : Nat) (w : World) (h : Ces w A (ceMarks k0 n)) (hn : n ≤ 4194304) (hk1 : k0 ≤ 41943040) :
    Calls Try.prog 41 #[.slice A n c, .int .i64 (k0 : Int)] w fun e w' => e = .returned (.int .i64 ((k0 + 4 * n : Nat) : Int)) ∧ w = w' := by
  have H := Lib.hid h
  clear h
  go_enter Try.func41, Try.ntmps41
  go_wp2
  go_loop [1, 5] (fun m i => ∃ k : Nat, k ≤ n ∧ m = .int .i64 ((k0 + 4 * k : Nat) : Int) ∧ i = .int .i64 k) (fun _ i => n - (intOf i).toNat)
  case atStart => exact ⟨0, Nat.zero_le _, rfl, rfl⟩
  case round =>
    obtain ⟨k, hk, rfl, rfl⟩ := hrel
    by_cases hlt : k < n
    · have l1 : k < (ceMarks k0 n).length := by rw [ceMarks_length]; exact hlt
      obtain ⟨b1, o1, p0, p1, p2, p3, rfl, x1, e0, e1, e2, e3⟩ := H.out.at l1
      rw [ceMarks_at] at x1
      simp only [Prod.mk.injEq] at x1
      obtain ⟨rfl, rfl, rfl, rfl⟩ := x1
      have i0' : (0 : Int) ≤ (k : Int) := by omega
      have i1 : (k : Int) < (n : Int) := by omega
      clear H l1
      go_wp2
      go_round
      case rel => exact ⟨k + 1, by omega, by go_num, by go_num⟩
      case measure => simp [intOf]; omega
    · have hkn : k = n := by omega
      subst hkn
      go_wp2
      go_ret
      exact ⟨rfl, rfl⟩

/-- An append of a list of Cell to an owned one. -/
theorem wpList_append_ce {w : World} {ops : Array Oper} {rest : List Oper} {o : Oper} {a : Act} {Q : Exit → Act → World → Prop} (hgd : o.guard = none) (s x : Operand)
    (ho : o.op = .call { callee := .builtin .append, args := #[s, x], argTypes := #[30, 30] })
    (base : Nat) (v : Value) (n : Nat) (zs : List Ce) (hs : a.eval s = v) (hown : w.ownsRow base 38 4 v n (ceCells zs))
    (A : Option Addr) (m c : Nat) (ys : List Ce) (hx : a.eval x = .slice A m c) (hA : A = none → c = 0) (hl : ys.length = m) (hsts : Ces w A ys)
    (hb : n + m ≤ 4194304) (hbase : base ≤ w.heap.size)
    (h : ∀ v' w', w'.ownsRow base 38 4 v' (n + m) (ceCells (zs ++ ys)) → w.grownBy w' v.ownBlock → wpList Try.prog ops Q rest (a.put o.dst v') w') : wpList Try.prog ops Q (o :: rest) a w := by
  obtain ⟨i0, hi, hz0, hz1, hz2⟩ := info_parts ceinfo
  cases A with
  | none =>
    obtain rfl := ces_none hsts hl
    obtain rfl := hA rfl
    obtain rfl := List.eq_nil_of_length_eq_zero hl
    exact wpList_append_own_none hgd s x 30 ho base 38 i0 4 Try.underlying30 hi v n (ceCells zs) hs hown hx (h v w (by simpa using hown) (grown_refl _ _))
  | some ad =>
    refine wpList_append_own w hgd s x 30 ho base 38 i0 (.agg #[.int .i64 0, .int .i64 0, .int .i64 0, .int .i64 0]) 4 32 Try.underlying30 hi hz0 hz1 hz2 rfl (by decide) v n (ceCells zs) hs hown ad m c (ceCells ys) hx (by rw [ceCells_length, hl]) hsts.news (fun u hu => ceCells_one hu) (by unfold maxLen; omega) (by omega) hbase ?_
    intro v' w' h2 h3 _
    rw [← ceCells_append] at h2
    exact h v' w' h2 h3

theorem ce_new (w : World) (p0 p1 p2 p3 : Int) : Ces (w.alloc (.cells #[.int .i64 p0, .int .i64 p1, .int .i64 p2, .int .i64 p3] 38)) (some ⟨w.heap.size, 0, none⟩) [(p0, p1, p2, p3)] := fun _ =>
  ⟨w.heap.size, 0, rfl, by simp, fun j hj => by
    obtain rfl : j = 0 := by simpa using hj
    exact ⟨alloc_cells rfl rfl, alloc_cells rfl rfl, alloc_cells rfl rfl, alloc_cells rfl rfl⟩⟩

theorem Row.ce {w : World} {lo hi e n c : Nat} {A : Option Addr} {zs : List Ce} (h : Row w lo hi e 4 A n c (ceCells zs)) : Ces w A zs := by
  obtain ⟨A', c', he, _, hs⟩ := Ces.of_own h.own
  simp only [Value.slice.injEq, true_and] at he
  obtain ⟨rfl, rfl⟩ := he
  exact hs
theorem Row.ceLen {w : World} {lo hi e n c : Nat} {A : Option Addr} {zs : List Ce} (h : Row w lo hi e 4 A n c (ceCells zs)) : zs.length = n := by
  have := h.own.1; rw [ceCells_length] at this; omega

theorem toCeS_row (n : Nat) (zs : List Ce) (hz : zs.length = n) (A : Option Addr) (c : Nat) (w : World) (h1 : Ces w A zs) (hn : n ≤ 1048576) :
    Calls Try.prog 35 #[.slice A n c] w fun e w' => ∃ A1 c1, e = .returned (.slice A1 n c1) ∧ Row w' w.heap.size w'.heap.size 38 4 A1 n c1 (ceCells zs) ∧ Below w.heap.size w w' :=
  (toCeS_any n zs hz A c w h1 hn).mono fun _ _ ⟨v, he, ho, hb⟩ => by
    obtain ⟨A1, c1, rfl, hr⟩ := row_of ho
    exact ⟨A1, c1, he, hr, hb⟩

theorem eqCeS_row {w : World} {lo1 hi1 lo2 hi2 n c1 c2 : Nat} {A1 A2 : Option Addr} {zs : List Ce} (h1 : Row w lo1 hi1 38 4 A1 n c1 (ceCells zs)) (h2 : Row w lo2 hi2 38 4 A2 n c2 (ceCells zs)) (hn : n ≤ 4194304) :
    Calls Try.prog 37 #[.slice A1 n c1, .slice A2 n c2] w fun e w' => e = .returned (.bool true) ∧ Below w.heap.size w w' := by
  have h := eqCeS_any n n zs zs h1.ceLen h2.ceLen A1 A2 c1 c2 w h1.ce h2.ce hn
  simpa using h

theorem markCeS_row {w : World} {lo hi n c : Nat} {A : Option Addr} {zs : List Ce} (k0 : Nat) (h : Row w lo hi 38 4 A n c (ceCells zs)) (hn : n ≤ 4194304) (hk1 : k0 ≤ 41943040) :
    Calls Try.prog 40 #[.slice A n c, .int .i64 (k0 : Int)] w fun e w' => e = .returned (.int .i64 ((k0 + 4 * n : Nat) : Int)) ∧ Row w' lo hi 38 4 A n c (ceCells (ceMarks k0 n)) ∧ Wrote w w' lo hi :=
  (markCeS_any n k0 lo zs h.ceLen (.slice A n c) w h.own hn hk1).mono fun _ _ ⟨he, ho, hg⟩ => ⟨he, ⟨ho, h.lt⟩, _, hg, fun g hgg => ⟨own_ge h.own g hgg, h.lt g hgg⟩⟩

end Go.Proofs.Ytbbagpnjjjohpaa.hexes

