/-
  Chapter 3's plain functions as the program has them: the contracts of impl.Ahead, impl.FrontLeq, impl.EpochOver, slices.Equal and impl.SameFront.
-/
import Derived.Test.YtjnmpcfclkahlaaSpecFront
namespace Go.Proofs.Ytjnmpcfclkahlaa.hexes
open Go.RowKit

theorem implLeq_is {x y u v : Int} {b : Bool} (h : leqSt x y u v = b) (W : World) : Calls Try.prog 48 #[.agg #[.int .i64 x, .int .i64 y], .agg #[.int .i64 u, .int .i64 v]] W fun e w' => e = .returned (.bool b) ∧ Below W.heap.size W w' := by
  subst h; exact implLeq_any _ _ _ _ W

set_option maxRecDepth 100000 in
theorem implAhead_any (n : Nat) (zs : List (Int × Int)) (hz : zs.length = n) (A : Option Addr) (c : Nat) (x y : Int) (w : World) (h1 : Sts w A zs) (hn : n ≤ 4194304) :
    Calls Try.prog 24 #[.slice A n c, .agg #[.int .i64 x, .int .i64 y]] w fun e w' => e = .returned (.bool (aheadL zs x y)) ∧ Below w.heap.size w w' := by
  have H1 := Lib.hid h1
  have HZ := Lib.hid hz
  clear h1 hz
  go_enter Try.func24, Try.ntmps24
  go_wp2
  go_loopw [9] (fun i wr => ∃ k : Nat, k ≤ n ∧ i = .int .i64 k ∧ (zs.take k).any (fun z => leqSt z.1 z.2 x y) = false ∧ Below w.heap.size w wr ∧ wr.cell? ⟨w.heap.size, 0, none⟩ = some (.int .i64 x) ∧ wr.cell? ⟨w.heap.size, 1, none⟩ = some (.int .i64 y)) (fun i _ => n - (intOf i).toNat)
  case atStart => exact ⟨0, Nat.zero_le _, rfl, rfl, (Below.refl _ _).alloc (Nat.le_refl _) _, by simp, by simp⟩
  case round =>
    obtain ⟨k, hk, rfl, ht, hb, s0, s1⟩ := hrel
    have HT := Lib.hid ht
    have HB := Lib.hid hb
    by_cases hlt : k < n
    · have l1 : k < zs.length := by rw [HZ.out]; exact hlt
      obtain ⟨b1, o1, p, q, rfl, x1, e1, e2⟩ := (H1.out.below hb).at l1
      have i0' : (0 : Int) ≤ (k : Int) := by omega
      have i1 : (k : Int) < (n : Int) := by omega
      by_cases he : leqSt p q x y = true
      · have E := Lib.hid (fun W => implLeq_is he W)
        have hfin : aheadL zs x y = true := any_found l1 (by rw [x1]; exact he)
        have HF := Lib.hid hfin
        clear ht hb x1 hfin he HT l1
        have t0 := alloc_keep (o := .cells #[.int .i64 p, .int .i64 q] 32) s0
        have t1 := alloc_keep (o := .cells #[.int .i64 p, .int .i64 q] 32) s1
        go_wp2_with (go_at_call 48; with_reducible refine (E.out _).mono ?_; rintro e w5 ⟨rfl, hbd⟩)
        go_ret
        exact ⟨congrArg (fun b => Ending.returned (Value.bool b)) HF.out.symm, below_chain (HB.out.alloc HB.out.size _) hbd⟩
      · have he' : leqSt p q x y = false := by simpa using he
        have E := Lib.hid (fun W => implLeq_is he' W)
        have HT2 := Lib.hid (any_step l1 HT.out (by rw [x1]; exact he'))
        clear ht hb x1 he he' HT l1
        have t0 := alloc_keep (o := .cells #[.int .i64 p, .int .i64 q] 32) s0
        have t1 := alloc_keep (o := .cells #[.int .i64 p, .int .i64 q] 32) s1
        go_wp2_with (go_at_call 48; with_reducible refine (E.out _).mono ?_; rintro e w5 ⟨rfl, hbd⟩)
        have B5 := below_chain (HB.out.alloc HB.out.size _) hbd
        have S0 := below_keep hbd t0
        have S1 := below_keep hbd t1
        clear hbd s0 s1 t0 t1
        go_roundw
        case rel => exact ⟨k + 1, by omega, by go_num, HT2.out, B5, S0, S1⟩
        case measure => simp [intOf]; omega
    · have hfin : aheadL zs x y = false := any_end (k := k) (by rw [HZ.out]; omega) HT.out
      have HF := Lib.hid hfin
      clear ht hb hfin
      go_wp2
      go_ret
      exact ⟨congrArg (fun b => Ending.returned (Value.bool b)) HF.out.symm, HB.out⟩

set_option maxRecDepth 100000 in
theorem implLeqS_any (n m : Nat) (zs ys : List (Int × Int)) (hz : zs.length = n) (hy : ys.length = m) (A1 A2 : Option Addr) (c1 c2 : Nat) (w : World) (h1 : Sts w A1 zs) (h2 : Sts w A2 ys) (hn : n ≤ 4194304) (hm : m ≤ 4194304) :
    Calls Try.prog 21 #[.slice A1 n c1, .slice A2 m c2] w fun e w' => e = .returned (.bool (frontLeqL zs ys)) ∧ Below w.heap.size w w' := by
  have H1 := Lib.hid h1
  have H2 := Lib.hid h2
  have HZ := Lib.hid hz
  have HY := Lib.hid hy
  clear h1 h2 hz hy
  go_enter Try.func21, Try.ntmps21
  go_wp2
  go_loopw [9] (fun i wr => ∃ k : Nat, k ≤ m ∧ i = .int .i64 k ∧ (ys.take k).all (fun z => aheadL zs z.1 z.2) = true ∧ Below w.heap.size w wr) (fun i _ => m - (intOf i).toNat)
  case atStart => exact ⟨0, Nat.zero_le _, rfl, rfl, Below.refl _ _⟩
  case round =>
    obtain ⟨k, hk, rfl, ht, hb⟩ := hrel
    have HT := Lib.hid ht
    have HB := Lib.hid hb
    by_cases hlt : k < m
    · have l2 : k < ys.length := by rw [HY.out]; exact hlt
      obtain ⟨b2, o2, p, q, rfl, x2, e1, e2⟩ := (H2.out.below hb).at l2
      have i0 : (0 : Int) ≤ (k : Int) := by omega
      have i1 : (k : Int) < (m : Int) := by omega
      have BA := HB.out.alloc HB.out.size (.cells #[.int .i64 p, .int .i64 q] 32)
      have C := implAhead_any n zs HZ.out A1 c1 p q _ (H1.out.below BA) hn
      have HBA := Lib.hid BA
      clear BA
      by_cases he : aheadL zs p q = true
      · rw [he] at C
        have E := Lib.hid C
        have HT2 := Lib.hid (all_step l2 HT.out (by rw [x2]; exact he))
        clear ht hb x2 he HT l2 C
        go_wp2_with (go_at_call 24; with_reducible refine E.out.mono ?_; rintro e w5 ⟨rfl, hbd⟩)
        have B5 := below_chain HBA.out hbd
        clear hbd
        go_roundw
        case rel => exact ⟨k + 1, by omega, by go_num, HT2.out, B5⟩
        case measure => simp [intOf]; omega
      · have he' : aheadL zs p q = false := by simpa using he
        rw [he'] at C
        have E := Lib.hid C
        have hfin : frontLeqL zs ys = false := all_not l2 (by rw [x2]; exact he')
        have HF := Lib.hid hfin
        clear ht hb x2 he he' HT l2 C hfin
        go_wp2_with (go_at_call 24; with_reducible refine E.out.mono ?_; rintro e w5 ⟨rfl, hbd⟩)
        go_ret
        exact ⟨congrArg (fun b => Ending.returned (Value.bool b)) HF.out.symm, below_chain HBA.out hbd⟩
    · have hfin : frontLeqL zs ys = true := all_end (k := k) (by rw [HY.out]; omega) HT.out
      have HF := Lib.hid hfin
      clear ht hb hfin
      go_wp2
      go_ret
      exact ⟨congrArg (fun b => Ending.returned (Value.bool b)) HF.out.symm, HB.out⟩

set_option maxRecDepth 100000 in
theorem implOver_any (n : Nat) (zs : List (Int × Int)) (hz : zs.length = n) (A : Option Addr) (c : Nat) (e : Int) (w : World) (h1 : Sts w A zs) (hn : n ≤ 4194304) :
    Calls Try.prog 28 #[.slice A n c, .int .i64 e] w fun ee w' => ee = .returned (.bool (overL zs e)) ∧ Below w.heap.size w w' := by
  have H1 := Lib.hid h1
  have HZ := Lib.hid hz
  clear h1 hz
  go_enter Try.func28, Try.ntmps28
  go_wp2
  go_loopw [9] (fun i wr => ∃ k : Nat, k ≤ n ∧ i = .int .i64 k ∧ (zs.take k).all (fun z => decide (e < z.1)) = true ∧ Below w.heap.size w wr) (fun i _ => n - (intOf i).toNat)
  case atStart => exact ⟨0, Nat.zero_le _, rfl, rfl, Below.refl _ _⟩
  case round =>
    obtain ⟨k, hk, rfl, ht, hb⟩ := hrel
    have HT := Lib.hid ht
    have HB := Lib.hid hb
    clear ht
    by_cases hlt : k < n
    · have l1 : k < zs.length := by rw [HZ.out]; exact hlt
      obtain ⟨b1, o1, p, q, rfl, x1, e1, e2⟩ := (H1.out.below hb).at l1
      have i0 : (0 : Int) ≤ (k : Int) := by omega
      have i1 : (k : Int) < (n : Int) := by omega
      have BA := Lib.hid (HB.out.alloc HB.out.size (.cells #[.int .i64 p, .int .i64 q] 32))
      clear hb
      by_cases he : e < p
      · have HT2 := Lib.hid (all_step l1 HT.out (by rw [x1]; simpa using he))
        have hd : decide (p ≤ e) = false := by simp; omega
        clear x1 he HT l1
        go_wp2
        go_roundw
        case rel => exact ⟨k + 1, by omega, by go_num, HT2.out, BA.out⟩
        case measure => simp [intOf]; omega
      · have hfin : overL zs e = false := all_not l1 (by rw [x1]; simpa using he)
        have HF := Lib.hid hfin
        have hd : decide (p ≤ e) = true := by simp; omega
        clear x1 he HT l1 hfin
        go_wp2
        go_ret
        exact ⟨congrArg (fun b => Ending.returned (Value.bool b)) HF.out.symm, BA.out⟩
    · have hfin : overL zs e = true := all_end (k := k) (by rw [HZ.out]; omega) HT.out
      have HF := Lib.hid hfin
      clear hfin hb
      go_wp2
      go_ret
      exact ⟨congrArg (fun b => Ending.returned (Value.bool b)) HF.out.symm, HB.out⟩

set_option maxRecDepth 100000 in
theorem slEqual_same (n : Nat) (zs ys : List (Int × Int)) (hz : zs.length = n) (hy : ys.length = n) (A1 A2 : Option Addr) (c1 c2 : Nat) (w : World) (h1 : Sts w A1 zs) (h2 : Sts w A2 ys) (hn : n ≤ 4194304) :
    Calls Try.prog 50 #[.slice A1 n c1, .slice A2 n c2] w fun e w' => e = .returned (.bool (decide (zs = ys))) ∧ Below w.heap.size w w' := by
  have H1 := Lib.hid h1
  have H2 := Lib.hid h2
  have HZ := Lib.hid hz
  have HY := Lib.hid hy
  clear h1 h2 hz hy
  go_enter Try.func50, Try.ntmps50
  go_wp2
  go_loopw [13] (fun i wr => ∃ k : Nat, k ≤ n ∧ i = .int .i64 k ∧ zs.take k = ys.take k ∧ Below w.heap.size w wr) (fun i _ => n - (intOf i).toNat)
  case atStart => exact ⟨0, Nat.zero_le _, rfl, rfl, Below.refl _ _⟩
  case round =>
    obtain ⟨k, hk, rfl, ht, hb⟩ := hrel
    have HT := Lib.hid ht
    have HB := Lib.hid hb
    by_cases hlt : k < n
    · have l1 : k < zs.length := by rw [HZ.out]; exact hlt
      have l2 : k < ys.length := by rw [HY.out]; exact hlt
      obtain ⟨b1, o1, p, q, rfl, x1, e1, e2⟩ := (H1.out.below hb).at l1
      obtain ⟨b2, o2, r, s, rfl, x2, e3, e4⟩ := (H2.out.below hb).at l2
      have X1 := Lib.hid x1
      have X2 := Lib.hid x2
      have i0 : (0 : Int) ≤ (k : Int) := by omega
      have i1 : (k : Int) < (n : Int) := by omega
      clear ht hb x1 x2
      by_cases he : p = r ∧ q = s
      · obtain ⟨rfl, rfl⟩ := he
        have HT2 := Lib.hid (take_step l1 l2 HT.out (X1.out.trans X2.out.symm))
        clear HT X1 X2 l1 l2
        go_wp2_with fail
        go_region_held3 (fun w' => w'.cell? ⟨b1, o1 + k * 2, none⟩ = some (.int .i64 p) ∧ w'.cell? ⟨b1, o1 + k * 2 + 1, none⟩ = some (.int .i64 q) ∧ w'.cell? ⟨b2, o2 + k * 2, none⟩ = some (.int .i64 p) ∧ w'.cell? ⟨b2, o2 + k * 2 + 1, none⟩ = some (.int .i64 q))
          (((try go_split_ands); refine ⟨?_, ?_, ?_, ?_⟩ <;> (repeat (first | with_reducible assumption | with_reducible refine drew_keep ?_))))
          (fail)
        go_wp2
        go_roundw
        case rel => exact ⟨k + 1, by omega, by go_num, HT2.out, HB.out.drew⟩
        case measure => simp [intOf]; omega
      · have hne : decide (zs = ys) = false := by
          simp only [decide_eq_false_iff_not]
          rintro rfl
          have := X1.out.symm.trans X2.out
          simp only [Prod.mk.injEq] at this
          exact he this
        have HN := Lib.hid hne
        clear HT X1 X2 l1 l2 hne
        by_cases hp : p = r
        · subst hp
          have hq : ¬q = s := fun h => he ⟨rfl, h⟩
          clear he
          go_wp2_with fail
          go_region_held3 (fun w' => w'.cell? ⟨b1, o1 + k * 2, none⟩ = some (.int .i64 p) ∧ w'.cell? ⟨b1, o1 + k * 2 + 1, none⟩ = some (.int .i64 q) ∧ w'.cell? ⟨b2, o2 + k * 2, none⟩ = some (.int .i64 p) ∧ w'.cell? ⟨b2, o2 + k * 2 + 1, none⟩ = some (.int .i64 s))
            (((try go_split_ands); refine ⟨?_, ?_, ?_, ?_⟩ <;> (repeat (first | with_reducible assumption | with_reducible refine drew_keep ?_))))
            (fail)
          go_wp2
          go_ret
          exact ⟨congrArg (fun b => Ending.returned (Value.bool b)) HN.out.symm, HB.out.drew⟩
        · clear he
          go_wp2_with fail
          go_region_held3 (fun w' => w'.cell? ⟨b1, o1 + k * 2, none⟩ = some (.int .i64 p) ∧ w'.cell? ⟨b1, o1 + k * 2 + 1, none⟩ = some (.int .i64 q) ∧ w'.cell? ⟨b2, o2 + k * 2, none⟩ = some (.int .i64 r) ∧ w'.cell? ⟨b2, o2 + k * 2 + 1, none⟩ = some (.int .i64 s))
            (((try go_split_ands); refine ⟨?_, ?_, ?_, ?_⟩ <;> (repeat (first | with_reducible assumption | with_reducible refine drew_keep ?_))))
            (fail)
          go_wp2
          go_ret
          exact ⟨congrArg (fun b => Ending.returned (Value.bool b)) HN.out.symm, HB.out.drew⟩
    · have hkn : k = n := by omega
      have heq : zs = ys := by
        have h3 := HT.out
        rw [List.take_of_length_le (by rw [HZ.out]; omega), List.take_of_length_le (by rw [HY.out]; omega)] at h3
        exact h3
      have hd : decide (zs = ys) = true := by simp [heq]
      have HD := Lib.hid hd
      clear heq hd HT ht
      go_wp2
      go_ret
      exact ⟨congrArg (fun b => Ending.returned (Value.bool b)) HD.out.symm, HB.out⟩

theorem slEqual_any (n m : Nat) (zs ys : List (Int × Int)) (hz : zs.length = n) (hy : ys.length = m) (A1 A2 : Option Addr) (c1 c2 : Nat) (w : World) (h1 : Sts w A1 zs) (h2 : Sts w A2 ys) (hn : n ≤ 4194304) :
    Calls Try.prog 50 #[.slice A1 n c1, .slice A2 m c2] w fun e w' => e = .returned (.bool (decide (zs = ys))) ∧ Below w.heap.size w w' := by
  by_cases h : n = m
  · subst h
    exact slEqual_same n zs ys hz hy A1 A2 c1 c2 w h1 h2 hn
  · have hd : decide (zs = ys) = false := by
      simp only [decide_eq_false_iff_not]
      rintro rfl
      omega
    rw [hd]
    have hc : ((n : Int) != (m : Int)) = true := by simp; omega
    clear hz hy h1 h2 hd
    go_enter Try.func50, Try.ntmps50
    go_wp2
    go_ret
    exact ⟨rfl, Below.refl _ _⟩

theorem implSame_any (n m : Nat) (zs ys : List (Int × Int)) (hz : zs.length = n) (hy : ys.length = m) (A1 A2 : Option Addr) (c1 c2 : Nat) (w : World) (h1 : Sts w A1 zs) (h2 : Sts w A2 ys) (hn : n ≤ 4194304) :
    Calls Try.prog 30 #[.slice A1 n c1, .slice A2 m c2] w fun e w' => e = .returned (.bool (decide (zs = ys))) ∧ Below w.heap.size w w' := by
  have C := Lib.hid (slEqual_any n m zs ys hz hy A1 A2 c1 c2 w h1 h2 hn)
  generalize decide (zs = ys) = r at C ⊢
  clear hz hy h1 h2
  go_enter Try.func30, Try.ntmps30
  go_wp2_with (go_at_call 50; with_reducible refine C.out.mono ?_; rintro e w5 ⟨rfl, hbd⟩)
  go_ret
  exact ⟨rfl, hbd⟩

end Go.Proofs.Ytjnmpcfclkahlaa.hexes
