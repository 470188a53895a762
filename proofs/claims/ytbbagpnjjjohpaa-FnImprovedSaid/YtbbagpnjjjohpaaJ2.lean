/-
  NodeOk on both sides.
  outsOk; NodeOk on both sides.
  spec.NodeOk.
-/
import Derived.Test.YtbbagpnjjjohpaaJ0
import Derived.Test.YtbbagpnjjjohpaaJ1
import Derived.Deep.DeepCutAuto
import Derived.Deep.QuietTactic
import Derived.BigQuiet
import Derived.Deep.CutBlock

namespace Go.Proofs.Ytbbagpnjjjohpaa.hexes
open Go.RowKit

theorem specInN_is {n a b : Int} {r : Bool} (h : decide (a ≤ n ∧ n ≤ b) = r) (W : World) : Calls Try.prog 57 #[.int .i64 n, .int .i64 a, .int .i64 b] W fun e w' => e = .returned (.bool r) ∧ W = w' := by
  subst h
  exact specIn_any n a b W

theorem implInN_is {n b : Int} {r : Bool} (h : decide (0 ≤ n ∧ n ≤ b) = r) (W : World) : Calls Try.prog 103 #[.int .i64 n, .int .i64 b] W fun e w' => e = .returned (.bool r) ∧ W = w' := by
  subst h
  by_cases h1 : 0 ≤ n
  · by_cases h2 : n ≤ b
    · have q1 : decide (n ≥ 0) = true := decide_eq_true h1
      have q2 : decide (n ≤ b) = true := decide_eq_true h2
      have q3 := Lib.hid (show decide (0 ≤ n ∧ n ≤ b) = true from decide_eq_true ⟨h1, h2⟩)
      rw [q3.out]
      clear h1 h2
      go_enter Try.func103, Try.ntmps103
      go_wp2
      go_ret
      exact ⟨rfl, rfl⟩
    · have q1 : decide (n ≥ 0) = true := decide_eq_true h1
      have q2 : decide (n ≤ b) = false := decide_eq_false h2
      have q3 := Lib.hid (show decide (0 ≤ n ∧ n ≤ b) = false from decide_eq_false (fun h => h2 h.2))
      rw [q3.out]
      clear h1 h2
      go_enter Try.func103, Try.ntmps103
      go_wp2
      go_ret
      exact ⟨rfl, rfl⟩
  · have q1 : decide (n ≥ 0) = false := decide_eq_false h1
    have q3 := Lib.hid (show decide (0 ≤ n ∧ n ≤ b) = false from decide_eq_false (fun h => h1 h.1))
    rw [q3.out]
    clear h1
    go_enter Try.func103, Try.ntmps103
    go_wp2
    go_ret
    exact ⟨rfl, rfl⟩

/-- Where a number stands in a list. -/
def AtEnd (zs : List Int) (q : Int) (w : World) (e : Ending) (w' : World) : Prop := ∃ i : Int, e = .returned (.int .i64 i) ∧ (decide (i ≥ 0) = decide (q ∈ zs)) ∧ w = w'

theorem not_take_succ {zs : List Int} {j : Nat} {p q : Int} (hj : j < zs.length) (hp : zs[j] = p) (hq : ¬q = p) (h : q ∉ zs.take j) : q ∉ zs.take (j + 1) := by
  rw [List.take_succ_eq_append_getElem hj, hp]
  simp [h, hq]

set_option maxRecDepth 100000 in
theorem indexIs_any (n : Nat) (zs : List Int) (hz : zs.length = n) (A : Option Addr) (c : Nat) (q : Int) (w : World) (h1 : Ints w A zs) (hn : n ≤ 1048576) :
    Calls Try.prog 126 #[.slice A n c, .int .i64 q] w (AtEnd zs q w) := by
  have H1 := Lib.hid h1
  have HZ := Lib.hid hz
  clear h1 hz
  go_enter Try.func126, Try.ntmps126
  go_wp2
  go_loop [8] (fun i => ∃ k : Nat, k ≤ n ∧ i = .int .i64 k ∧ q ∉ zs.take k) (fun i => n - (intOf i).toNat)
  case atStart => exact ⟨0, Nat.zero_le _, rfl, by simp⟩
  case round =>
    obtain ⟨k, hk, rfl, ht⟩ := hrel
    have HT := Lib.hid ht
    clear ht
    by_cases hlt : k < n
    · have l1 : k < zs.length := by rw [HZ.out]; exact hlt
      obtain ⟨b1, o1, p, rfl, x1, e1⟩ := H1.out.at l1
      have X1 := Lib.hid x1
      have i0 : (0 : Int) ≤ (k : Int) := by omega
      have i1 : (k : Int) < (n : Int) := by omega
      clear x1
      by_cases he : q = p
      · have hne : (q == p) = true := by simpa using he
        have hm : decide ((k : Int) ≥ 0) = decide (q ∈ zs) := by
          have : q ∈ zs := by rw [he, ← X1.out]; exact List.getElem_mem l1
          simp [this]
        have HM := Lib.hid hm
        clear he HT X1 l1 hm
        go_wp2
        go_ret
        exact ⟨_, rfl, HM.out, rfl⟩
      · have hne : (q == p) = false := by simpa using he
        have HT2 := Lib.hid (not_take_succ l1 X1.out he HT.out)
        clear he HT X1 l1
        go_wp2
        go_round
        case rel => exact ⟨k + 1, by omega, by go_num, HT2.out⟩
        case measure => simp [intOf]; omega
    · have hkn : k = n := by omega
      have hm : decide ((-1 : Int) ≥ 0) = decide (q ∈ zs) := by
        have h3 := HT.out
        rw [List.take_of_length_le (by rw [HZ.out]; omega)] at h3
        simp [h3]
      have HM := Lib.hid hm
      clear hm hkn HT
      go_wp2
      go_ret
      exact ⟨_, rfl, HM.out, rfl⟩

theorem containsIs_is {n : Nat} {zs : List Int} (hz : zs.length = n) {A : Option Addr} (c : Nat) {q : Int} {r : Bool} (hr : decide (q ∈ zs) = r) {w : World} (h1 : Ints w A zs) (hn : n ≤ 1048576) :
    Calls Try.prog 121 #[.slice A n c, .int .i64 q] w fun e w' => e = .returned (.bool r) ∧ w = w' := by
  have E := Lib.hid (indexIs_any n zs hz A c q w h1 hn)
  have HR := Lib.hid hr
  clear hz h1 hn hr
  go_enter Try.func121, Try.ntmps121
  go_wp2_with fail
  refine E.out.mono ?_
  rintro e w1 ⟨i, rfl, hi, rfl⟩
  have hi' := Lib.hid (hi.trans HR.out)
  clear hi E
  cases r with
  | true =>
    have q1 : decide (i ≥ 0) = true := hi'.out
    go_wp2
    go_ret
    exact ⟨rfl, rfl⟩
  | false =>
    have q1 : decide (i ≥ 0) = false := hi'.out
    go_wp2
    go_ret
    exact ⟨rfl, rfl⟩

theorem Ints.take {w : World} {A : Option Addr} {zs : List Int} (h : Ints w A zs) (k : Nat) : Ints w A (zs.take k) := fun hl => by
  have hl' : 0 < zs.length := by simp at hl; omega
  obtain ⟨b, off, hA, hlt, hz⟩ := h hl'
  refine ⟨b, off, hA, hlt, fun j hj => ?_⟩
  have := hz j (by simp at hj; omega)
  simpa using this

set_option maxRecDepth 100000 in
set_option maxHeartbeats 1000000 in
theorem implSet_any (k a b d : Int) (A : Option Addr) (n c : Nat) (w : World) (hd : IntKind.i64.wrap (a - 1) = d) :
    Calls Try.prog 110 #[.agg #[.int .i64 k, .int .i64 a, .int .i64 b, .slice A n c]] w fun e w' => e = .returned (.bool (setB k a b d)) ∧ Below w.heap.size w w' := by
  have BW := Lib.hid ((Below.refl w.heap.size w).alloc (Nat.le_refl _) (.cells #[.int .i64 k, .int .i64 a, .int .i64 b, .slice A n c] 46))
  have WD := Lib.hid hd
  by_cases h2 : k = 2
  · subst h2
    have HR := Lib.hid (show setB 2 a b d = (aB 2 a && (b == 0)) by unfold setB; rw [← bB_o b d (by omega)]; simp [kB])
    obtain ⟨qa, hqa⟩ : ∃ q, aB 2 a = q := ⟨_, rfl⟩
    have E := Lib.hid (fun W => implInN_is ((aB_2 a).trans hqa) W)
    rw [HR.out, hqa]
    clear hd WD HR hqa
    cases qa <;> cases hb : (b == 0)
    all_goals
      go_enter Try.func110, Try.ntmps110
      go_wp2_with fail
      refine (E.out _).mono ?_
      rintro e w1 ⟨rfl, rfl⟩
      go_wp2
      go_ret
      exact ⟨rfl, BW.out⟩
  by_cases h3 : k = 3
  · subst h3
    have HR := Lib.hid (show setB 3 a b d = (aB 3 a && bB 3 b d) by unfold setB; simp [kB])
    obtain ⟨qb, hqb⟩ : ∃ q, bB 3 b d = q := ⟨_, rfl⟩
    have E := Lib.hid (fun W => implInN_is ((bB_3 b d).trans hqb) W)
    rw [HR.out, ← aB_3, hqb]
    clear HR h2 hqb
    by_cases g1 : 1 ≤ a
    · by_cases g2 : a ≤ 10
      · have q1 : decide (a ≥ 1) = true := decide_eq_true g1
        have q2 : decide (a ≤ 10) = true := decide_eq_true g2
        have q3 := Lib.hid (show decide (1 ≤ a ∧ a ≤ 10) = true from decide_eq_true ⟨g1, g2⟩)
        have hdd : a - 1 = d := by rw [← hd, IntWalk.i64_in _ (by omega)]
        rw [q3.out]
        have m0 : IntKind.i64.wrap d = d := by rw [← hdd]; exact IntWalk.i64_in _ (by omega)
        clear hd WD g1 g2
        go_enter Try.func110, Try.ntmps110
        go_wp2_with fail
        refine (E.out _).mono ?_
        rintro e w1 ⟨rfl, rfl⟩
        cases qb
        all_goals
          go_wp2
          go_ret
          exact ⟨rfl, BW.out⟩
      · have q1 : decide (a ≥ 1) = true := decide_eq_true g1
        have q2 : decide (a ≤ 10) = false := decide_eq_false g2
        have q3 := Lib.hid (show decide (1 ≤ a ∧ a ≤ 10) = false from decide_eq_false (fun h => g2 h.2))
        rw [q3.out]
        clear hd WD g1 g2
        go_enter Try.func110, Try.ntmps110
        go_wp2
        go_ret
        exact ⟨rfl, BW.out⟩
    · have q1 : decide (a ≥ 1) = false := decide_eq_false g1
      have q3 := Lib.hid (show decide (1 ≤ a ∧ a ≤ 10) = false from decide_eq_false (fun h => g1 h.1))
      rw [q3.out]
      clear hd WD g1
      go_enter Try.func110, Try.ntmps110
      go_wp2
      go_ret
      exact ⟨rfl, BW.out⟩
  by_cases h4 : k = 4
  · subst h4
    have HR := Lib.hid (show setB 4 a b d = (aB 4 a && (b == 0)) by unfold setB; rw [← bB_o b d (by omega)]; simp [kB])
    obtain ⟨qa, hqa⟩ : ∃ q, aB 4 a = q := ⟨_, rfl⟩
    have E := Lib.hid (fun W => implInN_is ((aB_4 a).trans hqa) W)
    rw [HR.out, hqa]
    clear hd WD HR h2 h3 hqa
    cases qa <;> cases hb : (b == 0)
    all_goals
      go_enter Try.func110, Try.ntmps110
      go_wp2_with fail
      refine (E.out _).mono ?_
      rintro e w1 ⟨rfl, rfl⟩
      go_wp2
      go_ret
      exact ⟨rfl, BW.out⟩
  have HR := Lib.hid (show setB k a b d = (kB k && (a == 0) && (b == 0)) by unfold setB; rw [← bB_o b d h3, ← aB_o a h2 h3 h4])
  rw [HR.out]
  clear hd WD HR
  have d2 : (k == 2) = false := by simpa using h2
  have d3 : (k == 3) = false := by simpa using h3
  have d4 : (k == 4) = false := by simpa using h4
  by_cases hk : k = 1 ∨ k = 5 ∨ k = 6 ∨ k = 7 ∨ k = 8
  · have hkb : kB k = true := decide_eq_true (by omega)
    rw [hkb]
    clear hkb h2 h3 h4
    cases ha : (a == 0) <;> cases hb : (b == 0)
    all_goals
      rcases hk with rfl | rfl | rfl | rfl | rfl
      all_goals
        clear d2 d3 d4
        go_enter Try.func110, Try.ntmps110
        go_wp2
        go_ret
        exact ⟨rfl, BW.out⟩
  · have hkb : kB k = false := decide_eq_false (by omega)
    rw [hkb]
    have d1 : (k == 1) = false := by simp; omega
    have d5 : (k == 5) = false := by simp; omega
    have d6 : (k == 6) = false := by simp; omega
    have d7 : (k == 7) = false := by simp; omega
    have d8 : (k == 8) = false := by simp; omega
    clear hkb h2 h3 h4 hk
    go_enter Try.func110, Try.ntmps110
    go_wp2
    go_ret
    exact ⟨rfl, BW.out⟩

end Go.Proofs.Ytbbagpnjjjohpaa.hexes

namespace Go.Proofs.Ytbbagpnjjjohpaa.hexes
open Go.RowKit

set_option maxRecDepth 100000 in
set_option maxHeartbeats 1000000 in
theorem implOuts_any (k a b : Int) (A : Option Addr) (n c : Nat) (zs : List Int) (hz : zs.length = n) (hc : n ≤ c) (w : World) (h1 : Ints w A zs) (hn : n ≤ 1048576) :
    Calls Try.prog 111 #[.agg #[.int .i64 k, .int .i64 a, .int .i64 b, .slice A n c]] w fun e w' => e = .returned (.bool (outsB k zs)) ∧ Below w.heap.size w w' := by
  have BW := Lib.hid ((Below.refl w.heap.size w).alloc (Nat.le_refl _) (.cells #[.int .i64 k, .int .i64 a, .int .i64 b, .slice A n c] 46))
  have H1 := Lib.hid (h1.below ((Below.refl w.heap.size w).alloc (Nat.le_refl _) (.cells #[.int .i64 k, .int .i64 a, .int .i64 b, .slice A n c] 46)))
  have HZ := Lib.hid hz
  clear h1
  by_cases h8 : k = 8
  · subst h8
    by_cases h0 : n = 0
    · have HR := Lib.hid (show outsB 8 zs = true by
        obtain rfl := List.eq_nil_of_length_eq_zero (hz.trans h0)
        exact outs_nil 8)
      have q0 : ((n : Int) == 0) = true := by simp; omega
      rw [HR.out]
      clear h0 hz
      go_enter Try.func111, Try.ntmps111
      go_wp2
      go_ret
      exact ⟨rfl, BW.out⟩
    · have HR := Lib.hid (show outsB 8 zs = false from outs_out (by omega))
      have q0 : ((n : Int) == 0) = false := by simp; omega
      rw [HR.out]
      clear h0 hz
      go_enter Try.func111, Try.ntmps111
      go_wp2
      go_ret
      exact ⟨rfl, BW.out⟩
  have d8 : (k == 8) = false := by simpa using h8
  by_cases hl : n ≤ 2
  · have q0 : decide ((n : Int) > 2) = false := by simp; omega
    have HY := Lib.hid (fun h : ScanO zs zs.length => outs_yes (k := k) (zs := zs) (by omega) (fun h => absurd h h8) h)
    clear hz h8
    go_enter Try.func111, Try.ntmps111
    go_wp2
    go_loop [19] (fun i => ∃ j : Nat, j ≤ n ∧ i = .int .i64 j ∧ ScanO zs j) (fun i => n - (intOf i).toNat)
    case atStart => exact ⟨0, Nat.zero_le _, rfl, scan_zero zs⟩
    case round =>
      obtain ⟨j, hj, rfl, ht⟩ := hrel
      have HT := Lib.hid ht
      clear ht q0
      by_cases hlt : j < n
      · have l1 : j < zs.length := by rw [HZ.out]; exact hlt
        obtain ⟨b1, o1, p, rfl, x1, e1⟩ := H1.out.at l1
        have X1 := Lib.hid x1
        have i0 : (0 : Int) ≤ (j : Int) := by omega
        have i1 : (j : Int) < (n : Int) := by omega
        have i2 : (j : Int) ≤ (c : Int) := by omega
        clear x1
        by_cases h7 : 0 ≤ p ∧ p ≤ 7
        · have E := Lib.hid (fun W => implInN_is (decide_eq_true h7) W)
          by_cases hm : p ∈ zs.take j
          · have EC := Lib.hid (containsIs_is (n := j) (zs := zs.take j) (by simp; omega) c (decide_eq_true hm) (H1.out.take j) (by omega))
            have HR := Lib.hid (show outsB k zs = false from outs_twice l1 X1.out hm)
            clear HT HY X1 h7 hm l1
            go_wp2_with fail
            refine (E.out _).mono ?_
            rintro e w1 ⟨rfl, rfl⟩
            go_wp2_with fail
            refine EC.out.mono ?_
            rintro e w2 ⟨rfl, rfl⟩
            go_wp2
            go_ret
            exact ⟨congrArg (fun b => Ending.returned (Value.bool b)) HR.out.symm, BW.out⟩
          · have EC := Lib.hid (containsIs_is (n := j) (zs := zs.take j) (by simp; omega) c (decide_eq_false hm) (H1.out.take j) (by omega))
            have HT2 := Lib.hid (scan_succ l1 X1.out HT.out h7 hm)
            clear HT X1 h7 hm l1
            go_wp2_with fail
            refine (E.out _).mono ?_
            rintro e w1 ⟨rfl, rfl⟩
            go_wp2_with fail
            refine EC.out.mono ?_
            rintro e w2 ⟨rfl, rfl⟩
            go_wp2
            go_round
            case rel => exact ⟨j + 1, by omega, by go_num, HT2.out⟩
            case measure => simp [intOf]; omega
        · have E := Lib.hid (fun W => implInN_is (decide_eq_false h7) W)
          have HR := Lib.hid (show outsB k zs = false from outs_bad l1 X1.out h7)
          clear HT HY X1 h7 l1
          go_wp2_with fail
          refine (E.out _).mono ?_
          rintro e w1 ⟨rfl, rfl⟩
          go_wp2
          go_ret
          exact ⟨congrArg (fun b => Ending.returned (Value.bool b)) HR.out.symm, BW.out⟩
      · have hjn : j = zs.length := by have := HZ.out; omega
        have HR := Lib.hid (show outsB k zs = true from HY.out (hjn ▸ HT.out))
        clear HT HY hjn
        go_wp2
        go_ret
        exact ⟨congrArg (fun b => Ending.returned (Value.bool b)) HR.out.symm, BW.out⟩
  · have q0 : decide ((n : Int) > 2) = true := by simp; omega
    have HR := Lib.hid (show outsB k zs = false from outs_long (by omega))
    rw [HR.out]
    clear hz h8 hl
    go_enter Try.func111, Try.ntmps111
    go_wp2
    go_ret
    exact ⟨rfl, BW.out⟩

set_option maxRecDepth 100000 in
theorem implNdOk_any (k a b d : Int) (A : Option Addr) (n c : Nat) (zs : List Int) (hz : zs.length = n) (hc : n ≤ c) (hd : IntKind.i64.wrap (a - 1) = d) (w : World) (h1 : Ints w A zs) (hn : n ≤ 1048576) :
    Calls Try.prog 89 #[.agg #[.int .i64 k, .int .i64 a, .int .i64 b, .slice A n c]] w fun e w' => e = .returned (.bool (okNd k a b d zs)) ∧ Below w.heap.size w w' := by
  obtain ⟨W, hW⟩ : ∃ W, w.alloc (.cells #[.int .i64 k, .int .i64 a, .int .i64 b, .slice A n c] 46) = W := ⟨_, rfl⟩
  have BW := Lib.hid (show Below w.heap.size w W by rw [← hW]; exact (Below.refl w.heap.size w).alloc (Nat.le_refl _) _)
  have KW := Lib.hid (show Blk W w.heap.size 46 #[.int .i64 k, .int .i64 a, .int .i64 b, .slice A n c] by rw [← hW]; exact Blk.new _ _ _)
  have E := Lib.hid (fun W => implSet_any k a b d A n c W hd)
  have EO := Lib.hid (fun W (h : Ints W A zs) => implOuts_any k a b A n c zs hz hc W h hn)
  have H1 := Lib.hid h1
  obtain ⟨r, hr⟩ : ∃ r, setB k a b d = r := ⟨_, rfl⟩
  obtain ⟨s, hs⟩ : ∃ s, outsB k zs = s := ⟨_, rfl⟩
  have HR := Lib.hid hr
  have HS := Lib.hid hs
  unfold okNd
  rw [hr, hs]
  clear h1 hd hz hr hs
  have x0 : W.cell? ⟨w.heap.size, 0, none⟩ = some (.int .i64 k) := by rw [KW.out.cell]; rfl
  have x1 : W.cell? ⟨w.heap.size, 1, none⟩ = some (.int .i64 a) := by rw [KW.out.cell]; rfl
  have x2 : W.cell? ⟨w.heap.size, 2, none⟩ = some (.int .i64 b) := by rw [KW.out.cell]; rfl
  have x3 : W.cell? ⟨w.heap.size, 3, none⟩ = some (.slice A n c) := by rw [KW.out.cell]; rfl
  go_enter Try.func89, Try.ntmps89
  go_wp2_with fail
  refine (E.out _).mono ?_
  rintro e w1 ⟨rfl, hb⟩
  rw [HR.out]
  have B1 := Lib.hid (below_chain BW.out hb)
  have K1 := Lib.hid (KW.out.below hb)
  clear hb x0 x1 x2 x3 hW
  cases r with
  | false =>
    go_wp2
    go_ret
    exact ⟨by rfl, B1.out⟩
  | true =>
    have x0 : w1.cell? ⟨w.heap.size, 0, none⟩ = some (.int .i64 k) := by rw [K1.out.cell]; rfl
    have x1 : w1.cell? ⟨w.heap.size, 1, none⟩ = some (.int .i64 a) := by rw [K1.out.cell]; rfl
    have x2 : w1.cell? ⟨w.heap.size, 2, none⟩ = some (.int .i64 b) := by rw [K1.out.cell]; rfl
    have x3 : w1.cell? ⟨w.heap.size, 3, none⟩ = some (.slice A n c) := by rw [K1.out.cell]; rfl
    go_wp2_with fail
    refine (EO.out _ (H1.out.below B1.out)).mono ?_
    rintro e w2 ⟨rfl, hb⟩
    rw [HS.out]
    have B2 := Lib.hid (below_chain B1.out hb)
    clear hb x0 x1 x2 x3
    go_wp2
    go_ret
    exact ⟨by simp, B2.out⟩

end Go.Proofs.Ytbbagpnjjjohpaa.hexes

namespace Go.Proofs.Ytbbagpnjjjohpaa.hexes
open Go.RowKit

set_option maxRecDepth 100000 in
set_option maxHeartbeats 4000000 in
theorem specNdOk_any (k a b d : Int) (A : Option Addr) (n c : Nat) (zs : List Int) (hz : zs.length = n) (hd : IntKind.i64.wrap (a - 1) = d) (w : World) (h1 : Ints w A zs) (hn : n ≤ 1048576) :
    Calls Try.prog 63 #[.agg #[.int .i64 k, .int .i64 a, .int .i64 b, .slice A n c]] w fun e w' => e = .returned (.bool (okNd k a b d zs)) ∧ Below w.heap.size w w' := by
  obtain ⟨W, hW⟩ : ∃ W, w.alloc (.cells #[.int .i64 k, .int .i64 a, .int .i64 b, .slice A n c] 46) = W := ⟨_, rfl⟩
  have BW := Lib.hid (show Below w.heap.size w W by rw [← hW]; exact (Below.refl w.heap.size w).alloc (Nat.le_refl _) _)
  have KW := Lib.hid (show Blk W w.heap.size 46 #[.int .i64 k, .int .i64 a, .int .i64 b, .slice A n c] by rw [← hW]; exact Blk.new _ _ _)
  have H1 := Lib.hid (h1.below BW.out)
  have HZ := Lib.hid hz
  obtain ⟨qa, hqa⟩ : ∃ q, aB k a = q := ⟨_, rfl⟩
  obtain ⟨qb, hqb⟩ : ∃ q, bB k b d = q := ⟨_, rfl⟩
  obtain ⟨qk, hqk⟩ : ∃ q, kB k = q := ⟨_, rfl⟩
  obtain ⟨s, hs⟩ : ∃ s, outsB k zs = s := ⟨_, rfl⟩
  have EK := Lib.hid (fun W => specInN_is (show decide (1 ≤ k ∧ k ≤ 8) = qk from hqk) W)
  have HR := Lib.hid (show okNd k a b d zs = (qk && qa && qb && s) by unfold okNd setB; rw [hqa, hqb, hqk, hs])
  rw [HR.out]
  have HS := Lib.hid hs
  have HQA := Lib.hid hqa
  have HQB := Lib.hid hqb
  have HD := Lib.hid hd
  clear h1 hz hqa hqb hqk hs hd HR
  have x0 : W.cell? ⟨w.heap.size, 0, none⟩ = some (.int .i64 k) := by rw [KW.out.cell]; rfl
  have x1 : W.cell? ⟨w.heap.size, 1, none⟩ = some (.int .i64 a) := by rw [KW.out.cell]; rfl
  have x2 : W.cell? ⟨w.heap.size, 2, none⟩ = some (.int .i64 b) := by rw [KW.out.cell]; rfl
  have x3 : W.cell? ⟨w.heap.size, 3, none⟩ = some (.slice A n c) := by rw [KW.out.cell]; rfl
  go_enter Try.func63, Try.ntmps63
  go_upto_block 0 with fail
  go_cut [3, 4] (fun t3 t4 wx => t3 = .bool qa ∧ t4 = .bool qb ∧ wx = W)
  case first =>
    by_cases h2 : k = 2
    · subst h2
      have E := Lib.hid (fun W => specInN_is ((aB_2 a).trans HQA.out) W)
      have Q := Lib.hid ((bB_o b d (by omega)).trans HQB.out)
      go_wp2_with fail
      refine (E.out _).mono ?_
      rintro e w1 ⟨rfl, rfl⟩
      go_wp2
      go_meet
      exact ⟨rfl, by rw [Q.out], rfl⟩
    by_cases h3 : k = 3
    · subst h3
      have E := Lib.hid (fun W => specInN_is ((aB_3 a).trans HQA.out) W)
      have E2 := Lib.hid (fun W => specInN_is ((bB_3 b d).trans HQB.out) W)
      have wd := HD.out
      clear h2
      go_wp2_with fail
      refine (E.out _).mono ?_
      rintro e w1 ⟨rfl, rfl⟩
      go_wp2_with fail
      refine (E2.out _).mono ?_
      rintro e w1 ⟨rfl, rfl⟩
      go_wp2
      go_meet
      exact ⟨rfl, rfl, rfl⟩
    by_cases h4 : k = 4
    · subst h4
      have E := Lib.hid (fun W => specInN_is ((aB_4 a).trans HQA.out) W)
      have Q := Lib.hid ((bB_o b d (by omega)).trans HQB.out)
      clear h2 h3
      go_wp2_with fail
      refine (E.out _).mono ?_
      rintro e w1 ⟨rfl, rfl⟩
      go_wp2
      go_meet
      exact ⟨rfl, by rw [Q.out], rfl⟩
    have Q := Lib.hid ((bB_o b d h3).trans HQB.out)
    have P := Lib.hid ((aB_o a h2 h3 h4).trans HQA.out)
    have d2 : (k == 2) = false := by simpa using h2
    have d3 : (k == 3) = false := by simpa using h3
    have d4 : (k == 4) = false := by simpa using h4
    clear h2 h3 h4
    go_wp2
    go_meet
    exact ⟨by rw [P.out], by rw [Q.out], rfl⟩
  case rest =>
  obtain ⟨rfl, rfl, rfl⟩ := hcut
  obtain ⟨V, hV⟩ : ∃ V, V = wc := ⟨_, rfl⟩
  subst hV
  clear HQA HQB HD
  cases qk with
  | false =>
    go_wp2_with fail
    refine (EK.out _).mono ?_
    rintro e w1 ⟨rfl, rfl⟩
    go_wp2
    go_ret
    exact ⟨rfl, BW.out⟩
  | true =>
  cases qa with
  | false =>
    go_wp2_with fail
    refine (EK.out _).mono ?_
    rintro e w1 ⟨rfl, rfl⟩
    go_wp2
    go_ret
    exact ⟨rfl, BW.out⟩
  | true =>
  cases qb with
  | false =>
    go_wp2_with fail
    refine (EK.out _).mono ?_
    rintro e w1 ⟨rfl, rfl⟩
    go_wp2
    go_ret
    exact ⟨rfl, BW.out⟩
  | true =>
  by_cases hl : n ≤ 2
  · have q0 : decide ((n : Int) > 2) = false := by simp; omega
    have ends : (k == 8) = true ∧ 0 < n ∧ s = false ∨ ((k == 8) = true ∧ s = true ∧ n = 0) ∨ ((k == 8) = false ∧ (ScanO zs zs.length → s = true)) := by
      by_cases h8 : k = 8
      · subst h8
        by_cases h0 : 0 < n
        · exact .inl ⟨rfl, h0, by rw [← HS.out]; exact outs_out (by rw [HZ.out]; exact h0)⟩
        · refine .inr (.inl ⟨rfl, ?_, by omega⟩)
          rw [← HS.out]
          have := HZ.out
          obtain rfl := List.eq_nil_of_length_eq_zero (show zs.length = 0 by omega)
          exact outs_nil 8
      · refine .inr (.inr ⟨by simpa using h8, fun h => ?_⟩)
        rw [← HS.out]
        exact outs_yes (by rw [HZ.out]; exact hl) (fun h => absurd h h8) h
    rcases ends with ⟨d8, q1, rfl⟩ | ⟨d8, rfl, hn0⟩ | ⟨d8, hy⟩
    · go_wp2_with fail
      refine (EK.out _).mono ?_
      rintro e w1 ⟨rfl, rfl⟩
      go_wp2
      go_ret
      exact ⟨rfl, BW.out⟩
    · subst hn0
      go_wp2_with fail
      refine (EK.out _).mono ?_
      rintro e w1 ⟨rfl, rfl⟩
      go_wp2
      go_loop [5] (fun i => i = .int .i64 0) (fun _ => 0)
      case atStart => rfl
      case round =>
        obtain rfl := hrel
        go_wp2
        go_ret
        exact ⟨rfl, BW.out⟩
    · have HY := Lib.hid hy
      clear hy
      go_wp2_with fail
      refine (EK.out _).mono ?_
      rintro e w1 ⟨rfl, rfl⟩
      go_wp2
      clear x0 x1 x2 x3 hW
      go_loopw [5] (fun i wr => ∃ j d' : Nat, j ≤ n ∧ i = .int .i64 j ∧ ScanO zs j ∧ wr = V.drewN d') (fun i _ => n - (intOf i).toNat)
      case atStart => exact ⟨0, 0, Nat.zero_le _, rfl, scan_zero zs, rfl⟩
      case round =>
        obtain ⟨j, d', hj, rfl, ht, hwr⟩ := hrel
        have HW := Lib.hid hwr
        have H2 := Lib.hid (show Ints wr A zs by rw [hwr]; exact H1.out)
        have KR := Lib.hid (show Blk wr w.heap.size 46 #[.int .i64 k, .int .i64 a, .int .i64 b, .slice A n c] by rw [hwr]; exact KW.out)
        have HT := Lib.hid ht
        have BD := Lib.hid (show Below w.heap.size w wr by rw [hwr]; exact belowN BW.out d')
        have x3 : wr.cell? ⟨w.heap.size, 3, none⟩ = some (.slice A n c) := by rw [KR.out.cell]; rfl
        clear ht q0 hwr
        by_cases hlt : j < n
        · have l1 : j < zs.length := by rw [HZ.out]; exact hlt
          obtain ⟨b1, o1, p, rfl, x1, e1⟩ := H2.out.at l1
          have X1 := Lib.hid x1
          have i0 : (0 : Int) ≤ (j : Int) := by omega
          have i1 : (j : Int) < (n : Int) := by omega
          clear x1
          by_cases h7 : 0 ≤ p ∧ p ≤ 7
          · have E := Lib.hid (fun W => (specInN_is (decide_eq_true h7) W).mono fun _ _ h => (⟨h.1, h.2.symm⟩ : _ ∧ _ = W))
            rcases Nat.eq_zero_or_pos j with h0 | h0
            · subst h0
              have HT2 := Lib.hid (scan_succ l1 X1.out HT.out h7 (by simp))
              have e1' : wr.cell? ⟨b1, o1, none⟩ = some (.int .i64 p) := e1
              clear HT X1 h7 l1 e1
              go_wp2_with fail
              go_quiet ((go_at_call 57; exact Calls.quiet_of_same (E.out _)))
              go_wp2
              go_roundw
              case rel => exact ⟨1, _, by omega, by go_num, HT2.out, by rw [HW.out]; exact World.drewN_drewN _ _ _⟩
              case measure => simp [intOf]; omega
            · obtain rfl : j = 1 := by omega
              obtain rfl : n = 2 := by omega
              obtain ⟨b2, o2, q, hA, x2, e2⟩ := H2.out.at (show 0 < zs.length by omega)
              simp only [Option.some.injEq, Addr.mk.injEq, and_true] at hA
              obtain ⟨rfl, rfl⟩ := hA
              have e2' : wr.cell? ⟨b1, o1, none⟩ = some (.int .i64 q) := e2
              have tk : zs.take 1 = [q] := by
                rw [← x2]
                rcases zs with _ | ⟨z, zs⟩
                · simp at l1
                · simp
              by_cases hqp : q = p
              · have dq : (q == p) = true := by simpa using hqp
                have hs' : s = false := by rw [← HS.out]; exact outs_twice l1 X1.out (by rw [tk, hqp]; simp)
                subst hs'
                clear HT X1 h7 l1 HY x2 tk hqp e2
                go_wp2_with fail
                go_quiet ((go_at_call 57; exact Calls.quiet_of_same (E.out _)))
                go_wp2
                go_ret
                exact ⟨rfl, belowN BD.out _⟩
              · have dq : (q == p) = false := by simpa using hqp
                have HT2 := Lib.hid (scan_succ l1 X1.out HT.out h7 (by rw [tk]; simp; exact fun h => hqp h.symm))
                clear HT X1 h7 l1 x2 tk hqp e2
                go_wp2_with fail
                go_quiet ((go_at_call 57; exact Calls.quiet_of_same (E.out _)))
                go_wp2
                go_roundw
                case rel => exact ⟨2, _, by omega, by go_num, HT2.out, by rw [HW.out]; exact World.drewN_drewN _ _ _⟩
                case measure => simp [intOf]
          · have E := Lib.hid (fun W => (specInN_is (decide_eq_false h7) W).mono fun _ _ h => (⟨h.1, h.2.symm⟩ : _ ∧ _ = W))
            have hs' : s = false := by rw [← HS.out]; exact outs_bad l1 X1.out h7
            subst hs'
            clear HT X1 h7 l1 HY
            go_wp2_with fail
            go_quiet ((go_at_call 57; exact Calls.quiet_of_same (E.out _)))
            go_wp2
            go_ret
            exact ⟨rfl, belowN BD.out _⟩
        · have hjn : j = zs.length := by have := HZ.out; omega
          have hs' := HY.out (hjn ▸ HT.out)
          subst hs'
          clear HT HY hjn
          go_wp2
          go_ret
          exact ⟨rfl, BD.out⟩
  · have q0 : decide ((n : Int) > 2) = true := by simp; omega
    have hs' : s = false := by rw [← HS.out]; exact outs_long (by rw [HZ.out]; omega)
    subst hs'
    go_wp2_with fail
    refine (EK.out _).mono ?_
    rintro e w1 ⟨rfl, rfl⟩
    go_wp2
    go_ret
    exact ⟨rfl, BW.out⟩

end Go.Proofs.Ytbbagpnjjjohpaa.hexes

