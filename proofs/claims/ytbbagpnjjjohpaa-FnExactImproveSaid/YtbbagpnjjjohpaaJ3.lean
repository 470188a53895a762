/-
  A block beside a store elsewhere.
  NodeOk on both sides.
-/
import Derived.Test.YtbbagpnjjjohpaaJ1
import Derived.Test.YtbbagpnjjjohpaaJ0
import Derived.Test.YtbbagpnjjjohpaaJ2
import Derived.Deep.DeepCutAuto
import Derived.Deep.QuietTactic
import Derived.BigQuiet

namespace Go.Proofs.Ytbbagpnjjjohpaa.hexes
open Go.RowKit
theorem Blk.other {w : World} {g : Nat} {t : TypeId} {cs : Array Value} (h : Blk w g t cs) {p : Addr} (hne : g ≠ p.block) (u : Value) : Blk (w.setCell p u) g t cs := (Below.heap_setCell w p u g hne).trans h
end Go.Proofs.Ytbbagpnjjjohpaa.hexes

namespace Go.Proofs.Ytbbagpnjjjohpaa.hexes
open Go.RowKit

theorem specInN_is {n a b : Int} {r : Bool} (h : decide (a ≤ n ∧ n ≤ b) = r) (W : World) : Calls Try.prog 57 #[.int .i64 n, .int .i64 a, .int .i64 b] W fun e w' => e = .returned (.bool r) ∧ W = w' := by
  subst h
  exact specIn_any n a b W

theorem implInN_is {n b : Int} {r : Bool} (h : decide (0 ≤ n ∧ n ≤ b) = r) (W : World) : Calls Try.prog 103 #[.int .i64 n, .int .i64 b] W fun e w' => e = .returned (.bool r) ∧ W = w' := by
  subst h
  by_cases h1 : 0 ≤ n
  · by_cases h2 : n ≤ b
    · have q1 : decide (n ≥ 0) = true := decide_eq_true h1
      have q2 : decide (n ≤ b) = true := decide_eq_true h2
      have q3 := Lib.hid (show decide (0 ≤ n ∧ n ≤ b) = true from decide_eq_true ⟨h1, h2⟩)
      rw [q3.out]
      clear h1 h2
      go_enter Try.func103, Try.ntmps103
      go_wp2
      go_ret
      exact ⟨rfl, rfl⟩
    · have q1 : decide (n ≥ 0) = true := decide_eq_true h1
      have q2 : decide (n ≤ b) = false := decide_eq_false h2
      have q3 := Lib.hid (show decide (0 ≤ n ∧ n ≤ b) = false from decide_eq_false (fun h => h2 h.2))
      rw [q3.out]
      clear h1 h2
      go_enter Try.func103, Try.ntmps103
      go_wp2
      go_ret
      exact ⟨rfl, rfl⟩
  · have q1 : decide (n ≥ 0) = false := decide_eq_false h1
    have q3 := Lib.hid (show decide (0 ≤ n ∧ n ≤ b) = false from decide_eq_false (fun h => h1 h.1))
    rw [q3.out]
    clear h1
    go_enter Try.func103, Try.ntmps103
    go_wp2
    go_ret
    exact ⟨rfl, rfl⟩

/-- Where a number stands in a list. -/
def AtEnd (zs : List Int) (q : Int) (w : World) (e : Ending) (w' : World) : Prop := ∃ i : Int, e = .returned (.int .i64 i) ∧ (decide (i ≥ 0) = decide (q ∈ zs)) ∧ w = w'

theorem not_take_succ {zs : List Int} {j : Nat} {p q : Int} (hj : j < zs.length) (hp : zs[j] = p) (hq : ¬q = p) (h : q ∉ zs.take j) : q ∉ zs.take (j + 1) := by
  rw [List.take_succ_eq_append_getElem hj, hp]
  simp [h, hq]

set_option maxRecDepth 100000 in
theorem indexIs_any (n : Nat) (zs : List Int) (hz : zs.length = n) (A : Option Addr) (c : Nat) (q : Int) (w : World) (h1 : Ints w A zs) (hn : n ≤ 1048576) :
    Calls Try.prog 126 #[.slice A n c, .int .i64 q] w (AtEnd zs q w) := by
  have H1 := Lib.hid h1
  have HZ := Lib.hid hz
  clear h1 hz
  go_enter Try.func126, Try.ntmps126
  go_wp2
  go_loop [8] (fun i => ∃ k : Nat, k ≤ n ∧ i = .int .i64 k ∧ q ∉ zs.take k) (fun i => n - (intOf i).toNat)
  case atStart => exact ⟨0, Nat.zero_le _, rfl, by simp⟩
  case round =>
    obtain ⟨k, hk, rfl, ht⟩ := hrel
    have HT := Lib.hid ht
    clear ht
    by_cases hlt : k < n
    · have l1 : k < zs.length := by rw [HZ.out]; exact hlt
      obtain ⟨b1, o1, p, rfl, x1, e1⟩ := H1.out.at l1
      have X1 := Lib.hid x1
      have i0 : (0 : Int) ≤ (k : Int) := by omega
      have i1 : (k : Int) < (n : Int) := by omega
      clear x1
      by_cases he : q = p
      · have hne : (q == p) = true := by simpa using he
        have hm : decide ((k : Int) ≥ 0) = decide (q ∈ zs) := by
          have : q ∈ zs := by rw [he, ← X1.out]; exact List.getElem_mem l1
          simp [this]
        have HM := Lib.hid hm
        clear he HT X1 l1 hm
        go_wp2
        go_ret
        exact ⟨_, rfl, HM.out, rfl⟩
      · have hne : (q == p) = false := by simpa using he
        have HT2 := Lib.hid (not_take_succ l1 X1.out he HT.out)
        clear he HT X1 l1
        go_wp2
        go_round
        case rel => exact ⟨k + 1, by omega, by go_num, HT2.out⟩
        case measure => simp [intOf]; omega
    · have hkn : k = n := by omega
      have hm : decide ((-1 : Int) ≥ 0) = decide (q ∈ zs) := by
        have h3 := HT.out
        rw [List.take_of_length_le (by rw [HZ.out]; omega)] at h3
        simp [h3]
      have HM := Lib.hid hm
      clear hm hkn HT
      go_wp2
      go_ret
      exact ⟨_, rfl, HM.out, rfl⟩

theorem containsIs_is {n : Nat} {zs : List Int} (hz : zs.length = n) {A : Option Addr} (c : Nat) {q : Int} {r : Bool} (hr : decide (q ∈ zs) = r) {w : World} (h1 : Ints w A zs) (hn : n ≤ 1048576) :
    Calls Try.prog 121 #[.slice A n c, .int .i64 q] w fun e w' => e = .returned (.bool r) ∧ w = w' := by
  have E := Lib.hid (indexIs_any n zs hz A c q w h1 hn)
  have HR := Lib.hid hr
  clear hz h1 hn hr
  go_enter Try.func121, Try.ntmps121
  go_wp2_with fail
  refine E.out.mono ?_
  rintro e w1 ⟨i, rfl, hi, rfl⟩
  have hi' := Lib.hid (hi.trans HR.out)
  clear hi E
  cases r with
  | true =>
    have q1 : decide (i ≥ 0) = true := hi'.out
    go_wp2
    go_ret
    exact ⟨rfl, rfl⟩
  | false =>
    have q1 : decide (i ≥ 0) = false := hi'.out
    go_wp2
    go_ret
    exact ⟨rfl, rfl⟩

theorem Ints.take {w : World} {A : Option Addr} {zs : List Int} (h : Ints w A zs) (k : Nat) : Ints w A (zs.take k) := fun hl => by
  have hl' : 0 < zs.length := by simp at hl; omega
  obtain ⟨b, off, hA, hlt, hz⟩ := h hl'
  refine ⟨b, off, hA, hlt, fun j hj => ?_⟩
  have := hz j (by simp at hj; omega)
  simpa using this

set_option maxRecDepth 100000 in
set_option maxHeartbeats 1000000 in
theorem implSet_any (k a b d : Int) (A : Option Addr) (n c : Nat) (w : World) (hd : IntKind.i64.wrap (a - 1) = d) :
    Calls Try.prog 110 #[.agg #[.int .i64 k, .int .i64 a, .int .i64 b, .slice A n c]] w fun e w' => e = .returned (.bool (setB k a b d)) ∧ Below w.heap.size w w' := by
  have BW := Lib.hid ((Below.refl w.heap.size w).alloc (Nat.le_refl _) (.cells #[.int .i64 k, .int .i64 a, .int .i64 b, .slice A n c] 46))
  have WD := Lib.hid hd
  by_cases h2 : k = 2
  · subst h2
    have HR := Lib.hid (show setB 2 a b d = (aB 2 a && (b == 0)) by unfold setB; rw [← bB_o b d (by omega)]; simp [kB])
    obtain ⟨qa, hqa⟩ : ∃ q, aB 2 a = q := ⟨_, rfl⟩
    have E := Lib.hid (fun W => implInN_is ((aB_2 a).trans hqa) W)
    rw [HR.out, hqa]
    clear hd WD HR hqa
    cases qa <;> cases hb : (b == 0)
    all_goals
      go_enter Try.func110, Try.ntmps110
      go_wp2_with fail
      refine (E.out _).mono ?_
      rintro e w1 ⟨rfl, rfl⟩
      go_wp2
      go_ret
      exact ⟨rfl, BW.out⟩
  by_cases h3 : k = 3
  · subst h3
    have HR := Lib.hid (show setB 3 a b d = (aB 3 a && bB 3 b d) by unfold setB; simp [kB])
    obtain ⟨qb, hqb⟩ : ∃ q, bB 3 b d = q := ⟨_, rfl⟩
    have E := Lib.hid (fun W => implInN_is ((bB_3 b d).trans hqb) W)
    rw [HR.out, ← aB_3, hqb]
    clear HR h2 hqb
    by_cases g1 : 1 ≤ a
    · by_cases g2 : a ≤ 10
      · have q1 : decide (a ≥ 1) = true := decide_eq_true g1
        have q2 : decide (a ≤ 10) = true := decide_eq_true g2
        have q3 := Lib.hid (show decide (1 ≤ a ∧ a ≤ 10) = true from decide_eq_true ⟨g1, g2⟩)
        have hdd : a - 1 = d := by rw [← hd, IntWalk.i64_in _ (by omega)]
        rw [q3.out]
        have m0 : IntKind.i64.wrap d = d := by rw [← hdd]; exact IntWalk.i64_in _ (by omega)
        clear hd WD g1 g2
        go_enter Try.func110, Try.ntmps110
        go_wp2_with fail
        refine (E.out _).mono ?_
        rintro e w1 ⟨rfl, rfl⟩
        cases qb
        all_goals
          go_wp2
          go_ret
          exact ⟨rfl, BW.out⟩
      · have q1 : decide (a ≥ 1) = true := decide_eq_true g1
        have q2 : decide (a ≤ 10) = false := decide_eq_false g2
        have q3 := Lib.hid (show decide (1 ≤ a ∧ a ≤ 10) = false from decide_eq_false (fun h => g2 h.2))
        rw [q3.out]
        clear hd WD g1 g2
        go_enter Try.func110, Try.ntmps110
        go_wp2
        go_ret
        exact ⟨rfl, BW.out⟩
    · have q1 : decide (a ≥ 1) = false := decide_eq_false g1
      have q3 := Lib.hid (show decide (1 ≤ a ∧ a ≤ 10) = false from decide_eq_false (fun h => g1 h.1))
      rw [q3.out]
      clear hd WD g1
      go_enter Try.func110, Try.ntmps110
      go_wp2
      go_ret
      exact ⟨rfl, BW.out⟩
  by_cases h4 : k = 4
  · subst h4
    have HR := Lib.hid (show setB 4 a b d = (aB 4 a && (b == 0)) by unfold setB; rw [← bB_o b d (by omega)]; simp [kB])
    obtain ⟨qa, hqa⟩ : ∃ q, aB 4 a = q := ⟨_, rfl⟩
    have E := Lib.hid (fun W => implInN_is ((aB_4 a).trans hqa) W)
    rw [HR.out, hqa]
    clear hd WD HR h2 h3 hqa
    cases qa <;> cases hb : (b == 0)
    all_goals
      go_enter Try.func110, Try.ntmps110
      go_wp2_with fail
      refine (E.out _).mono ?_
      rintro e w1 ⟨rfl, rfl⟩
      go_wp2
      go_ret
      exact ⟨rfl, BW.out⟩
  have HR := Lib.hid (show setB k a b d = (kB k && (a == 0) && (b == 0)) by unfold setB; rw [← bB_o b d h3, ← aB_o a h2 h3 h4])
  rw [HR.out]
  clear hd WD HR
  have d2 : (k == 2) = false := by simpa using h2
  have d3 : (k == 3) = false := by simpa using h3
  have d4 : (k == 4) = false := by simpa using h4
  by_cases hk : k = 1 ∨ k = 5 ∨ k = 6 ∨ k = 7 ∨ k = 8
  · have hkb : kB k = true := decide_eq_true (by omega)
    rw [hkb]
    clear hkb h2 h3 h4
    cases ha : (a == 0) <;> cases hb : (b == 0)
    all_goals
      rcases hk with rfl | rfl | rfl | rfl | rfl
      all_goals
        clear d2 d3 d4
        go_enter Try.func110, Try.ntmps110
        go_wp2
        go_ret
        exact ⟨rfl, BW.out⟩
  · have hkb : kB k = false := decide_eq_false (by omega)
    rw [hkb]
    have d1 : (k == 1) = false := by simp; omega
    have d5 : (k == 5) = false := by simp; omega
    have d6 : (k == 6) = false := by simp; omega
    have d7 : (k == 7) = false := by simp; omega
    have d8 : (k == 8) = false := by simp; omega
    clear hkb h2 h3 h4 hk
    go_enter Try.func110, Try.ntmps110
    go_wp2
    go_ret
    exact ⟨rfl, BW.out⟩

end Go.Proofs.Ytbbagpnjjjohpaa.hexes

