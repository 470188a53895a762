/-
  Changed on both sides.
-/
import Derived.Test.YtbbagpnjjjohpaaJ2
import Derived.Deep.RegionHeld3

namespace Go.Proofs.Ytbbagpnjjjohpaa.hexes
open Go.RowKit

/-- The node is right, and so are the key and the value. -/
def okC (k a b d key val : Int) (zs : List Int) : Bool := okNd k a b d zs && decide (0 ≤ key ∧ key ≤ 99) && decide (0 ≤ val ∧ val ≤ 999)
theorem specLessN_is (x y : Int) {z : Int} (h : (if y < x then y else x) = z) (W : World) : Calls Try.prog 87 #[.int .i64 x, .int .i64 y] W fun e w' => e = .returned (.int .i64 z) ∧ W = w' := by
  subst h
  by_cases hl : y < x
  · rw [if_pos hl]
    have dl : decide (y < x) = true := decide_eq_true hl
    clear hl
    go_enter Try.func87, Try.ntmps87
    go_wp2
    go_ret
    exact ⟨rfl, rfl⟩
  · rw [if_neg hl]
    have dl : decide (y < x) = false := decide_eq_false hl
    clear hl
    go_enter Try.func87, Try.ntmps87
    go_wp2
    go_ret
    exact ⟨rfl, rfl⟩

def chgK (c : Bool) (k a key : Int) : Int := if c = true ∧ k = 4 then (key + a) % 100 else key
def chgV (c : Bool) (k a val : Int) : Int := if c = true ∧ k = 2 then (if 999 < val + a then 999 else val + a) else val
def chgO (c : Bool) (k a b key : Int) : Bool := c && (if k = 3 then key % a == b else k != 8)

theorem okNd_a {k a b d : Int} {zs : List Int} (h : okNd k a b d zs = true) : (k = 2 → 0 ≤ a ∧ a ≤ 999) ∧ (k = 3 → 1 ≤ a ∧ a ≤ 10) ∧ (k = 4 → 0 ≤ a ∧ a ≤ 99) := by
  unfold okNd setB at h
  simp only [Bool.and_eq_true] at h
  have ha := h.1.1.2
  refine ⟨?_, ?_, ?_⟩
  · rintro rfl; rw [← aB_2] at ha; exact of_decide_eq_true ha
  · rintro rfl; rw [← aB_3] at ha; exact of_decide_eq_true ha
  · rintro rfl; rw [← aB_4] at ha; exact of_decide_eq_true ha

set_option maxRecDepth 100000 in
set_option maxHeartbeats 2000000 in
theorem specChg_any (k a b d key val : Int) (A : Option Addr) (n c : Nat) (zs : List Int) (hz : zs.length = n) (hd : IntKind.i64.wrap (a - 1) = d) (w : World) (h1 : Ints w A zs) (hn : n ≤ 1048576) {q : Bool} {rk rv : Int} {ro : Bool} (hq : okC k a b d key val zs = q) (hk : chgK q k a key = rk) (hv : chgV q k a val = rv) (ho : chgO q k a b key = ro) :
    Calls Try.prog 59 #[.agg #[.int .i64 k, .int .i64 a, .int .i64 b, .slice A n c], .int .i64 key, .int .i64 val] w fun e w' => e = .returned (.tuple #[.int .i64 rk, .int .i64 rv, .bool ro]) ∧ Below w.heap.size w w' := by
  obtain ⟨W, hW⟩ : ∃ W, w.alloc (.cells #[.int .i64 k, .int .i64 a, .int .i64 b, .slice A n c] 46) = W := ⟨_, rfl⟩
  have BW := (show Below w.heap.size w W by rw [← hW]; exact (Below.refl w.heap.size w).alloc (Nat.le_refl _) _)
  have KW := Lib.hid (show Blk W w.heap.size 46 #[.int .i64 k, .int .i64 a, .int .i64 b, .slice A n c] by rw [← hW]; exact Blk.new _ _ _)
  obtain ⟨q1, hq1⟩ : ∃ q1, okNd k a b d zs = q1 := ⟨_, rfl⟩
  obtain ⟨q2, hq2⟩ : ∃ q2, decide (0 ≤ key ∧ key ≤ 99) = q2 := ⟨_, rfl⟩
  obtain ⟨q3, hq3⟩ : ∃ q3, decide (0 ≤ val ∧ val ≤ 999) = q3 := ⟨_, rfl⟩
  have E1 := Lib.hid (show Calls Try.prog 63 #[.agg #[.int .i64 k, .int .i64 a, .int .i64 b, .slice A n c]] W fun e w' => e = .returned (.bool q1) ∧ Below W.heap.size W w' by rw [← hq1]; exact specNdOk_any k a b d A n c zs hz hd W (h1.below BW) hn)
  have E2 := Lib.hid (fun W => specInN_is hq2 W)
  have E3 := Lib.hid (fun W => specInN_is hq3 W)
  unfold okC at hq
  rw [hq1, hq2, hq3] at hq
  have HA := Lib.hid (fun h : q1 = true => okNd_a (hq1.trans h))
  have BB := Lib.hid BW
  have H2 := Lib.hid hq2
  have H3 := Lib.hid hq3
  have x0 : W.cell? ⟨w.heap.size, 0, none⟩ = some (.int .i64 k) := by rw [KW.out.cell]; rfl
  have x1 : W.cell? ⟨w.heap.size, 1, none⟩ = some (.int .i64 a) := by rw [KW.out.cell]; rfl
  have x2 : W.cell? ⟨w.heap.size, 2, none⟩ = some (.int .i64 b) := by rw [KW.out.cell]; rfl
  have x3 : W.cell? ⟨w.heap.size, 3, none⟩ = some (.slice A n c) := by rw [KW.out.cell]; rfl
  clear BW hz hd h1 hq1 hq2 hq3
  cases q1 with
  | false =>
    obtain rfl : q = false := by rw [← hq]; rfl
    obtain rfl : rk = key := by rw [← hk]; simp [chgK]
    obtain rfl : rv = val := by rw [← hv]; simp [chgV]
    obtain rfl : ro = false := by rw [← ho]; rfl
    clear hq hk hv ho
    go_enter Try.func59, Try.ntmps59
    go_wp2_with fail
    refine E1.out.mono ?_
    rintro e w1 ⟨rfl, hb⟩
    have B1 := Lib.hid (below_chain BB.out hb)
    clear hb x0 x1 x2 x3 hW
    go_wp2
    go_ret3
    exact ⟨rfl, B1.out⟩
  | true =>
  cases q2 with
  | false =>
    obtain rfl : q = false := by rw [← hq]; rfl
    obtain rfl : rk = key := by rw [← hk]; simp [chgK]
    obtain rfl : rv = val := by rw [← hv]; simp [chgV]
    obtain rfl : ro = false := by rw [← ho]; rfl
    clear hq hk hv ho
    go_enter Try.func59, Try.ntmps59
    go_wp2_with fail
    refine E1.out.mono ?_
    rintro e w1 ⟨rfl, hb⟩
    have B1 := Lib.hid (below_chain BB.out hb)
    clear hb x0 x1 x2 x3 hW
    go_wp2_with fail
    refine (E2.out _).mono ?_
    rintro e w2 ⟨rfl, rfl⟩
    go_wp2
    go_ret3
    exact ⟨rfl, B1.out⟩
  | true =>
  cases q3 with
  | false =>
    obtain rfl : q = false := by rw [← hq]; rfl
    obtain rfl : rk = key := by rw [← hk]; simp [chgK]
    obtain rfl : rv = val := by rw [← hv]; simp [chgV]
    obtain rfl : ro = false := by rw [← ho]; rfl
    clear hq hk hv ho
    go_enter Try.func59, Try.ntmps59
    go_wp2_with fail
    refine E1.out.mono ?_
    rintro e w1 ⟨rfl, hb⟩
    have B1 := Lib.hid (below_chain BB.out hb)
    clear hb x0 x1 x2 x3 hW
    go_wp2_with fail
    refine (E2.out _).mono ?_
    rintro e w2 ⟨rfl, rfl⟩
    go_wp2_with fail
    refine (E3.out _).mono ?_
    rintro e w2 ⟨rfl, rfl⟩
    go_wp2
    go_ret3
    exact ⟨rfl, B1.out⟩
  | true =>
  obtain rfl : q = true := by rw [← hq]; rfl
  have hkey := of_decide_eq_true H2.out
  have hval := of_decide_eq_true H3.out
  have ha := HA.out rfl
  clear hq HA H2 H3
  by_cases h2 : k = 2
  · subst h2
    obtain rfl : rk = key := by rw [← hk]; simp [chgK]
    obtain rfl : ro = true := by rw [← ho]; simp [chgO]
    have hrv : rv = if 999 < val + a then 999 else val + a := by rw [← hv]; simp [chgV]
    have hab := ha.1 rfl
    have m1 : IntKind.i64.wrap (val + a) = val + a := IntWalk.i64_in _ (by omega)
    have v0 := hval.1
    have v1 := hval.2
    have a0 := hab.1
    have a1 := hab.2
    clear hk hv ho hkey hval ha hab
    by_cases hl : 999 < val + a
    · rw [if_pos hl] at hrv
      subst hrv
      have HL := Lib.hid hl
      have dl : decide (999 < val + a) = true := decide_eq_true hl
      have dm : min (val + a) 999 = 999 := by omega
      go_enter Try.func59, Try.ntmps59
      go_wp2_with fail
      refine E1.out.mono ?_
      rintro e w1 ⟨rfl, hb⟩
      have B1 := Lib.hid (below_chain BB.out hb)
      have K1 := Lib.hid (KW.out.below hb)
      clear hb x0 x1 x2 x3 hW
      have x0 : w1.cell? ⟨w.heap.size, 0, none⟩ = some (.int .i64 2) := by rw [K1.out.cell]; rfl
      have x1 : w1.cell? ⟨w.heap.size, 1, none⟩ = some (.int .i64 a) := by rw [K1.out.cell]; rfl
      have x2 : w1.cell? ⟨w.heap.size, 2, none⟩ = some (.int .i64 b) := by rw [K1.out.cell]; rfl
      go_wp2_with fail
      refine (E2.out _).mono ?_
      rintro e w2 ⟨rfl, rfl⟩
      go_wp2_with fail
      refine (E3.out _).mono ?_
      rintro e w2 ⟨rfl, rfl⟩
      go_wp2_with fail
      refine (specLessN_is _ _ (if_pos (by have := HL.out; omega)) _).mono ?_
      rintro e w3 ⟨rfl, rfl⟩
      go_wp2
      go_ret3
      exact ⟨rfl, B1.out⟩
    · rw [if_neg hl] at hrv
      subst hrv
      have HL := Lib.hid hl
      have dl : decide (999 < val + a) = false := decide_eq_false hl
      have dm : min (val + a) 999 = val + a := by omega
      go_enter Try.func59, Try.ntmps59
      go_wp2_with fail
      refine E1.out.mono ?_
      rintro e w1 ⟨rfl, hb⟩
      have B1 := Lib.hid (below_chain BB.out hb)
      have K1 := Lib.hid (KW.out.below hb)
      clear hb x0 x1 x2 x3 hW
      have x0 : w1.cell? ⟨w.heap.size, 0, none⟩ = some (.int .i64 2) := by rw [K1.out.cell]; rfl
      have x1 : w1.cell? ⟨w.heap.size, 1, none⟩ = some (.int .i64 a) := by rw [K1.out.cell]; rfl
      have x2 : w1.cell? ⟨w.heap.size, 2, none⟩ = some (.int .i64 b) := by rw [K1.out.cell]; rfl
      go_wp2_with fail
      refine (E2.out _).mono ?_
      rintro e w2 ⟨rfl, rfl⟩
      go_wp2_with fail
      refine (E3.out _).mono ?_
      rintro e w2 ⟨rfl, rfl⟩
      go_wp2_with fail
      refine (specLessN_is _ _ (if_neg (by have := HL.out; omega)) _).mono ?_
      rintro e w3 ⟨rfl, rfl⟩
      go_wp2
      go_ret3
      exact ⟨rfl, B1.out⟩
  by_cases h3 : k = 3
  · subst h3
    obtain rfl : rk = key := by rw [← hk]; simp [chgK]
    obtain rfl : rv = val := by rw [← hv]; simp [chgV]
    obtain rfl : ro = (rk % a == b) := by rw [← ho]; simp [chgO]
    have hab := ha.2.1 rfl
    have a0 : ¬a = 0 := by omega
    obtain ⟨t, ht⟩ : ∃ t, rk.tmod a = t := ⟨_, rfl⟩
    have htm : rk % a = t := by rw [← ht, Int.tmod_eq_emod_of_nonneg hkey.1]
    have hb0 := Int.emod_nonneg rk a0
    have hb1 := Int.emod_lt_of_pos rk (show 0 < a by omega)
    have m1 : IntKind.i64.wrap t = t := IntWalk.i64_in _ (by omega)
    rw [htm]
    clear hk hv ho hkey hval ha hab htm hb0 hb1 h2
    go_enter Try.func59, Try.ntmps59
    go_wp2_with fail
    refine E1.out.mono ?_
    rintro e w1 ⟨rfl, hb⟩
    have B1 := Lib.hid (below_chain BB.out hb)
    have K1 := Lib.hid (KW.out.below hb)
    clear hb x0 x1 x2 x3 hW
    have x0 : w1.cell? ⟨w.heap.size, 0, none⟩ = some (.int .i64 3) := by rw [K1.out.cell]; rfl
    have x1 : w1.cell? ⟨w.heap.size, 1, none⟩ = some (.int .i64 a) := by rw [K1.out.cell]; rfl
    have x2 : w1.cell? ⟨w.heap.size, 2, none⟩ = some (.int .i64 b) := by rw [K1.out.cell]; rfl
    go_wp2_with fail
    refine (E2.out _).mono ?_
    rintro e w2 ⟨rfl, rfl⟩
    go_wp2_with fail
    refine (E3.out _).mono ?_
    rintro e w2 ⟨rfl, rfl⟩
    go_wp2_with fail
    go_quiet (fail)
    go_wp2
    go_ret3
    exact ⟨rfl, belowN B1.out _⟩
  by_cases h4 : k = 4
  · subst h4
    obtain rfl : rv = val := by rw [← hv]; simp [chgV]
    obtain rfl : ro = true := by rw [← ho]; simp [chgO]
    have hrk : rk = (key + a) % 100 := by rw [← hk]; simp [chgK]
    have hab := ha.2.2 rfl
    obtain ⟨t, ht⟩ : ∃ t, (key + a) % 100 = t := ⟨_, rfl⟩
    have m1 : IntKind.i64.wrap (key + a) = key + a := IntWalk.i64_in _ (by omega)
    have m0 : 0 ≤ key + a := by omega
    have k0 := hkey.1
    have k1 := hkey.2
    have a0 := hab.1
    have a1 := hab.2
    rw [hrk]
    clear hk hv ho hkey hval ha hab h2 h3 ht hrk
    go_enter Try.func59, Try.ntmps59
    go_wp2_with fail
    refine E1.out.mono ?_
    rintro e w1 ⟨rfl, hb⟩
    have B1 := Lib.hid (below_chain BB.out hb)
    have K1 := Lib.hid (KW.out.below hb)
    clear hb x0 x1 x2 x3 hW
    have x0 : w1.cell? ⟨w.heap.size, 0, none⟩ = some (.int .i64 4) := by rw [K1.out.cell]; rfl
    have x1 : w1.cell? ⟨w.heap.size, 1, none⟩ = some (.int .i64 a) := by rw [K1.out.cell]; rfl
    have x2 : w1.cell? ⟨w.heap.size, 2, none⟩ = some (.int .i64 b) := by rw [K1.out.cell]; rfl
    go_wp2_with fail
    refine (E2.out _).mono ?_
    rintro e w2 ⟨rfl, rfl⟩
    go_wp2_with fail
    refine (E3.out _).mono ?_
    rintro e w2 ⟨rfl, rfl⟩
    go_wp2
    go_ret3
    exact ⟨rfl, B1.out⟩
  obtain rfl : rk = key := by rw [← hk]; simp [chgK, h4]
  obtain rfl : rv = val := by rw [← hv]; simp [chgV, h2]
  obtain rfl : ro = (k != 8) := by rw [← ho]; simp [chgO, h3]
  have d2 : (k == 2) = false := by simpa using h2
  have d3 : (k == 3) = false := by simpa using h3
  have d4 : (k == 4) = false := by simpa using h4
  clear hk hv ho hkey hval ha h2 h3 h4
  go_enter Try.func59, Try.ntmps59
  go_wp2_with fail
  refine E1.out.mono ?_
  rintro e w1 ⟨rfl, hb⟩
  have B1 := Lib.hid (below_chain BB.out hb)
  have K1 := Lib.hid (KW.out.below hb)
  clear hb x0 x1 x2 x3 hW
  have x0 : w1.cell? ⟨w.heap.size, 0, none⟩ = some (.int .i64 k) := by rw [K1.out.cell]; rfl
  have x1 : w1.cell? ⟨w.heap.size, 1, none⟩ = some (.int .i64 a) := by rw [K1.out.cell]; rfl
  have x2 : w1.cell? ⟨w.heap.size, 2, none⟩ = some (.int .i64 b) := by rw [K1.out.cell]; rfl
  go_wp2_with fail
  refine (E2.out _).mono ?_
  rintro e w2 ⟨rfl, rfl⟩
  go_wp2_with fail
  refine (E3.out _).mono ?_
  rintro e w2 ⟨rfl, rfl⟩
  go_wp2_with fail
  go_quiet (fail)
  go_wp2
  go_ret3
  exact ⟨rfl, belowN B1.out _⟩

set_option maxRecDepth 100000 in
set_option maxHeartbeats 2000000 in
theorem implChg_any (k a b d key val : Int) (A : Option Addr) (n c : Nat) (zs : List Int) (hz : zs.length = n) (hc : n ≤ c) (hd : IntKind.i64.wrap (a - 1) = d) (w : World) (h1 : Ints w A zs) (hn : n ≤ 1048576) {q : Bool} {rk rv : Int} {ro : Bool} (hq : okC k a b d key val zs = q) (hk : chgK q k a key = rk) (hv : chgV q k a val = rv) (ho : chgO q k a b key = ro) :
    Calls Try.prog 107 #[.agg #[.int .i64 k, .int .i64 a, .int .i64 b, .slice A n c], .int .i64 key, .int .i64 val] w fun e w' => e = .returned (.tuple #[.int .i64 rk, .int .i64 rv, .bool ro]) ∧ Below w.heap.size w w' := by
  obtain ⟨W, hW⟩ : ∃ W, w.alloc (.cells #[.int .i64 k, .int .i64 a, .int .i64 b, .slice A n c] 46) = W := ⟨_, rfl⟩
  have BW := (show Below w.heap.size w W by rw [← hW]; exact (Below.refl w.heap.size w).alloc (Nat.le_refl _) _)
  have KW := Lib.hid (show Blk W w.heap.size 46 #[.int .i64 k, .int .i64 a, .int .i64 b, .slice A n c] by rw [← hW]; exact Blk.new _ _ _)
  obtain ⟨q1, hq1⟩ : ∃ q1, okNd k a b d zs = q1 := ⟨_, rfl⟩
  obtain ⟨q2, hq2⟩ : ∃ q2, decide (0 ≤ key ∧ key ≤ 99) = q2 := ⟨_, rfl⟩
  obtain ⟨q3, hq3⟩ : ∃ q3, decide (0 ≤ val ∧ val ≤ 999) = q3 := ⟨_, rfl⟩
  have E1 := Lib.hid (show Calls Try.prog 89 #[.agg #[.int .i64 k, .int .i64 a, .int .i64 b, .slice A n c]] W fun e w' => e = .returned (.bool q1) ∧ Below W.heap.size W w' by rw [← hq1]; exact implNdOk_any k a b d A n c zs hz hc hd W (h1.below BW) hn)
  have E2 := Lib.hid (fun W => implInN_is hq2 W)
  have E3 := Lib.hid (fun W => implInN_is hq3 W)
  unfold okC at hq
  rw [hq1, hq2, hq3] at hq
  have HA := Lib.hid (fun h : q1 = true => okNd_a (hq1.trans h))
  have BB := Lib.hid BW
  have H2 := Lib.hid hq2
  have H3 := Lib.hid hq3
  have x0 : W.cell? ⟨w.heap.size, 0, none⟩ = some (.int .i64 k) := by rw [KW.out.cell]; rfl
  have x1 : W.cell? ⟨w.heap.size, 1, none⟩ = some (.int .i64 a) := by rw [KW.out.cell]; rfl
  have x2 : W.cell? ⟨w.heap.size, 2, none⟩ = some (.int .i64 b) := by rw [KW.out.cell]; rfl
  have x3 : W.cell? ⟨w.heap.size, 3, none⟩ = some (.slice A n c) := by rw [KW.out.cell]; rfl
  clear BW hz hd h1 hq1 hq2 hq3 hc
  cases q1 with
  | false =>
    obtain rfl : q = false := by rw [← hq]; rfl
    obtain rfl : rk = key := by rw [← hk]; simp [chgK]
    obtain rfl : rv = val := by rw [← hv]; simp [chgV]
    obtain rfl : ro = false := by rw [← ho]; rfl
    clear hq hk hv ho
    go_enter Try.func107, Try.ntmps107
    go_wp2_with fail
    refine E1.out.mono ?_
    rintro e w1 ⟨rfl, hb⟩
    have B1 := Lib.hid (below_chain BB.out hb)
    clear hb x0 x1 x2 x3 hW
    go_wp2
    go_ret3
    exact ⟨rfl, B1.out⟩
  | true =>
  cases q2 with
  | false =>
    obtain rfl : q = false := by rw [← hq]; rfl
    obtain rfl : rk = key := by rw [← hk]; simp [chgK]
    obtain rfl : rv = val := by rw [← hv]; simp [chgV]
    obtain rfl : ro = false := by rw [← ho]; rfl
    clear hq hk hv ho
    go_enter Try.func107, Try.ntmps107
    go_wp2_with fail
    refine E1.out.mono ?_
    rintro e w1 ⟨rfl, hb⟩
    have B1 := Lib.hid (below_chain BB.out hb)
    clear hb x0 x1 x2 x3 hW
    go_wp2_with fail
    refine (E2.out _).mono ?_
    rintro e w2 ⟨rfl, rfl⟩
    go_wp2
    go_ret3
    exact ⟨rfl, B1.out⟩
  | true =>
  cases q3 with
  | false =>
    obtain rfl : q = false := by rw [← hq]; rfl
    obtain rfl : rk = key := by rw [← hk]; simp [chgK]
    obtain rfl : rv = val := by rw [← hv]; simp [chgV]
    obtain rfl : ro = false := by rw [← ho]; rfl
    clear hq hk hv ho
    go_enter Try.func107, Try.ntmps107
    go_wp2_with fail
    refine E1.out.mono ?_
    rintro e w1 ⟨rfl, hb⟩
    have B1 := Lib.hid (below_chain BB.out hb)
    clear hb x0 x1 x2 x3 hW
    go_wp2_with fail
    refine (E2.out _).mono ?_
    rintro e w2 ⟨rfl, rfl⟩
    go_wp2_with fail
    refine (E3.out _).mono ?_
    rintro e w2 ⟨rfl, rfl⟩
    go_wp2
    go_ret3
    exact ⟨rfl, B1.out⟩
  | true =>
  obtain rfl : q = true := by rw [← hq]; rfl
  have hkey := of_decide_eq_true H2.out
  have hval := of_decide_eq_true H3.out
  have ha := HA.out rfl
  clear hq HA H2 H3
  by_cases h2 : k = 2
  · subst h2
    obtain rfl : rk = key := by rw [← hk]; simp [chgK]
    obtain rfl : ro = true := by rw [← ho]; simp [chgO]
    have hrv : rv = if 999 < val + a then 999 else val + a := by rw [← hv]; simp [chgV]
    have hab := ha.1 rfl
    have m1 : IntKind.i64.wrap (val + a) = val + a := IntWalk.i64_in _ (by omega)
    have v0 := hval.1
    have v1 := hval.2
    have a0 := hab.1
    have a1 := hab.2
    clear hk hv ho hkey hval ha hab
    by_cases hl : 999 < val + a
    · rw [if_pos hl] at hrv
      subst hrv
      have HL := Lib.hid hl
      have dl : decide (999 < val + a) = true := decide_eq_true hl
      have dm : min (val + a) 999 = 999 := by omega
      go_enter Try.func107, Try.ntmps107
      go_wp2_with fail
      refine E1.out.mono ?_
      rintro e w1 ⟨rfl, hb⟩
      have B1 := Lib.hid (below_chain BB.out hb)
      have K1 := Lib.hid (KW.out.below hb)
      clear hb x0 x1 x2 x3 hW
      have x0 : w1.cell? ⟨w.heap.size, 0, none⟩ = some (.int .i64 2) := by rw [K1.out.cell]; rfl
      have x1 : w1.cell? ⟨w.heap.size, 1, none⟩ = some (.int .i64 a) := by rw [K1.out.cell]; rfl
      have x2 : w1.cell? ⟨w.heap.size, 2, none⟩ = some (.int .i64 b) := by rw [K1.out.cell]; rfl
      go_wp2_with fail
      refine (E2.out _).mono ?_
      rintro e w2 ⟨rfl, rfl⟩
      go_wp2_with fail
      refine (E3.out _).mono ?_
      rintro e w2 ⟨rfl, rfl⟩
      go_wp2_with fail
      go_quiet (fail)
      go_wp2
      go_ret3
      exact ⟨rfl, belowN B1.out _⟩
    · rw [if_neg hl] at hrv
      subst hrv
      have HL := Lib.hid hl
      have dl : decide (999 < val + a) = false := decide_eq_false hl
      have dm : min (val + a) 999 = val + a := by omega
      go_enter Try.func107, Try.ntmps107
      go_wp2_with fail
      refine E1.out.mono ?_
      rintro e w1 ⟨rfl, hb⟩
      have B1 := Lib.hid (below_chain BB.out hb)
      have K1 := Lib.hid (KW.out.below hb)
      clear hb x0 x1 x2 x3 hW
      have x0 : w1.cell? ⟨w.heap.size, 0, none⟩ = some (.int .i64 2) := by rw [K1.out.cell]; rfl
      have x1 : w1.cell? ⟨w.heap.size, 1, none⟩ = some (.int .i64 a) := by rw [K1.out.cell]; rfl
      have x2 : w1.cell? ⟨w.heap.size, 2, none⟩ = some (.int .i64 b) := by rw [K1.out.cell]; rfl
      go_wp2_with fail
      refine (E2.out _).mono ?_
      rintro e w2 ⟨rfl, rfl⟩
      go_wp2_with fail
      refine (E3.out _).mono ?_
      rintro e w2 ⟨rfl, rfl⟩
      go_wp2_with fail
      go_quiet (fail)
      go_wp2
      go_ret3
      exact ⟨rfl, belowN B1.out _⟩
  by_cases h3 : k = 3
  · subst h3
    obtain rfl : rk = key := by rw [← hk]; simp [chgK]
    obtain rfl : rv = val := by rw [← hv]; simp [chgV]
    obtain rfl : ro = (rk % a == b) := by rw [← ho]; simp [chgO]
    have hab := ha.2.1 rfl
    have a0 : ¬a = 0 := by omega
    obtain ⟨t, ht⟩ : ∃ t, rk.tmod a = t := ⟨_, rfl⟩
    have htm : rk % a = t := by rw [← ht, Int.tmod_eq_emod_of_nonneg hkey.1]
    have hb0 := Int.emod_nonneg rk a0
    have hb1 := Int.emod_lt_of_pos rk (show 0 < a by omega)
    have m1 : IntKind.i64.wrap t = t := IntWalk.i64_in _ (by omega)
    rw [htm]
    clear hk hv ho hkey hval ha hab htm hb0 hb1 h2
    go_enter Try.func107, Try.ntmps107
    go_wp2_with fail
    refine E1.out.mono ?_
    rintro e w1 ⟨rfl, hb⟩
    have B1 := Lib.hid (below_chain BB.out hb)
    have K1 := Lib.hid (KW.out.below hb)
    clear hb x0 x1 x2 x3 hW
    have x0 : w1.cell? ⟨w.heap.size, 0, none⟩ = some (.int .i64 3) := by rw [K1.out.cell]; rfl
    have x1 : w1.cell? ⟨w.heap.size, 1, none⟩ = some (.int .i64 a) := by rw [K1.out.cell]; rfl
    have x2 : w1.cell? ⟨w.heap.size, 2, none⟩ = some (.int .i64 b) := by rw [K1.out.cell]; rfl
    go_wp2_with fail
    refine (E2.out _).mono ?_
    rintro e w2 ⟨rfl, rfl⟩
    go_wp2_with fail
    refine (E3.out _).mono ?_
    rintro e w2 ⟨rfl, rfl⟩
    go_wp2_with fail
    go_quiet (fail)
    go_wp2
    go_ret3
    exact ⟨rfl, belowN B1.out _⟩
  by_cases h4 : k = 4
  · subst h4
    obtain rfl : rv = val := by rw [← hv]; simp [chgV]
    obtain rfl : ro = true := by rw [← ho]; simp [chgO]
    have hrk : rk = (key + a) % 100 := by rw [← hk]; simp [chgK]
    have hab := ha.2.2 rfl
    obtain ⟨t, ht⟩ : ∃ t, (key + a) % 100 = t := ⟨_, rfl⟩
    have m1 : IntKind.i64.wrap (key + a) = key + a := IntWalk.i64_in _ (by omega)
    have m0 : 0 ≤ key + a := by omega
    have k0 := hkey.1
    have k1 := hkey.2
    have a0 := hab.1
    have a1 := hab.2
    rw [hrk]
    clear hk hv ho hkey hval ha hab h2 h3 ht hrk
    go_enter Try.func107, Try.ntmps107
    go_wp2_with fail
    refine E1.out.mono ?_
    rintro e w1 ⟨rfl, hb⟩
    have B1 := Lib.hid (below_chain BB.out hb)
    have K1 := Lib.hid (KW.out.below hb)
    clear hb x0 x1 x2 x3 hW
    have x0 : w1.cell? ⟨w.heap.size, 0, none⟩ = some (.int .i64 4) := by rw [K1.out.cell]; rfl
    have x1 : w1.cell? ⟨w.heap.size, 1, none⟩ = some (.int .i64 a) := by rw [K1.out.cell]; rfl
    have x2 : w1.cell? ⟨w.heap.size, 2, none⟩ = some (.int .i64 b) := by rw [K1.out.cell]; rfl
    go_wp2_with fail
    refine (E2.out _).mono ?_
    rintro e w2 ⟨rfl, rfl⟩
    go_wp2_with fail
    refine (E3.out _).mono ?_
    rintro e w2 ⟨rfl, rfl⟩
    go_wp2
    go_ret3
    exact ⟨rfl, B1.out⟩
  obtain rfl : rk = key := by rw [← hk]; simp [chgK, h4]
  obtain rfl : rv = val := by rw [← hv]; simp [chgV, h2]
  obtain rfl : ro = (k != 8) := by rw [← ho]; simp [chgO, h3]
  have d2 : (k == 2) = false := by simpa using h2
  have d3 : (k == 3) = false := by simpa using h3
  have d4 : (k == 4) = false := by simpa using h4
  clear hk hv ho hkey hval ha h2 h3 h4
  by_cases h8 : k = 8
  · subst h8
    clear d2 d3 d4
    go_enter Try.func107, Try.ntmps107
    go_wp2_with fail
    refine E1.out.mono ?_
    rintro e w1 ⟨rfl, hb⟩
    have B1 := Lib.hid (below_chain BB.out hb)
    have K1 := Lib.hid (KW.out.below hb)
    clear hb x0 x1 x2 x3 hW
    have x0 : w1.cell? ⟨w.heap.size, 0, none⟩ = some (.int .i64 8) := by rw [K1.out.cell]; rfl
    have x1 : w1.cell? ⟨w.heap.size, 1, none⟩ = some (.int .i64 a) := by rw [K1.out.cell]; rfl
    have x2 : w1.cell? ⟨w.heap.size, 2, none⟩ = some (.int .i64 b) := by rw [K1.out.cell]; rfl
    go_wp2_with fail
    refine (E2.out _).mono ?_
    rintro e w2 ⟨rfl, rfl⟩
    go_wp2_with fail
    refine (E3.out _).mono ?_
    rintro e w2 ⟨rfl, rfl⟩
    go_wp2
    go_ret3
    exact ⟨rfl, B1.out⟩
  · have d8 : (k == 8) = false := by simpa using h8
    have D8 := Lib.hid (show (k != 8) = true by simpa using h8)
    clear h8
    go_enter Try.func107, Try.ntmps107
    go_wp2_with fail
    refine E1.out.mono ?_
    rintro e w1 ⟨rfl, hb⟩
    have B1 := Lib.hid (below_chain BB.out hb)
    have K1 := Lib.hid (KW.out.below hb)
    clear hb x0 x1 x2 x3 hW
    have x0 : w1.cell? ⟨w.heap.size, 0, none⟩ = some (.int .i64 k) := by rw [K1.out.cell]; rfl
    have x1 : w1.cell? ⟨w.heap.size, 1, none⟩ = some (.int .i64 a) := by rw [K1.out.cell]; rfl
    have x2 : w1.cell? ⟨w.heap.size, 2, none⟩ = some (.int .i64 b) := by rw [K1.out.cell]; rfl
    go_wp2_with fail
    refine (E2.out _).mono ?_
    rintro e w2 ⟨rfl, rfl⟩
    go_wp2_with fail
    refine (E3.out _).mono ?_
    rintro e w2 ⟨rfl, rfl⟩
    go_wp2
    go_ret3
    exact ⟨by simp [D8.out], B1.out⟩

end Go.Proofs.Ytbbagpnjjjohpaa.hexes

