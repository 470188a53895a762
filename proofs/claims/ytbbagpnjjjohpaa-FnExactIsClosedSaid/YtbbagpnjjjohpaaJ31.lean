/-
  The program's LeastOf and CellsOf: the contracts of (impl.Cell).sharesKey, impl.LeastOf and impl.CellsOf.
  The program's NoWorse: the contract of impl.NoWorse.
  NoWorse's contract with the answer behind a variable.
  Chapter 5's plain functions of the program: the contracts of impl.OwnerOf and impl.RecordOk.
-/
import Derived.Test.YtbbagpnjjjohpaaJ16
import Derived.Test.YtbbagpnjjjohpaaJ19
import Derived.Test.YtbbagpnjjjohpaaJ14
import Derived.Test.YtbbagpnjjjohpaaJ25
import Derived.OpenShut

namespace Go.Proofs.Ytbbagpnjjjohpaa.hexes
open Go.RowKit

set_option maxRecDepth 100000 in
theorem shares_any (a0 a1 a2 a3 b0 b1 b2 b3 : Int) (w : World) :
    Calls Try.prog 91 #[.agg #[.int .i64 a0, .int .i64 a1, .int .i64 a2, .int .i64 a3], .agg #[.int .i64 b0, .int .i64 b1, .int .i64 b2, .int .i64 b3]] w fun e w' => e = .returned (.bool (decide (a0 = b0 ∧ a1 = b1 ∧ a2 = b2))) ∧ Below w.heap.size w w' := by
  have HB := Lib.hid (show Below w.heap.size w ((w.alloc (.cells #[.int .i64 a0, .int .i64 a1, .int .i64 a2, .int .i64 a3] 38)).alloc (.cells #[.int .i64 b0, .int .i64 b1, .int .i64 b2, .int .i64 b3] 38)) from ((Below.refl _ _).alloc (by simp) _).alloc (by simp) _)
  by_cases h0 : a0 = b0
  rotate_left
  · have d0 : (a0 == b0) = false := by simpa using h0
    have H := Lib.hid (show false = decide (a0 = b0 ∧ a1 = b1 ∧ a2 = b2) by simp [h0])
    clear h0
    go_enter Try.func91, Try.ntmps91
    go_wp2
    go_ret
    exact ⟨congrArg (fun b => Ending.returned (Value.bool b)) H.out, HB.out⟩
  have d0 : (a0 == b0) = true := by simpa using h0
  by_cases h1 : a1 = b1
  rotate_left
  · have d1 : (a1 == b1) = false := by simpa using h1
    have H := Lib.hid (show false = decide (a0 = b0 ∧ a1 = b1 ∧ a2 = b2) by simp [h1])
    clear h0 h1
    go_enter Try.func91, Try.ntmps91
    go_wp2
    go_ret
    exact ⟨congrArg (fun b => Ending.returned (Value.bool b)) H.out, HB.out⟩
  have d1 : (a1 == b1) = true := by simpa using h1
  by_cases h2 : a2 = b2
  · have d2 : (a2 == b2) = true := by simpa using h2
    have H := Lib.hid (show true = decide (a0 = b0 ∧ a1 = b1 ∧ a2 = b2) by simp [h0, h1, h2])
    clear h0 h1 h2
    go_enter Try.func91, Try.ntmps91
    go_wp2
    go_ret
    exact ⟨congrArg (fun b => Ending.returned (Value.bool b)) H.out, HB.out⟩
  · have d2 : (a2 == b2) = false := by simpa using h2
    have H := Lib.hid (show false = decide (a0 = b0 ∧ a1 = b1 ∧ a2 = b2) by simp [h2])
    clear h0 h1 h2
    go_enter Try.func91, Try.ntmps91
    go_wp2
    go_ret
    exact ⟨congrArg (fun b => Ending.returned (Value.bool b)) H.out, HB.out⟩
theorem shares_is {a0 a1 a2 a3 b0 b1 b2 b3 : Int} {r : Bool} (h : decide (a0 = b0 ∧ a1 = b1 ∧ a2 = b2) = r) (W : World) : Calls Try.prog 91 #[.agg #[.int .i64 a0, .int .i64 a1, .int .i64 a2, .int .i64 a3], .agg #[.int .i64 b0, .int .i64 b1, .int .i64 b2, .int .i64 b3]] W fun e w' => e = .returned (.bool r) ∧ Below W.heap.size W w' := by
  subst h; exact shares_any _ _ _ _ _ _ _ _ W

set_option maxRecDepth 100000 in
set_option maxHeartbeats 4000000 in
theorem implLeast_any (n : Nat) (zs : List Ce) (hz : zs.length = n) (A : Option Addr) (c : Nat) (o ep ky : Int) (w : World) (h1 : Ces w A zs) (hn : n ≤ 4194304) :
    Calls Try.prog 61 #[.slice A n c, .int .i64 o, .int .i64 ep, .int .i64 ky] w fun e w' => e = .returned (.tuple #[.int .i64 (leastC zs o ep ky).1, .bool (leastC zs o ep ky).2]) ∧ Below w.heap.size w w' := by
  have H1 := Lib.hid h1
  have HZ := Lib.hid hz
  clear h1 hz
  go_enter Try.func61, Try.ntmps61
  go_wp2
  go_loopw [11, 12, 21] (fun a b i wr => ∃ (k : Nat) (m : Int) (sm : Bool), k ≤ n ∧ i = .int .i64 k ∧ a = .int .i64 m ∧ b = .bool sm ∧ leastC (zs.take k) o ep ky = (m, sm) ∧ Below w.heap.size w wr ∧ XB w.heap.size o ep ky 0 wr) (fun _ _ i _ => n - (intOf i).toNat)
  case atStart => exact ⟨0, 0, false, Nat.zero_le _, rfl, rfl, rfl, rfl, (Below.refl _ _).alloc (Nat.le_refl _) _, ⟨by simp, by simp, by simp, by simp⟩⟩
  case round =>
    obtain ⟨k, m, sm, hk, rfl, rfl, rfl, ht, hb, hx⟩ := hrel
    have HT := Lib.hid ht
    have HB := Lib.hid hb
    have HX := Lib.hid hx
    clear ht hx
    by_cases hlt : k < n
    · have l1 : k < zs.length := by rw [HZ.out]; exact hlt
      obtain ⟨b1, o1, p0, p1, p2, p3, rfl, x1, e0, e1, e2, e3⟩ := (H1.out.below hb).at l1
      have i0 : (0 : Int) ≤ (k : Int) := by omega
      have i1 : (k : Int) < (n : Int) := by omega
      obtain ⟨W, hW⟩ : ∃ z, wr.alloc (.cells #[.int .i64 p0, .int .i64 p1, .int .i64 p2, .int .i64 p3] 38) = z := ⟨_, rfl⟩
      have BW := Lib.hid (show Below w.heap.size w W by rw [← hW]; exact hb.alloc hb.size _)
      have XW := Lib.hid (show XB w.heap.size o ep ky 0 W by rw [← hW]; exact HX.out.below ((Below.refl _ _).alloc (Nat.le_refl _) _))
      have KW := Lib.hid (show Blk W wr.heap.size 38 #[.int .i64 p0, .int .i64 p1, .int .i64 p2, .int .i64 p3] by rw [← hW]; exact Blk.new _ _ _)
      have k0 : W.cell? ⟨wr.heap.size, 0, none⟩ = some (.int .i64 p0) := by rw [KW.out.cell]; rfl
      have k1 : W.cell? ⟨wr.heap.size, 1, none⟩ = some (.int .i64 p1) := by rw [KW.out.cell]; rfl
      have k2 : W.cell? ⟨wr.heap.size, 2, none⟩ = some (.int .i64 p2) := by rw [KW.out.cell]; rfl
      have k3 : W.cell? ⟨wr.heap.size, 3, none⟩ = some (.int .i64 p3) := by rw [KW.out.cell]; rfl
      have c0 := XW.out.c0
      have c1 := XW.out.c1
      have c2 := XW.out.c2
      have c3 := XW.out.c3
      have ST := Lib.hid (show leastC (zs.take (k + 1)) o ep ky = leastStep o ep ky (m, sm) (p0, p1, p2, p3) by rw [least_step l1, HT.out, x1])
      clear hb x1 HT l1
      by_cases hs : p0 = o ∧ p1 = ep ∧ p2 = ky
      rotate_left
      · have HS := Lib.hid (show leastC (zs.take (k + 1)) o ep ky = (m, sm) by rw [ST.out]; simp [leastStep, keyC, hs])
        have E := Lib.hid (fun W => shares_is (a0 := p0) (a1 := p1) (a2 := p2) (a3 := p3) (b0 := o) (b1 := ep) (b2 := ky) (b3 := 0) (r := false) (decide_eq_false hs) W)
        clear ST hs
        go_wp2_with fail
        clear hW
        refine (E.out _).mono ?_
        rintro e w5 ⟨rfl, b5⟩
        have B5 := Lib.hid (below_chain BW.out b5)
        have X5 := Lib.hid (XW.out.below b5)
        have K5 := KW.out.below b5
        have m3 : w5.cell? ⟨wr.heap.size, 3, none⟩ = some (.int .i64 p3) := by rw [K5.cell]; rfl
        clear b5 E K5 k0 k1 k2 k3 c0 c1 c2 c3 e0 e1 e2 e3 BW XW KW HB HX W
        go_wp2
        go_roundw
        case rel => exact ⟨k + 1, m, sm, by omega, by go_num, rfl, rfl, HS.out, B5.out, X5.out⟩
        case measure => simp [intOf]; omega
      have E := Lib.hid (fun W => shares_is (a0 := p0) (a1 := p1) (a2 := p2) (a3 := p3) (b0 := o) (b1 := ep) (b2 := ky) (b3 := 0) (r := true) (decide_eq_true hs) W)
      cases sm with
      | false =>
        have HS := Lib.hid (show leastC (zs.take (k + 1)) o ep ky = (p3, true) by rw [ST.out]; simp [leastStep, keyC, hs])
        clear ST hs
        go_wp2_with fail
        clear hW
        refine (E.out _).mono ?_
        rintro e w5 ⟨rfl, b5⟩
        have B5 := Lib.hid (below_chain BW.out b5)
        have X5 := Lib.hid (XW.out.below b5)
        have K5 := KW.out.below b5
        have m3 : w5.cell? ⟨wr.heap.size, 3, none⟩ = some (.int .i64 p3) := by rw [K5.cell]; rfl
        clear b5 E K5 k0 k1 k2 k3 c0 c1 c2 c3 e0 e1 e2 e3 BW XW KW HB HX W
        go_wp2
        go_roundw
        case rel => exact ⟨k + 1, p3, true, by omega, by go_num, rfl, rfl, HS.out, B5.out, X5.out⟩
        case measure => simp [intOf]; omega
      | true =>
        by_cases h3 : p3 < m
        · have HS := Lib.hid (show leastC (zs.take (k + 1)) o ep ky = (p3, true) by rw [ST.out]; simp [leastStep, keyC, hs, h3])
          have d3 : decide (p3 < m) = true := decide_eq_true h3
          clear ST hs h3
          go_wp2_with fail
          clear hW
          refine (E.out _).mono ?_
          rintro e w5 ⟨rfl, b5⟩
          have B5 := Lib.hid (below_chain BW.out b5)
          have X5 := Lib.hid (XW.out.below b5)
          have K5 := KW.out.below b5
          have m3 : w5.cell? ⟨wr.heap.size, 3, none⟩ = some (.int .i64 p3) := by rw [K5.cell]; rfl
          clear b5 E K5 k0 k1 k2 k3 c0 c1 c2 c3 e0 e1 e2 e3 BW XW KW HB HX W
          go_wp2
          go_roundw
          case rel => exact ⟨k + 1, p3, true, by omega, by go_num, rfl, rfl, HS.out, B5.out, X5.out⟩
          case measure => simp [intOf]; omega
        · have HS := Lib.hid (show leastC (zs.take (k + 1)) o ep ky = (m, true) by rw [ST.out]; simp [leastStep, keyC, hs, h3])
          have d3 : decide (p3 < m) = false := decide_eq_false h3
          clear ST hs h3
          go_wp2_with fail
          clear hW
          refine (E.out _).mono ?_
          rintro e w5 ⟨rfl, b5⟩
          have B5 := Lib.hid (below_chain BW.out b5)
          have X5 := Lib.hid (XW.out.below b5)
          have K5 := KW.out.below b5
          have m3 : w5.cell? ⟨wr.heap.size, 3, none⟩ = some (.int .i64 p3) := by rw [K5.cell]; rfl
          clear b5 E K5 k0 k1 k2 k3 c0 c1 c2 c3 e0 e1 e2 e3 BW XW KW HB HX W
          go_wp2
          go_roundw
          case rel => exact ⟨k + 1, m, true, by omega, by go_num, rfl, rfl, HS.out, B5.out, X5.out⟩
          case measure => simp [intOf]; omega
    · have hfin : leastC zs o ep ky = (m, sm) := by rw [← HT.out, least_all (by rw [HZ.out]; omega)]
      have HF := Lib.hid hfin
      clear hb hfin
      go_wp2
      exact bodyPost_ret (v := .tuple #[.int .i64 m, .bool sm]) (by simp [results, Try.results61, go_sem]) rfl ⟨by rw [HF.out], HB.out⟩
end Go.Proofs.Ytbbagpnjjjohpaa.hexes

namespace Go.Proofs.Ytbbagpnjjjohpaa.hexes
open Go.RowKit

theorem implLeastN_is {ys : List Ce} {n : Nat} (hl : ys.length = n) {o ep ky l : Int} {b : Bool} (hq : leastC ys o ep ky = (l, b)) {A : Option Addr} {c : Nat} (hn : n ≤ 2000000) (w : World) (h : Ces w A ys) :
    Calls Try.prog 61 #[.slice A n c, .int .i64 o, .int .i64 ep, .int .i64 ky] w fun e w' => e = .returned (.tuple #[.int .i64 l, .bool b]) ∧ Below w.heap.size w w' := by
  refine (implLeast_any n ys hl A c o ep ky w h (by omega)).mono ?_
  rintro e w' ⟨he, hb⟩
  rw [hq] at he
  exact ⟨he, hb⟩

set_option maxRecDepth 100000 in
set_option maxHeartbeats 4000000 in
theorem implNw_any (ys bs : List Ce) (A1 : Option Addr) (n1 c1 : Nat) (hl1 : ys.length = n1) (hn1 : n1 ≤ 2000000) (A2 : Option Addr) (n2 c2 : Nat) (hl2 : bs.length = n2) (hn2 : n2 ≤ 2000000) (w : World) (h1 : Ces w A1 ys) (h2 : Ces w A2 bs) :
    Calls Try.prog 25 #[.slice A1 n1 c1, .slice A2 n2 c2] w fun e w' => e = .returned (.bool (nwC ys bs)) ∧ Below w.heap.size w w' := by
  obtain ⟨q, hq⟩ : ∃ q, nwC ys bs = q := ⟨_, rfl⟩
  rw [hq]
  have HQ := Lib.hid hq
  have H1L := Lib.hid hl1
  have H2L := Lib.hid hl2
  have H1 := Lib.hid h1
  have H2 := Lib.hid h2
  clear hq hl1 hl2 h1 h2
  go_enter Try.func25, Try.ntmps25
  go_wp2_with fail
  go_loopw [11] (fun i wr => ∃ j : Nat, j ≤ n2 ∧ i = .int .i64 (j : Int) ∧ (bs.take j).all (nwB ys) = true ∧ Below w.heap.size w wr) (fun i _ => n2 - (intOf i).toNat)
  case atStart => exact ⟨0, Nat.zero_le _, rfl, by simp, Below.refl _ _⟩
  case round =>
    obtain ⟨j, hj, rfl, ht, hb⟩ := hrel
    have HT := Lib.hid ht
    have HB := Lib.hid hb
    clear ht hb
    by_cases hlt : j < n2
    · have lj : j < bs.length := by rw [H2L.out]; exact hlt
      obtain ⟨b1, o1, p0, p1, p2, p3, rfl, hz, e0, e1, e2, e3⟩ := (H2.out.below HB.out).at lj
      have i0 : (0 : Int) ≤ (j : Int) := by omega
      have i1 : (j : Int) < (n2 : Int) := by omega
      obtain ⟨l, lb, hlb⟩ : ∃ l b, leastC ys p0 p1 p2 = (l, b) := ⟨_, _, rfl⟩
      have HN := Lib.hid (show nwB ys bs[j] = (lb && decide (l ≤ p3)) by rw [hz]; unfold nwB; rw [hlb])
      have HLB := Lib.hid hlb
      have HLJ := Lib.hid lj
      clear hz hlb
      obtain ⟨U, hU⟩ : ∃ z, wr.alloc (.cells #[.int .i64 p0, .int .i64 p1, .int .i64 p2, .int .i64 p3] 38) = z := ⟨_, rfl⟩
      have bU : Below wr.heap.size wr U := by rw [← hU]; exact (Below.refl _ _).alloc (Nat.le_refl _) _
      have XU := Lib.hid (show Blk U wr.heap.size 38 #[.int .i64 p0, .int .i64 p1, .int .i64 p2, .int .i64 p3] by rw [← hU]; exact Blk.new _ _ _)
      have BU := Lib.hid (below_chain HB.out bU)
      clear bU
      have x0 : U.cell? ⟨wr.heap.size, 0, none⟩ = some (.int .i64 p0) := by rw [XU.out.cell]; rfl
      have x1 : U.cell? ⟨wr.heap.size, 1, none⟩ = some (.int .i64 p1) := by rw [XU.out.cell]; rfl
      have x2 : U.cell? ⟨wr.heap.size, 2, none⟩ = some (.int .i64 p2) := by rw [XU.out.cell]; rfl
      go_wp2_with fail
      clear x0 x1 x2 e0 e1 e2 e3
      refine (implLeastN_is H1L.out HLB.out hn1 _ (H1.out.below BU.out) (c := c1)).mono ?_
      rintro e w5 ⟨rfl, bq⟩
      have X5 := Lib.hid (XU.out.below bq)
      have B5 := Lib.hid (below_chain BU.out bq)
      clear bq hU XU BU
      have x3 : w5.cell? ⟨wr.heap.size, 3, none⟩ = some (.int .i64 p3) := by rw [X5.out.cell]; rfl
      cases lb with
      | false =>
        obtain rfl : q = false := by rw [← HQ.out, nwC_eq]; exact all_off HLJ.out (by rw [HN.out]; rfl)
        clear x3
        go_wp2
        go_ret
        exact ⟨rfl, B5.out⟩
      | true =>
        by_cases hle : l ≤ p3
        · have dg : decide (p3 < l) = false := by simp; omega
          have HT2 := Lib.hid (all_on HLJ.out HT.out (by rw [HN.out]; simp [hle]))
          clear hle HT HN
          go_wp2
          go_roundw
          case rel => exact ⟨j + 1, by omega, by go_num, HT2.out, B5.out⟩
          case measure => simp [intOf]; omega
        · have dg : decide (p3 < l) = true := by simp; omega
          obtain rfl : q = false := by rw [← HQ.out, nwC_eq]; exact all_off HLJ.out (by rw [HN.out]; simp [hle])
          clear hle HT HN
          go_wp2
          go_ret
          exact ⟨rfl, B5.out⟩
    · obtain rfl : j = n2 := by omega
      obtain rfl : q = true := by rw [← HQ.out, nwC_eq]; exact all_whole (Nat.le_of_eq H2L.out) HT.out
      have dl : decide (j < j) = false := by simp
      clear hlt
      go_wp2
      go_ret
      exact ⟨rfl, HB.out⟩
end Go.Proofs.Ytbbagpnjjjohpaa.hexes

namespace Go.Proofs.Ytbbagpnjjjohpaa.hexes
open Go.RowKit

theorem implNw_is {ys bs : List Ce} {q : Bool} (hq : nwC ys bs = q) {A1 : Option Addr} {n1 c1 : Nat} (hl1 : ys.length = n1) (hn1 : n1 ≤ 2000000) {A2 : Option Addr} {n2 c2 : Nat} (hl2 : bs.length = n2) (hn2 : n2 ≤ 2000000) (w : World) (h1 : Ces w A1 ys) (h2 : Ces w A2 bs) :
    Calls Try.prog 25 #[.slice A1 n1 c1, .slice A2 n2 c2] w fun e w' => e = .returned (.bool q) ∧ Below w.heap.size w w' := by
  subst hq; exact implNw_any ys bs A1 n1 c1 hl1 hn1 A2 n2 c2 hl2 hn2 w h1 h2
end Go.Proofs.Ytbbagpnjjjohpaa.hexes

namespace Go.Proofs.Ytbbagpnjjjohpaa.hexes
open Go.RowKit

theorem implOkSt_is {x y : Int} {b : Bool} (h : okSt x y = b) (W : World) : Calls Try.prog 104 #[.agg #[.int .i64 x, .int .i64 y]] W fun e w' => e = .returned (.bool b) ∧ Below W.heap.size W w' := by
  subst h; exact implOk_any _ _ W

theorem implInR_is {n b : Int} {r : Bool} (h : decide (0 ≤ n ∧ n ≤ b) = r) (W : World) : Calls Try.prog 103 #[.int .i64 n, .int .i64 b] W fun e w' => e = .returned (.bool r) ∧ W = w' := by
  subst h
  by_cases h1 : 0 ≤ n
  · by_cases h2 : n ≤ b
    · have q1 : decide (n ≥ 0) = true := decide_eq_true h1
      have q2 : decide (n ≤ b) = true := decide_eq_true h2
      have q3 := Lib.hid (show decide (0 ≤ n ∧ n ≤ b) = true from decide_eq_true ⟨h1, h2⟩)
      rw [q3.out]
      clear h1 h2
      go_enter Try.func103, Try.ntmps103
      go_wp2
      go_ret
      exact ⟨rfl, rfl⟩
    · have q1 : decide (n ≥ 0) = true := decide_eq_true h1
      have q2 : decide (n ≤ b) = false := decide_eq_false h2
      have q3 := Lib.hid (show decide (0 ≤ n ∧ n ≤ b) = false from decide_eq_false (fun h => h2 h.2))
      rw [q3.out]
      clear h1 h2
      go_enter Try.func103, Try.ntmps103
      go_wp2
      go_ret
      exact ⟨rfl, rfl⟩
  · have q1 : decide (n ≥ 0) = false := decide_eq_false h1
    have q3 := Lib.hid (show decide (0 ≤ n ∧ n ≤ b) = false from decide_eq_false (fun h => h1 h.1))
    rw [q3.out]
    clear h1
    go_enter Try.func103, Try.ntmps103
    go_wp2
    go_ret
    exact ⟨rfl, rfl⟩

set_option maxRecDepth 100000 in
theorem implRcOk_any (p0 p1 p2 p3 p4 : Int) (w : World) :
    Calls Try.prog 74 #[.agg #[.int .i64 p0, .int .i64 p1, .int .i64 p2, .int .i64 p3, .int .i64 p4]] w fun e w' => e = .returned (.bool (okRc (p0, (p1, p2), p3, p4))) ∧ Below w.heap.size w w' := by
  have hb := (Below.refl w.heap.size w).alloc (Nat.le_refl _) (.cells #[.int .i64 p0, .int .i64 p1, .int .i64 p2, .int .i64 p3, .int .i64 p4] 51)
  have HB := Lib.hid hb
  clear hb
  cases h0 : decide (0 ≤ p0 ∧ p0 ≤ 7) with
  | false =>
    have HF := Lib.hid (show okRc (p0, (p1, p2), p3, p4) = false by unfold okRc; rw [h0]; rfl)
    have E0 := Lib.hid (fun W => implInR_is h0 W)
    clear h0
    go_enter Try.func74, Try.ntmps74
    go_wp2_with fail
    refine (E0.out _).mono ?_
    rintro e w1 ⟨rfl, rfl⟩
    go_wp2
    go_ret
    exact ⟨congrArg (fun b => Ending.returned (Value.bool b)) HF.out.symm, HB.out⟩
  | true =>
    have E0 := Lib.hid (fun W => implInR_is h0 W)
    have H0 := Lib.hid h0
    clear h0
    go_enter Try.func74, Try.ntmps74
    go_wp2_with fail
    refine (E0.out _).mono ?_
    rintro e w1 ⟨rfl, rfl⟩
    obtain ⟨W, hW⟩ : ∃ W, w.alloc (.cells #[.int .i64 p0, .int .i64 p1, .int .i64 p2, .int .i64 p3, .int .i64 p4] 51) = W := ⟨_, rfl⟩
    have b1 : W.cell? ⟨w.heap.size, 1, none⟩ = some (.int .i64 p1) := by rw [← hW]; simp
    have b2 : W.cell? ⟨w.heap.size, 2, none⟩ = some (.int .i64 p2) := by rw [← hW]; simp
    have b3 : W.cell? ⟨w.heap.size, 3, none⟩ = some (.int .i64 p3) := by rw [← hW]; simp
    have b4 : W.cell? ⟨w.heap.size, 4, none⟩ = some (.int .i64 p4) := by rw [← hW]; simp
    rw [hW] at HB ⊢
    clear hW E0
    cases h1 : okSt p1 p2 with
    | false =>
      have HF := Lib.hid (show okRc (p0, (p1, p2), p3, p4) = false by unfold okRc; rw [H0.out, h1]; rfl)
      have E1 := Lib.hid (fun W => implOkSt_is h1 W)
      clear h1
      go_wp2_with fail
      refine (E1.out _).mono ?_
      rintro e w2 ⟨rfl, hbd⟩
      have B2 := Lib.hid (below_chain HB.out hbd)
      clear hbd
      go_wp2
      go_ret
      exact ⟨congrArg (fun b => Ending.returned (Value.bool b)) HF.out.symm, B2.out⟩
    | true =>
      have E1 := Lib.hid (fun W => implOkSt_is h1 W)
      have H1 := Lib.hid h1
      clear h1
      go_wp2_with fail
      refine (E1.out _).mono ?_
      rintro e w2 ⟨rfl, hbd⟩
      have B2 := Lib.hid (below_chain HB.out hbd)
      have d3 := below_keep hbd b3
      have d4 := below_keep hbd b4
      clear hbd b1 b2 b3 b4 E1
      cases h2 : decide (0 ≤ p3 ∧ p3 ≤ 99) with
      | false =>
        have HF := Lib.hid (show okRc (p0, (p1, p2), p3, p4) = false by unfold okRc; rw [H0.out, H1.out, h2]; rfl)
        have E2 := Lib.hid (fun W => implInR_is h2 W)
        clear h2
        go_wp2_with fail
        refine (E2.out _).mono ?_
        rintro e w3 ⟨rfl, rfl⟩
        go_wp2
        go_ret
        exact ⟨congrArg (fun b => Ending.returned (Value.bool b)) HF.out.symm, B2.out⟩
      | true =>
        have E2 := Lib.hid (fun W => implInR_is h2 W)
        obtain ⟨r, hr⟩ : ∃ r, decide (0 ≤ p4 ∧ p4 ≤ 999) = r := ⟨_, rfl⟩
        have HF := Lib.hid (show okRc (p0, (p1, p2), p3, p4) = r by unfold okRc; rw [H0.out, H1.out, h2, hr]; simp)
        have E3 := Lib.hid (fun W => implInR_is hr W)
        clear hr
        clear h2
        go_wp2_with fail
        refine (E2.out _).mono ?_
        rintro e w3 ⟨rfl, rfl⟩
        go_wp2_with fail
        refine (E3.out _).mono ?_
        rintro e w4 ⟨rfl, rfl⟩
        go_wp2
        go_ret
        exact ⟨congrArg (fun b => Ending.returned (Value.bool b)) HF.out.symm, B2.out⟩

end Go.Proofs.Ytbbagpnjjjohpaa.hexes

