/-
  The program's LinkOk.
-/
import Derived.Test.YthkkleicekhelaaLkList
import Derived.Test.YthkkleicekhelaaLkBase
import Derived.Test.YthkkleicekhelaaImplRc1
import Derived.OpenShut
namespace Go.Proofs.Ythkkleicekhelaa.hexes
open Go.RowKit

theorem implNotOk_any (p0 p1 p2 p3 p4 : Int) (w : World) :
    Calls Try.prog 54 #[.agg #[.int .i64 p0, .int .i64 p1, .int .i64 p2, .int .i64 p3, .int .i64 p4]] w fun e w' => e = .returned (.bool (!okRc (p0, (p1, p2), p3, p4))) ∧ Below w.heap.size w w' := by
  go_enter Try.func54, Try.ntmps54
  go_wp2_with fail
  generalize hW : w.alloc _ = W
  have bW := Lib.hid (show Below w.heap.size w W by rw [← hW]; exact (Below.refl _ _).alloc (Nat.le_refl _) _)
  clear hW
  refine (implRcOk_any p0 p1 p2 p3 p4 W).mono ?_
  rintro e w1 ⟨rfl, hb⟩
  have B1 := Lib.hid (below_chain bW.out hb)
  clear hb
  go_wp2
  go_ret
  exact ⟨rfl, B1.out⟩
theorem implNotOk_is {p0 p1 p2 p3 p4 : Int} {b : Bool} (h : okRc (p0, (p1, p2), p3, p4) = b) (w : World) : Calls Try.prog 54 #[.agg #[.int .i64 p0, .int .i64 p1, .int .i64 p2, .int .i64 p3, .int .i64 p4]] w fun e w' => e = .returned (.bool (!b)) ∧ Below w.heap.size w w' := by
  subst h; exact implNotOk_any _ _ _ _ _ w

set_option maxRecDepth 100000 in
theorem implIndexBad_any (n : Nat) (zs : List Rc) (hz : zs.length = n) (A : Option Addr) (c : Nat) (w : World) (h1 : Rcs w A zs) (hn : n ≤ 4194304) :
    Calls Try.prog 77 #[.slice A n c, .func (.func 54) #[] #[]] w fun e w' => ∃ i : Int, e = .returned (.int .i64 i) ∧ decide (0 ≤ i) = (!zs.all okRc) ∧ Below w.heap.size w w' := by
  have H1 := Lib.hid h1
  have HZ := Lib.hid hz
  clear h1 hz
  go_enter Try.func77, Try.ntmps77
  go_wp2
  go_loopw [8] (fun i wr => ∃ k : Nat, k ≤ n ∧ i = .int .i64 k ∧ (zs.take k).all okRc = true ∧ Below w.heap.size w wr) (fun i _ => n - (intOf i).toNat)
  case atStart => exact ⟨0, Nat.zero_le _, rfl, rfl, Below.refl _ _⟩
  case round =>
    obtain ⟨k, hk, rfl, ht, hb⟩ := hrel
    have HT := Lib.hid ht
    have HB := Lib.hid hb
    clear ht hb
    by_cases hlt : k < n
    · have l1 : k < zs.length := by rw [HZ.out]; exact hlt
      obtain ⟨b1, o1, p0, p1, p2, p3, p4, rfl, x1, e0, e1, e2, e3, e4⟩ := (H1.out.below HB.out).at l1
      have i0 : (0 : Int) ≤ (k : Int) := by omega
      have i1 : (k : Int) < (n : Int) := by omega
      cases hr : okRc (p0, (p1, p2), p3, p4) with
      | true =>
        have E := Lib.hid (fun W => implNotOk_is hr W)
        have HT2 := Lib.hid (all_step l1 HT.out (x1 ▸ hr))
        clear HT x1 l1 hr
        go_wp2_with fail
        refine (E.out _).mono ?_
        rintro e w2 ⟨rfl, hb2⟩
        have B2 := Lib.hid (below_chain HB.out hb2)
        clear hb2
        go_wp2
        go_roundw
        case rel => exact ⟨k + 1, by omega, by go_num, HT2.out, B2.out⟩
        case measure => simp [intOf]; omega
      | false =>
        have E := Lib.hid (fun W => implNotOk_is hr W)
        have HT2 := Lib.hid (all_bad l1 (x1 ▸ hr))
        clear HT x1 l1 hr
        go_wp2_with fail
        refine (E.out _).mono ?_
        rintro e w2 ⟨rfl, hb2⟩
        have B2 := Lib.hid (below_chain HB.out hb2)
        clear hb2
        go_wp2
        go_ret
        exact ⟨_, rfl, by rw [HT2.out]; simp, B2.out⟩
    · have hfin : zs.all okRc = true := by
        have h3 := HT.out
        rw [List.take_of_length_le (by rw [HZ.out]; omega)] at h3
        exact h3
      have HF := Lib.hid hfin
      clear hfin HT
      go_wp2
      go_ret
      exact ⟨_, rfl, by rw [HF.out]; simp, HB.out⟩

theorem implHasBad_any (n : Nat) (zs : List Rc) (hz : zs.length = n) (A : Option Addr) (c : Nat) (w : World) (h1 : Rcs w A zs) (hn : n ≤ 4194304) :
    Calls Try.prog 53 #[.slice A n c, .func (.func 54) #[] #[]] w fun e w' => e = .returned (.bool (!zs.all okRc)) ∧ Below w.heap.size w w' := by
  have E := Lib.hid (implIndexBad_any n zs hz A c w h1 hn)
  clear h1 hz
  go_enter Try.func53, Try.ntmps53
  go_wp2_with fail
  refine E.out.mono ?_
  rintro e w1 ⟨i, rfl, hd, hb⟩
  have B1 := Lib.hid hb
  have D := Lib.hid hd
  clear hb hd
  go_wp2
  go_ret
  exact ⟨congrArg (fun b => Ending.returned (Value.bool b)) D.out, B1.out⟩
theorem implHasBad_is {n : Nat} {zs : List Rc} (hz : zs.length = n) {A : Option Addr} {c : Nat} {w : World} (h1 : Rcs w A zs) (hn : n ≤ 4194304) {b : Bool} (hb : zs.all okRc = b) :
    Calls Try.prog 53 #[.slice A n c, .func (.func 54) #[] #[]] w fun e w' => e = .returned (.bool (!b)) ∧ Below w.heap.size w w' := by
  subst hb; exact implHasBad_any n zs hz A c w h1 hn

set_option maxRecDepth 100000 in
theorem implCred_any (A : Option Addr) (n c : Nat) (p a b s g : Int) (hn : n ≤ 4194304) (w : World) :
    Calls Try.prog 51 #[.agg #[.int .i64 p, .slice A n c, .int .i64 a, .int .i64 b, .int .i64 s, .int .i64 g]] w fun e w' => e = .returned (.bool (credOk p a b n)) ∧ Below w.heap.size w w' := by
  by_cases h1 : p < 1
  · have q1 : decide (p < 1) = true := decide_eq_true h1
    have HF := Lib.hid (show credOk p a b n = false by unfold credOk; rw [decide_eq_false (show ¬(1 ≤ p ∧ p ≤ 4) by omega)]; rfl)
    clear h1
    go_enter Try.func51, Try.ntmps51
    go_wp2
    go_ret
    exact ⟨congrArg (fun b => Ending.returned (Value.bool b)) HF.out.symm, (Below.refl _ _).alloc (Nat.le_refl _) _⟩
  have q1 : decide (p < 1) = false := decide_eq_false h1
  by_cases h2 : 4 < p
  · have q2 : decide (p > 4) = true := decide_eq_true h2
    have HF := Lib.hid (show credOk p a b n = false by unfold credOk; rw [decide_eq_false (show ¬(1 ≤ p ∧ p ≤ 4) by omega)]; rfl)
    clear h1 h2
    go_enter Try.func51, Try.ntmps51
    go_wp2
    go_ret
    exact ⟨congrArg (fun b => Ending.returned (Value.bool b)) HF.out.symm, (Below.refl _ _).alloc (Nat.le_refl _) _⟩
  have q2 : decide (p > 4) = false := decide_eq_false h2
  have H0 := Lib.hid (show decide (1 ≤ p ∧ p ≤ 4) = true from decide_eq_true (by omega))
  cases h3 : decide (0 ≤ a ∧ a ≤ p) with
  | false =>
    have HF := Lib.hid (show credOk p a b n = false by unfold credOk; rw [H0.out, h3]; rfl)
    have E0 := Lib.hid (fun W => implInR_is h3 W)
    clear h1 h2 h3
    go_enter Try.func51, Try.ntmps51
    go_wp2_with fail
    refine (E0.out _).mono ?_
    rintro e w1 ⟨rfl, rfl⟩
    go_wp2
    go_ret
    exact ⟨congrArg (fun b => Ending.returned (Value.bool b)) HF.out.symm, (Below.refl _ _).alloc (Nat.le_refl _) _⟩
  | true =>
    have E0 := Lib.hid (fun W => implInR_is h3 W)
    cases h4 : decide (0 ≤ b ∧ b ≤ p) with
    | false =>
      have HF := Lib.hid (show credOk p a b n = false by unfold credOk; rw [H0.out, h3, h4]; rfl)
      have E1 := Lib.hid (fun W => implInR_is h4 W)
      clear h1 h2 h3 h4
      go_enter Try.func51, Try.ntmps51
      go_wp2_with fail
      refine (E0.out _).mono ?_
      rintro e w1 ⟨rfl, rfl⟩
      go_wp2_with fail
      refine (E1.out _).mono ?_
      rintro e w1 ⟨rfl, rfl⟩
      go_wp2
      go_ret
      exact ⟨congrArg (fun b => Ending.returned (Value.bool b)) HF.out.symm, (Below.refl _ _).alloc (Nat.le_refl _) _⟩
    | true =>
      have E1 := Lib.hid (fun W => implInR_is h4 W)
      have ha := of_decide_eq_true h3
      have hb := of_decide_eq_true h4
      have m1 : IntKind.i64.wrap (a + b) = a + b := IntWalk.i64_in _ (by omega)
      have m2 : IntKind.i64.wrap (a + b + (n : Int)) = a + b + (n : Int) := IntWalk.i64_in _ (by omega)
      have HF := Lib.hid (show credOk p a b n = (a + b + (n : Int) == p) by unfold credOk; rw [H0.out, h3, h4]; simp; rfl)
      clear h1 h2 h3 h4 ha hb
      go_enter Try.func51, Try.ntmps51
      go_wp2_with fail
      refine (E0.out _).mono ?_
      rintro e w1 ⟨rfl, rfl⟩
      go_wp2_with fail
      refine (E1.out _).mono ?_
      rintro e w1 ⟨rfl, rfl⟩
      go_wp2
      go_ret
      exact ⟨congrArg (fun b => Ending.returned (Value.bool b)) HF.out.symm, (Below.refl _ _).alloc (Nat.le_refl _) _⟩

set_option maxRecDepth 100000 in
theorem implCnt_any (A : Option Addr) (n c : Nat) (p a b s g : Int) (_hn : n ≤ 4194304) (hg : g ≤ 9223372036854775807) (w : World) :
    Calls Try.prog 52 #[.agg #[.int .i64 p, .slice A n c, .int .i64 a, .int .i64 b, .int .i64 s, .int .i64 g]] w fun e w' => e = .returned (.bool (cntOk s g n)) ∧ Below w.heap.size w w' := by
  cases h3 : decide (0 ≤ s ∧ s ≤ 1000000000) with
  | false =>
    have HF := Lib.hid (show cntOk s g n = false by unfold cntOk; rw [h3]; rfl)
    have E0 := Lib.hid (fun W => implInR_is h3 W)
    clear h3
    go_enter Try.func52, Try.ntmps52
    go_wp2_with fail
    refine (E0.out _).mono ?_
    rintro e w1 ⟨rfl, rfl⟩
    go_wp2
    go_ret
    exact ⟨congrArg (fun b => Ending.returned (Value.bool b)) HF.out.symm, (Below.refl _ _).alloc (Nat.le_refl _) _⟩
  | true =>
    have E0 := Lib.hid (fun W => implInR_is h3 W)
    by_cases h4 : 0 ≤ g
    · have q1 : decide (g ≥ 0) = true := decide_eq_true h4
      have hs := of_decide_eq_true h3
      have m1 : IntKind.i64.wrap (s - g) = s - g := IntWalk.i64_in _ (by omega)
      have HF := Lib.hid (show cntOk s g n = (s - g == (n : Int)) by unfold cntOk; rw [h3, decide_eq_true h4]; simp; rfl)
      clear h3 h4 hs
      go_enter Try.func52, Try.ntmps52
      go_wp2_with fail
      refine (E0.out _).mono ?_
      rintro e w1 ⟨rfl, rfl⟩
      go_wp2
      go_ret
      exact ⟨congrArg (fun b => Ending.returned (Value.bool b)) HF.out.symm, (Below.refl _ _).alloc (Nat.le_refl _) _⟩
    · have q1 : decide (g ≥ 0) = false := decide_eq_false h4
      have HF := Lib.hid (show cntOk s g n = false by unfold cntOk; rw [h3, decide_eq_false h4]; rfl)
      clear h3 h4
      go_enter Try.func52, Try.ntmps52
      go_wp2_with fail
      refine (E0.out _).mono ?_
      rintro e w1 ⟨rfl, rfl⟩
      go_wp2
      go_ret
      exact ⟨congrArg (fun b => Ending.returned (Value.bool b)) HF.out.symm, (Below.refl _ _).alloc (Nat.le_refl _) _⟩

theorem implCred_is {p a b : Int} {n : Nat} {r : Bool} (h : credOk p a b n = r) (A : Option Addr) (c : Nat) (s g : Int) (hn : n ≤ 4194304) (w : World) : Calls Try.prog 51 #[.agg #[.int .i64 p, .slice A n c, .int .i64 a, .int .i64 b, .int .i64 s, .int .i64 g]] w fun e w' => e = .returned (.bool r) ∧ Below w.heap.size w w' := by
  subst h; exact implCred_any A n c p a b s g hn w
theorem implCnt_is {s g : Int} {n : Nat} {r : Bool} (h : cntOk s g n = r) (A : Option Addr) (c : Nat) (p a b : Int) (hn : n ≤ 4194304) (hg : g ≤ 9223372036854775807) (w : World) : Calls Try.prog 52 #[.agg #[.int .i64 p, .slice A n c, .int .i64 a, .int .i64 b, .int .i64 s, .int .i64 g]] w fun e w' => e = .returned (.bool r) ∧ Below w.heap.size w w' := by
  subst h; exact implCnt_any A n c p a b s g hn hg w

set_option maxRecDepth 100000 in
theorem implLkOk_any (n : Nat) (zs : List Rc) (hz : zs.length = n) (A : Option Addr) (c : Nat) (p a b s g : Int) (hg : g ≤ 9223372036854775807) (w : World) (h1 : Rcs w A zs) (hn : n ≤ 4194304) :
    Calls Try.prog 14 #[.agg #[.int .i64 p, .slice A n c, .int .i64 a, .int .i64 b, .int .i64 s, .int .i64 g]] w fun e w' => e = .returned (.bool (okLk p a b s g n zs)) ∧ Below w.heap.size w w' := by
  have H1 := Lib.hid h1
  have HZ := Lib.hid hz
  clear h1 hz
  cases hc : credOk p a b n with
  | false =>
    have HF := Lib.hid (okLk_credF (s := s) (g := g) (zs := zs) hc)
    have E0 := Lib.hid (fun W => implCred_is hc A c s g hn W)
    clear hc
    go_enter Try.func14, Try.ntmps14
    go_wp2_with fail
    generalize hW : w.alloc _ = W
    have bW : Below w.heap.size w W := by rw [← hW]; exact (Below.refl _ _).alloc (Nat.le_refl _) _
    have c0 : Blk W w.heap.size 26 #[.int .i64 p, .slice A n c, .int .i64 a, .int .i64 b, .int .i64 s, .int .i64 g] := by rw [← hW]; exact Blk.new _ _ _
    clear hW
    refine (E0.out _).mono ?_
    rintro e w1 ⟨rfl, hb⟩
    have B1 := Lib.hid (below_chain bW hb)
    have c1 := c0.below hb
    have x0 : w1.cell? ⟨w.heap.size, 0, none⟩ = some (.int .i64 p) := by rw [c1.cell]; rfl
    have x1 : w1.cell? ⟨w.heap.size, 1, none⟩ = some (.slice A n c) := by rw [c1.cell]; rfl
    have x2 : w1.cell? ⟨w.heap.size, 2, none⟩ = some (.int .i64 a) := by rw [c1.cell]; rfl
    have x3 : w1.cell? ⟨w.heap.size, 3, none⟩ = some (.int .i64 b) := by rw [c1.cell]; rfl
    have x4 : w1.cell? ⟨w.heap.size, 4, none⟩ = some (.int .i64 s) := by rw [c1.cell]; rfl
    have x5 : w1.cell? ⟨w.heap.size, 5, none⟩ = some (.int .i64 g) := by rw [c1.cell]; rfl
    clear bW hb c0 c1
    go_wp2
    go_ret
    exact ⟨congrArg (fun b => Ending.returned (Value.bool b)) HF.out.symm, B1.out⟩
  | true =>
    have E0 := Lib.hid (fun W => implCred_is hc A c s g hn W)
    cases hd : cntOk s g n with
    | false =>
      have HF := Lib.hid (okLk_cntF (p := p) (a := a) (b := b) (zs := zs) hd)
      have E1 := Lib.hid (fun W => implCnt_is hd A c p a b hn hg W)
      clear hc hd
      go_enter Try.func14, Try.ntmps14
      go_wp2_with fail
      generalize hW : w.alloc _ = W
      have bW : Below w.heap.size w W := by rw [← hW]; exact (Below.refl _ _).alloc (Nat.le_refl _) _
      have c0 : Blk W w.heap.size 26 #[.int .i64 p, .slice A n c, .int .i64 a, .int .i64 b, .int .i64 s, .int .i64 g] := by rw [← hW]; exact Blk.new _ _ _
      clear hW
      refine (E0.out _).mono ?_
      rintro e w1 ⟨rfl, hb⟩
      have B1 := Lib.hid (below_chain bW hb)
      have c1 := c0.below hb
      have x0 : w1.cell? ⟨w.heap.size, 0, none⟩ = some (.int .i64 p) := by rw [c1.cell]; rfl
      have x1 : w1.cell? ⟨w.heap.size, 1, none⟩ = some (.slice A n c) := by rw [c1.cell]; rfl
      have x2 : w1.cell? ⟨w.heap.size, 2, none⟩ = some (.int .i64 a) := by rw [c1.cell]; rfl
      have x3 : w1.cell? ⟨w.heap.size, 3, none⟩ = some (.int .i64 b) := by rw [c1.cell]; rfl
      have x4 : w1.cell? ⟨w.heap.size, 4, none⟩ = some (.int .i64 s) := by rw [c1.cell]; rfl
      have x5 : w1.cell? ⟨w.heap.size, 5, none⟩ = some (.int .i64 g) := by rw [c1.cell]; rfl
      clear bW hb c0
      go_wp2_with fail
      refine (E1.out _).mono ?_
      rintro e w2 ⟨rfl, hb⟩
      have B2 := Lib.hid (below_chain B1.out hb)
      clear hb c1
      go_wp2
      go_ret
      exact ⟨congrArg (fun b => Ending.returned (Value.bool b)) HF.out.symm, B2.out⟩
    | true =>
      have E1 := Lib.hid (fun W => implCnt_is hd A c p a b hn hg W)
      obtain ⟨r, hr⟩ : ∃ r, zs.all okRc = r := ⟨_, rfl⟩
      have HF := Lib.hid (show okLk p a b s g n zs = r by rw [← hr]; exact okLk_all hc hd)
      have HR := Lib.hid hr
      clear hc hd hr
      go_enter Try.func14, Try.ntmps14
      go_wp2_with fail
      generalize hW : w.alloc _ = W
      have bW : Below w.heap.size w W := by rw [← hW]; exact (Below.refl _ _).alloc (Nat.le_refl _) _
      have c0 : Blk W w.heap.size 26 #[.int .i64 p, .slice A n c, .int .i64 a, .int .i64 b, .int .i64 s, .int .i64 g] := by rw [← hW]; exact Blk.new _ _ _
      clear hW
      refine (E0.out _).mono ?_
      rintro e w1 ⟨rfl, hb⟩
      have B1 := Lib.hid (below_chain bW hb)
      have c1 := c0.below hb
      have x0 : w1.cell? ⟨w.heap.size, 0, none⟩ = some (.int .i64 p) := by rw [c1.cell]; rfl
      have x1 : w1.cell? ⟨w.heap.size, 1, none⟩ = some (.slice A n c) := by rw [c1.cell]; rfl
      have x2 : w1.cell? ⟨w.heap.size, 2, none⟩ = some (.int .i64 a) := by rw [c1.cell]; rfl
      have x3 : w1.cell? ⟨w.heap.size, 3, none⟩ = some (.int .i64 b) := by rw [c1.cell]; rfl
      have x4 : w1.cell? ⟨w.heap.size, 4, none⟩ = some (.int .i64 s) := by rw [c1.cell]; rfl
      have x5 : w1.cell? ⟨w.heap.size, 5, none⟩ = some (.int .i64 g) := by rw [c1.cell]; rfl
      clear bW hb c0
      go_wp2_with fail
      refine (E1.out _).mono ?_
      rintro e w2 ⟨rfl, hb⟩
      have B2 := Lib.hid (below_chain B1.out hb)
      have c2 := c1.below hb
      have y1 : w2.cell? ⟨w.heap.size, 1, none⟩ = some (.slice A n c) := by rw [c2.cell]; rfl
      clear hb c1 c2 x0 x1 x2 x3 x4 x5
      go_wp2_with fail
      refine (implHasBad_is HZ.out (H1.out.below B2.out) hn HR.out).mono ?_
      rintro e w3 ⟨rfl, hb⟩
      have B3 := Lib.hid (below_chain B2.out hb)
      clear hb
      go_wp2
      go_ret
      exact ⟨by rw [HF.out]; simp, B3.out⟩
end Go.Proofs.Ythkkleicekhelaa.hexes
