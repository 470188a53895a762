/-
  The reference's LinkOk.
-/
import Derived.Test.YthkkleicekhelaaLkList
import Derived.Test.YthkkleicekhelaaLkBase
import Derived.Test.YthkkleicekhelaaSpecRc1
namespace Go.Proofs.Ythkkleicekhelaa.hexes
open Go.RowKit

theorem specRcOk_is {p0 p1 p2 p3 p4 : Int} {b : Bool} (h : okRc (p0, (p1, p2), p3, p4) = b) (w : World) : Calls Try.prog 49 #[.agg #[.int .i64 p0, .int .i64 p1, .int .i64 p2, .int .i64 p3, .int .i64 p4]] w fun e w' => e = .returned (.bool b) ∧ Below w.heap.size w w' := by
  subst h; exact specRcOk_any _ _ _ _ _ w

set_option maxRecDepth 100000 in
theorem specLkOk_any (n : Nat) (zs : List Rc) (hz : zs.length = n) (A : Option Addr) (c : Nat) (p a b s g : Int) (w : World) (h1 : Rcs w A zs) (hn : n ≤ 4194304) :
    Calls Try.prog 15 #[.agg #[.int .i64 p, .slice A n c, .int .i64 a, .int .i64 b, .int .i64 s, .int .i64 g]] w fun e w' => e = .returned (.bool (okLk p a b s g n zs)) ∧ Below w.heap.size w w' := by
  have H1 := Lib.hid h1
  have HZ := Lib.hid hz
  clear h1 hz
  go_enter Try.func15, Try.ntmps15
  go_wp2
  generalize hW : w.alloc _ = W
  have BW := Lib.hid (show Below w.heap.size w W by rw [← hW]; exact (Below.refl _ _).alloc (Nat.le_refl _) _)
  have CW := Lib.hid (show Blk W w.heap.size 26 #[.int .i64 p, .slice A n c, .int .i64 a, .int .i64 b, .int .i64 s, .int .i64 g] by rw [← hW]; exact Blk.new _ _ _)
  clear hW
  go_loopw [3] (fun i wr => ∃ k : Nat, k ≤ n ∧ i = .int .i64 k ∧ (zs.take k).all okRc = true ∧ Below W.heap.size W wr) (fun i _ => n - (intOf i).toNat)
  case atStart => exact ⟨0, Nat.zero_le _, rfl, rfl, Below.refl _ _⟩
  case round =>
    obtain ⟨k, hk, rfl, ht, hb⟩ := hrel
    have HT := Lib.hid ht
    have HB := Lib.hid (below_chain BW.out hb)
    have HB' := Lib.hid hb
    have cw := CW.out.below hb
    have x0 : wr.cell? ⟨w.heap.size, 0, none⟩ = some (.int .i64 p) := by rw [cw.cell]; rfl
    have x1 : wr.cell? ⟨w.heap.size, 1, none⟩ = some (.slice A n c) := by rw [cw.cell]; rfl
    have x2 : wr.cell? ⟨w.heap.size, 2, none⟩ = some (.int .i64 a) := by rw [cw.cell]; rfl
    have x3 : wr.cell? ⟨w.heap.size, 3, none⟩ = some (.int .i64 b) := by rw [cw.cell]; rfl
    have x4 : wr.cell? ⟨w.heap.size, 4, none⟩ = some (.int .i64 s) := by rw [cw.cell]; rfl
    have x5 : wr.cell? ⟨w.heap.size, 5, none⟩ = some (.int .i64 g) := by rw [cw.cell]; rfl
    clear ht hb cw
    by_cases hlt : k < n
    · have l1 : k < zs.length := by rw [HZ.out]; exact hlt
      obtain ⟨b1, o1, p0, p1, p2, p3, p4, rfl, y1, e0, e1, e2, e3, e4⟩ := (H1.out.below HB.out).at l1
      have i0 : (0 : Int) ≤ (k : Int) := by omega
      have i1 : (k : Int) < (n : Int) := by omega
      cases hr : okRc (p0, (p1, p2), p3, p4) with
      | true =>
        have E := Lib.hid (fun W => specRcOk_is hr W)
        have HT2 := Lib.hid (all_step l1 HT.out (y1 ▸ hr))
        clear HT y1 l1 hr
        go_wp2_with fail
        refine (E.out _).mono ?_
        rintro e w2 ⟨rfl, hb2⟩
        have B2 := Lib.hid (below_chain HB'.out hb2)
        clear hb2
        go_wp2
        go_roundw
        case rel => exact ⟨k + 1, by omega, by go_num, HT2.out, B2.out⟩
        case measure => simp [intOf]; omega
      | false =>
        have E := Lib.hid (fun W => specRcOk_is hr W)
        have HF := Lib.hid (okLk_allF (p := p) (a := a) (b := b) (s := s) (g := g) (n := n) (all_bad l1 (y1 ▸ hr)))
        clear HT y1 l1 hr
        go_wp2_with fail
        refine (E.out _).mono ?_
        rintro e w2 ⟨rfl, hb2⟩
        have B2 := Lib.hid (below_chain HB.out hb2)
        clear hb2
        go_wp2
        go_ret
        exact ⟨congrArg (fun b => Ending.returned (Value.bool b)) HF.out.symm, B2.out⟩
    · have hfin : zs.all okRc = true := by
        have h3 := HT.out
        rw [List.take_of_length_le (by rw [HZ.out]; omega)] at h3
        exact h3
      have hq := okLk_allT (p := p) (a := a) (b := b) (s := s) (g := g) (n := n) hfin
      have HA := Lib.hid hq
      clear hfin hq HT
      cases g1 : decide (1 ≤ p ∧ p ≤ 4) with
      | false =>
        have HF := Lib.hid (show okLk p a b s g n zs = false by rw [HA.out]; unfold credOk; rw [g1]; rfl)
        have E0 := Lib.hid (fun W => specInI_is g1 W)
        clear g1
        go_wp2_with fail
        refine (E0.out _).mono ?_
        rintro e w1 ⟨rfl, rfl⟩
        go_wp2
        go_ret
        exact ⟨congrArg (fun b => Ending.returned (Value.bool b)) HF.out.symm, HB.out⟩
      | true =>
        have E0 := Lib.hid (fun W => specInI_is g1 W)
        cases g2 : decide (0 ≤ a ∧ a ≤ p) with
        | false =>
          have HF := Lib.hid (show okLk p a b s g n zs = false by rw [HA.out]; unfold credOk; rw [g1, g2]; rfl)
          have E1 := Lib.hid (fun W => specInI_is g2 W)
          clear g1 g2
          go_wp2_with fail
          refine (E0.out _).mono ?_
          rintro e w1 ⟨rfl, rfl⟩
          go_wp2_with fail
          refine (E1.out _).mono ?_
          rintro e w1 ⟨rfl, rfl⟩
          go_wp2
          go_ret
          exact ⟨congrArg (fun b => Ending.returned (Value.bool b)) HF.out.symm, HB.out⟩
        | true =>
          have E1 := Lib.hid (fun W => specInI_is g2 W)
          cases g3 : decide (0 ≤ b ∧ b ≤ p) with
          | false =>
            have HF := Lib.hid (show okLk p a b s g n zs = false by rw [HA.out]; unfold credOk; rw [g1, g2, g3]; rfl)
            have E2 := Lib.hid (fun W => specInI_is g3 W)
            clear g1 g2 g3
            go_wp2_with fail
            refine (E0.out _).mono ?_
            rintro e w1 ⟨rfl, rfl⟩
            go_wp2_with fail
            refine (E1.out _).mono ?_
            rintro e w1 ⟨rfl, rfl⟩
            go_wp2_with fail
            refine (E2.out _).mono ?_
            rintro e w1 ⟨rfl, rfl⟩
            go_wp2
            go_ret
            exact ⟨congrArg (fun b => Ending.returned (Value.bool b)) HF.out.symm, HB.out⟩
          | true =>
            have E2 := Lib.hid (fun W => specInI_is g3 W)
            have v1 := of_decide_eq_true g1
            have v2 := of_decide_eq_true g2
            have v3 := of_decide_eq_true g3
            have m1 : IntKind.i64.wrap (a + b) = a + b := IntWalk.i64_in _ (by omega)
            have m2 : IntKind.i64.wrap (a + b + (n : Int)) = a + b + (n : Int) := IntWalk.i64_in _ (by omega)
            by_cases g4 : a + b + (n : Int) = p
            · have q4 : (a + b + (n : Int) == p) = true := by simpa using g4
              have HC := Lib.hid (show credOk p a b n = true by unfold credOk; rw [g1, g2, g3, decide_eq_true g4]; rfl)
              clear g1 g2 g3 g4 v1 v2 v3
              cases g5 : decide (0 ≤ s ∧ s ≤ 1000000000) with
              | false =>
                have HF := Lib.hid (show okLk p a b s g n zs = false by rw [HA.out]; unfold cntOk; rw [g5]; simp)
                have E3 := Lib.hid (fun W => specInI_is g5 W)
                clear g5
                go_wp2_with fail
                refine (E0.out _).mono ?_
                rintro e w1 ⟨rfl, rfl⟩
                go_wp2_with fail
                refine (E1.out _).mono ?_
                rintro e w1 ⟨rfl, rfl⟩
                go_wp2_with fail
                refine (E2.out _).mono ?_
                rintro e w1 ⟨rfl, rfl⟩
                go_wp2_with fail
                refine (E3.out _).mono ?_
                rintro e w1 ⟨rfl, rfl⟩
                go_wp2
                go_ret
                exact ⟨congrArg (fun b => Ending.returned (Value.bool b)) HF.out.symm, HB.out⟩
              | true =>
                have E3 := Lib.hid (fun W => specInI_is g5 W)
                have v5 := of_decide_eq_true g5
                have m3 : IntKind.i64.wrap (s - (n : Int)) = s - (n : Int) := IntWalk.i64_in _ (by omega)
                by_cases g6 : g = s - (n : Int)
                · have q6 : (g == s - (n : Int)) = true := by simpa using g6
                  have HF := Lib.hid (show okLk p a b s g n zs = decide (g ≥ 0) by rw [HA.out, HC.out]; unfold cntOk; rw [g5, decide_eq_true (show s - g = (n : Int) by omega)]; simp)
                  clear g5 g6 v5
                  go_wp2_with fail
                  refine (E0.out _).mono ?_
                  rintro e w1 ⟨rfl, rfl⟩
                  go_wp2_with fail
                  refine (E1.out _).mono ?_
                  rintro e w1 ⟨rfl, rfl⟩
                  go_wp2_with fail
                  refine (E2.out _).mono ?_
                  rintro e w1 ⟨rfl, rfl⟩
                  go_wp2_with fail
                  refine (E3.out _).mono ?_
                  rintro e w1 ⟨rfl, rfl⟩
                  go_wp2
                  go_ret
                  exact ⟨congrArg (fun b => Ending.returned (Value.bool b)) HF.out.symm, HB.out⟩
                · have q6 : (g == s - (n : Int)) = false := by simpa using g6
                  have HF := Lib.hid (show okLk p a b s g n zs = false by rw [HA.out]; unfold cntOk; rw [g5, decide_eq_false (show ¬s - g = (n : Int) by omega)]; simp)
                  clear g5 g6 v5
                  go_wp2_with fail
                  refine (E0.out _).mono ?_
                  rintro e w1 ⟨rfl, rfl⟩
                  go_wp2_with fail
                  refine (E1.out _).mono ?_
                  rintro e w1 ⟨rfl, rfl⟩
                  go_wp2_with fail
                  refine (E2.out _).mono ?_
                  rintro e w1 ⟨rfl, rfl⟩
                  go_wp2_with fail
                  refine (E3.out _).mono ?_
                  rintro e w1 ⟨rfl, rfl⟩
                  go_wp2
                  go_ret
                  exact ⟨congrArg (fun b => Ending.returned (Value.bool b)) HF.out.symm, HB.out⟩
            · have q4 : (a + b + (n : Int) == p) = false := by simpa using g4
              have HF := Lib.hid (show okLk p a b s g n zs = false by rw [HA.out]; unfold credOk; rw [g1, g2, g3, decide_eq_false g4]; rfl)
              clear g1 g2 g3 g4 v1 v2 v3
              go_wp2_with fail
              refine (E0.out _).mono ?_
              rintro e w1 ⟨rfl, rfl⟩
              go_wp2_with fail
              refine (E1.out _).mono ?_
              rintro e w1 ⟨rfl, rfl⟩
              go_wp2_with fail
              refine (E2.out _).mono ?_
              rintro e w1 ⟨rfl, rfl⟩
              go_wp2
              go_ret
              exact ⟨congrArg (fun b => Ending.returned (Value.bool b)) HF.out.symm, HB.out⟩
end Go.Proofs.Ythkkleicekhelaa.hexes
