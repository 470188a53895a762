/-
  The walk of FnInOrder.
-/
import Derived.Test.YthkkleicekhelaaInOrder
import Derived.Test.YthkkleicekhelaaLkPlain
import Derived.Test.YthkkleicekhelaaLkBack
import Derived.Test.YthkkleicekhelaaImplSend
import Derived.Test.YthkkleicekhelaaImplTake
import Derived.Test.YthkkleicekhelaaCame
import Derived.Test.YthkkleicekhelaaPlaces
import Derived.Deep.RegionHeld3
import Derived.Deep.DeepCutAuto
import Derived.WalkArith
import Derived.Deep.QuietTactic
import Derived.BigQuiet
namespace Go.Proofs.Ythkkleicekhelaa.fnInOrder
open Go.RowKit Go.Proofs.Ythkkleicekhelaa.hexes

set_option maxRecDepth 1000000 in
set_option maxHeartbeats 16000000 in
theorem walk (a0 : Option Addr) (len0 cap0 : Nat) (z0 : List Int) (w : World) (w0 : IsRow .u8 w a0 len0 cap0 z0) :
    Calls Try.prog 4 #[.slice a0 len0 cap0] w fun e w' => e = .returned (.bool true) ∧ Below w.heap.size w w' := by
  have hcame := came_of_row w0
  have HG := Lib.hid (fun W => big_any a0 len0 cap0 W)
  by_cases h1 : 1048576 < len0
  · have hd : decide (1048576 < (len0 : Int)) = true := by simp; omega
    clear hcame w0
    go_enter Try.func4, Try.ntmps4
    go_wp2_with (go_at_call 9; refine (HG.out _).mono ?_; rintro e w1 ⟨rfl, rfl⟩)
    go_ret
    exact ⟨rfl, Below.refl _ _⟩
  have hd : decide (1048576 < (len0 : Int)) = false := by simp; omega
  have HC := Lib.hid hcame
  clear hcame w0
  go_enter Try.func4, Try.ntmps4
  go_wp2_with (go_at_call 9; refine (HG.out _).mono ?_; rintro e w1 ⟨rfl, rfl⟩)
  refine (places_any _ a0 len0 cap0 (by omega) HC.out).mono ?_
  rintro e w1 ⟨v, xs, hxl, hxs, rfl, hown, b1⟩
  obtain ⟨A3, cp, rfl, hf⟩ := own_form hown
  obtain ⟨gp, rfl⟩ := hf (by omega)
  have PC := Lib.hid (show ∀ j : Nat, j < 12 → ∃ x : Nat, x < 10000 ∧ w1.cell? ⟨gp, j, none⟩ = some (.int .i64 (x : Int)) from fun j hj => ⟨xs[j], hxs _ (List.getElem_mem (by omega)), by rw [hown.cellAt j (by omega)]; simp [nums, List.getElem?_eq_getElem (show j < xs.length by omega)]⟩)
  have B1 := Lib.hid b1
  clear hown hf hxl hxs b1 HC HG hd h1
  obtain ⟨y0, hy0, c0⟩ := PC.out 0 (by omega)
  obtain ⟨t0, ht0⟩ : ∃ t : Int, (y0 : Int).tmod 4 = t := ⟨_, rfl⟩
  have tb : 0 ≤ t0 ∧ t0 ≤ 3 := by rw [← ht0, Int.tmod_eq_emod_of_nonneg (by omega)]; omega
  have m1 : IntKind.i64.wrap t0 = t0 := IntWalk.i64_in _ (by omega)
  obtain ⟨q, hq⟩ : ∃ q : Int, 1 + t0 = q := ⟨_, rfl⟩
  have m2 : IntKind.i64.wrap q = q := IntWalk.i64_in _ (by omega)
  have hq1 : 1 ≤ q := by omega
  have hq4 : q ≤ 4 := by omega
  have EN := Lib.hid (show ∀ W : World, Calls Try.prog 24 #[.int .i64 q] W fun e w' => e = .returned (.agg #[.int .i64 q, .slice none 0 0, .int .i64 q, .int .i64 0, .int .i64 0, .int .i64 0]) ∧ Below W.heap.size W w' from fun W => by
    have h := implNew_any q W
    rw [show brought q 1 4 = q by unfold brought; rw [if_neg (by omega), if_neg (by omega)]] at h
    exact h)
  go_wp2_with fail
  refine (EN.out _).mono ?_
  rintro e w2 ⟨rfl, hb⟩
  have B2 := Lib.hid (below_chain B1.out hb)
  have PC2 := Lib.hid (show ∀ j : Nat, j < 12 → ∃ x : Nat, x < 10000 ∧ w2.cell? ⟨gp, j, none⟩ = some (.int .i64 (x : Int)) from fun j hj => by
    obtain ⟨x, hx, hc⟩ := PC.out j hj
    exact ⟨x, hx, below_keep hb hc⟩)
  have c02 := Lib.hid (below_keep hb c0)
  clear hb PC B1 EN c0
  go_wp2_with fail
  generalize hV : (w2.alloc _) = V
  have R0 : InRound w2 q (.int .i64 0) (.int .i64 0) (.int .i64 0) V := ⟨0, 0, 0, 0, 0, w2.heap.size + 1, w2.heap.size + 1, q, 0, none, by omega, rfl, rfl, rfl, ⟨hq1, hq4, by omega, by omega, by omega, rfl, Nat.le_refl _⟩, by rw [← hV]; exact Blk.new _ _ _, row_none _ _, Nat.lt_succ_self _, by rw [← hV]; exact (Below.refl _ _).alloc (Nat.le_refl _) _⟩
  clear hV
  go_loopw [5, 6, 7] (fun sv cv iv wr => InRound w2 q sv cv iv wr) (fun _ _ i _ => 30 - (intOf i).toNat)
  case atStart => exact R0
  case round =>
    clear R0
    obtain ⟨k, sn, cm, m, c, lo, hi, a, b, A, hk, rfl, rfl, rfl, hinv, hblk, hrow, hlo, hbel⟩ := hrel
    have I := Lib.hid hinv
    have K := Lib.hid hblk
    have X := Lib.hid hrow
    have B := Lib.hid hbel
    have hsk := hinv.sk
    have hcs : cm ≤ sn := by have := hinv.sc; omega
    have hmq : m ≤ 4 := by have h1 := hinv.a0; have h2 := hinv.b0; have h3 := hinv.sum; omega
    have hjl := hblk.lt
    have hbs := hbel.size
    clear hinv hblk hrow hbel
    by_cases hlt : k < 30
    · obtain ⟨e7, he7⟩ : ∃ e : Int, (k : Int).tmod 7 = e := ⟨_, rfl⟩
      have b7 : 0 ≤ e7 ∧ e7 ≤ 6 := by rw [← he7, Int.tmod_eq_emod_of_nonneg (by omega)]; omega
      have n1 : IntKind.i64.wrap e7 = e7 := IntWalk.i64_in _ (by omega)
      obtain ⟨j, hj⟩ : ∃ j : Nat, 1 + e7 = (j : Int) := ⟨(1 + e7).toNat, by omega⟩
      have n2 : IntKind.i64.wrap (j : Int) = (j : Int) := IntWalk.i64_in _ (by omega)
      have i0 : (0 : Int) ≤ (j : Int) := by omega
      have i1 : (j : Int) < 12 := by omega
      obtain ⟨e2, he2⟩ : ∃ e : Int, (k : Int).tmod 2 = e := ⟨_, rfl⟩
      have b2 : 0 ≤ e2 ∧ e2 ≤ 1 := by rw [← he2, Int.tmod_eq_emod_of_nonneg (by omega)]; omega
      have n3 : IntKind.i64.wrap e2 = e2 := IntWalk.i64_in _ (by omega)
      obtain ⟨v, hv⟩ : ∃ v : Int, 3 + e2 = v := ⟨_, rfl⟩
      have n4 : IntKind.i64.wrap v = v := IntWalk.i64_in _ (by omega)
      have hv0 : ¬v = 0 := by omega
      obtain ⟨x, hx, cx'⟩ := PC2.out j (by omega)
      have cx := below_keep B.out cx'
      clear cx'
      obtain ⟨d, hd⟩ : ∃ d : Int, (x : Int).tmod v = d := ⟨_, rfl⟩
      have bd : 0 ≤ d ∧ d ≤ 9999 := by
        rw [← hd, Int.tmod_eq_emod_of_nonneg (by omega)]
        have h1 := Int.emod_nonneg (x : Int) hv0
        have h2 := Int.emod_lt_of_pos (x : Int) (show 0 < v by omega)
        omega
      have n5 : IntKind.i64.wrap d = d := IntWalk.i64_in _ (by omega)
      have hkw : IntKind.i64.wrap ((k : Int) + 1) = ((k + 1 : Nat) : Int) := by rw [IntWalk.i64_in _ (by omega)]; omega
      clear b7 b2 tb
      by_cases d0 : d = 0
      · have q0 : (d == 0) = true := by simpa using d0
        clear d0
        by_cases hm : m = 0
        · have TK : takeOk q a b (sn : Int) (cm : Int) (m : Int) (keyL cm m) = false := by subst hm; exact takeOk_no
          have TQ : takeQ false (keyL cm m) = keyL cm m := rfl
          have TM := keyL_len cm m
          have TR : takeR false (keyL cm m) = (0, (0, 0), 0, 0) := rfl
          have I9 := Lib.hid I.out.next
          have OK9 := Lib.hid (I.out.ok hk)
          clear hm
          have HTK := Lib.hid TK
          clear TK
          have HTQ := Lib.hid TQ
          clear TQ
          have HTM := Lib.hid TM
          clear TM
          have HTR := Lib.hid TR
          clear TR
          have x0 : wr.cell? ⟨w2.heap.size, 0, none⟩ = some (.int .i64 q) := by rw [K.out.cell]; rfl
          have x1 : wr.cell? ⟨w2.heap.size, 1, none⟩ = some (.slice A m c) := by rw [K.out.cell]; rfl
          have x2 : wr.cell? ⟨w2.heap.size, 2, none⟩ = some (.int .i64 a) := by rw [K.out.cell]; rfl
          have x3 : wr.cell? ⟨w2.heap.size, 3, none⟩ = some (.int .i64 b) := by rw [K.out.cell]; rfl
          have x4 : wr.cell? ⟨w2.heap.size, 4, none⟩ = some (.int .i64 (sn : Int)) := by rw [K.out.cell]; rfl
          have x5 : wr.cell? ⟨w2.heap.size, 5, none⟩ = some (.int .i64 (cm : Int)) := by rw [K.out.cell]; rfl
          go_wp2_with fail
          clear x0 x1 x2 x3 x4 x5
          generalize hW1 : (wr.alloc _) = W1
          have hb1 : Below wr.heap.size wr W1 := by rw [← hW1]; exact (Below.refl _ _).alloc (Nat.le_refl _) _
          have KR := Lib.hid (show Blk W1 wr.heap.size 30 #[.int .i64 0, .int .i64 0, .int .i64 0, .int .i64 0, .int .i64 0] by rw [← hW1]; exact Blk.new _ _ _)
          have ws1 : W1.heap.size = wr.heap.size + 1 := by rw [← hW1]; simp
          clear hW1
          have K1 := Lib.hid (K.out.below hb1)
          have X1 := Lib.hid (X.out.below hb1)
          have BB := Lib.hid (below_chain B.out hb1)
          clear hb1 K X B
          refine (implTake_any m (keyL cm m) (keyL_len _ _) A c X1.out.nil q a b (sn : Int) (cm : Int) (by omega) _ X1.out.rc (by omega) (r := false) (us := keyL cm m) (m := m) (q0 := 0) (q1 := 0) (q2 := 0) (q3 := 0) (q4 := 0) HTK.out HTQ.out HTM.out HTR.out).mono ?_
          rintro e w3 ⟨A1, c1, rfl, o1, hb1⟩
          obtain ⟨A1', c1', he, r1⟩ := row_of o1
          simp only [Value.slice.injEq, true_and] at he
          obtain ⟨rfl, rfl⟩ := he
          clear o1
          have ws3 := hb1.size
          have K3 := Lib.hid (K1.out.below hb1)
          have BW := Lib.hid (below_chain BB.out hb1)
          have KR3 := Lib.hid (KR.out.below hb1)
          clear KR
          clear hb1 K1 X1 BB
          have kl3 := K3.out.lt
          simp only [turnI, Bool.false_eq_true, if_false]
          have x0 : w3.cell? ⟨w2.heap.size, 0, none⟩ = some (.int .i64 q) := by rw [K3.out.cell]; rfl
          have xf0 := K3.out.frozen 0
          have x1 : w3.cell? ⟨w2.heap.size, 1, none⟩ = some (.slice A m c) := by rw [K3.out.cell]; rfl
          have xf1 := K3.out.frozen 1
          have x2 : w3.cell? ⟨w2.heap.size, 2, none⟩ = some (.int .i64 a) := by rw [K3.out.cell]; rfl
          have xf2 := K3.out.frozen 2
          have x3 : w3.cell? ⟨w2.heap.size, 3, none⟩ = some (.int .i64 b) := by rw [K3.out.cell]; rfl
          have xf3 := K3.out.frozen 3
          have x4 : w3.cell? ⟨w2.heap.size, 4, none⟩ = some (.int .i64 (sn : Int)) := by rw [K3.out.cell]; rfl
          have xf4 := K3.out.frozen 4
          have x5 : w3.cell? ⟨w2.heap.size, 5, none⟩ = some (.int .i64 (cm : Int)) := by rw [K3.out.cell]; rfl
          have xf5 := K3.out.frozen 5
          have z0 : w3.cell? ⟨wr.heap.size, 0, none⟩ = some (.int .i64 0) := by rw [KR3.out.cell]; rfl
          have zf0 := KR3.out.frozen 0
          have z1 : w3.cell? ⟨wr.heap.size, 1, none⟩ = some (.int .i64 0) := by rw [KR3.out.cell]; rfl
          have zf1 := KR3.out.frozen 1
          have z2 : w3.cell? ⟨wr.heap.size, 2, none⟩ = some (.int .i64 0) := by rw [KR3.out.cell]; rfl
          have zf2 := KR3.out.frozen 2
          have z3 : w3.cell? ⟨wr.heap.size, 3, none⟩ = some (.int .i64 0) := by rw [KR3.out.cell]; rfl
          have zf3 := KR3.out.frozen 3
          have z4 : w3.cell? ⟨wr.heap.size, 4, none⟩ = some (.int .i64 0) := by rw [KR3.out.cell]; rfl
          have zf4 := KR3.out.frozen 4
          go_upto_region 19 with fail
          clear x0 x1 x2 x3 x4 x5 xf0 xf1 xf2 xf3 xf4 xf5 z0 z1 z2 z3 z4 zf0 zf1 zf2 zf3 zf4
          generalize hV : (((((((((((w3.setCell _ _).setCell _ _).setCell _ _).setCell _ _).setCell _ _).setCell _ _).setCell _ _).setCell _ _).setCell _ _).setCell _ _).setCell _ _) = V1
          have KV := Lib.hid (show Blk V1 w2.heap.size 26 #[.int .i64 q, .slice A1 m c1, .int .i64 a, .int .i64 b, .int .i64 (sn : Int), .int .i64 (cm : Int)] by rw [← hV]; exact (((((((((((K3.out.put 0 _).put 1 _).put 2 _).put 3 _).put 4 _).put 5 _).other (by first | (simp; done) | (simp; omega) | omega) _).other (by first | (simp; done) | (simp; omega) | omega) _).other (by first | (simp; done) | (simp; omega) | omega) _).other (by first | (simp; done) | (simp; omega) | omega) _).other (by first | (simp; done) | (simp; omega) | omega) _))
          have KQ := Lib.hid (show Blk V1 wr.heap.size 30 #[.int .i64 0, .int .i64 0, .int .i64 0, .int .i64 0, .int .i64 0] by rw [← hV]; exact (((((((((((KR3.out.other (by first | (simp; done) | (simp; omega) | omega) _).other (by first | (simp; done) | (simp; omega) | omega) _).other (by first | (simp; done) | (simp; omega) | omega) _).other (by first | (simp; done) | (simp; omega) | omega) _).other (by first | (simp; done) | (simp; omega) | omega) _).other (by first | (simp; done) | (simp; omega) | omega) _).put 0 _).put 1 _).put 2 _).put 3 _).put 4 _))
          obtain ⟨lo1, hlo1, hi1, r2⟩ : ∃ lo1, w2.heap.size < lo1 ∧ ∃ hi1, Row V1 lo1 hi1 30 5 A1 m c1 (rcCells (keyL cm m)) := ⟨W1.heap.size, by omega, _, by rw [← hV]; exact (((((((((((r1.set _ (.inl (by (first | (simp; omega) | omega)))).set _ (.inl (by (first | (simp; omega) | omega)))).set _ (.inl (by (first | (simp; omega) | omega)))).set _ (.inl (by (first | (simp; omega) | omega)))).set _ (.inl (by (first | (simp; omega) | omega)))).set _ (.inl (by (first | (simp; omega) | omega)))).set _ (.inl (by (first | (simp; omega) | omega)))).set _ (.inl (by (first | (simp; omega) | omega)))).set _ (.inl (by (first | (simp; omega) | omega)))).set _ (.inl (by (first | (simp; omega) | omega)))).set _ (.inl (by (first | (simp; omega) | omega))))⟩
          have XV := Lib.hid r2
          have BV := Lib.hid (show Below w2.heap.size w2 V1 by rw [← hV]; exact (((((((((((BW.out.setCell (by first | (simp; done) | (simp; omega) | omega) _).setCell (by first | (simp; done) | (simp; omega) | omega) _).setCell (by first | (simp; done) | (simp; omega) | omega) _).setCell (by first | (simp; done) | (simp; omega) | omega) _).setCell (by first | (simp; done) | (simp; omega) | omega) _).setCell (by first | (simp; done) | (simp; omega) | omega) _).setCell (by first | (simp; done) | (simp; omega) | omega) _).setCell (by first | (simp; done) | (simp; omega) | omega) _).setCell (by first | (simp; done) | (simp; omega) | omega) _).setCell (by first | (simp; done) | (simp; omega) | omega) _).setCell (by first | (simp; done) | (simp; omega) | omega) _))
          clear hV r1 r2 K3 BW KR3
          have x0 : V1.cell? ⟨w2.heap.size, 0, none⟩ = some (.int .i64 q) := by rw [KV.out.cell]; rfl
          have x1 : V1.cell? ⟨w2.heap.size, 1, none⟩ = some (.slice A1 m c1) := by rw [KV.out.cell]; rfl
          have x2 : V1.cell? ⟨w2.heap.size, 2, none⟩ = some (.int .i64 a) := by rw [KV.out.cell]; rfl
          have x3 : V1.cell? ⟨w2.heap.size, 3, none⟩ = some (.int .i64 b) := by rw [KV.out.cell]; rfl
          have x4 : V1.cell? ⟨w2.heap.size, 4, none⟩ = some (.int .i64 (sn : Int)) := by rw [KV.out.cell]; rfl
          have x5 : V1.cell? ⟨w2.heap.size, 5, none⟩ = some (.int .i64 (cm : Int)) := by rw [KV.out.cell]; rfl
          have z0 : V1.cell? ⟨wr.heap.size, 0, none⟩ = some (.int .i64 0) := by rw [KQ.out.cell]; rfl
          have z1 : V1.cell? ⟨wr.heap.size, 1, none⟩ = some (.int .i64 0) := by rw [KQ.out.cell]; rfl
          have z2 : V1.cell? ⟨wr.heap.size, 2, none⟩ = some (.int .i64 0) := by rw [KQ.out.cell]; rfl
          have z3 : V1.cell? ⟨wr.heap.size, 3, none⟩ = some (.int .i64 0) := by rw [KQ.out.cell]; rfl
          have z4 : V1.cell? ⟨wr.heap.size, 4, none⟩ = some (.int .i64 0) := by rw [KQ.out.cell]; rfl
          go_wp2_with fail
          clear x0 x1 x2 x3 x4 x5 z0 z1 z2 z3 z4
          refine (specLkOk_any m (keyL cm m) (keyL_len _ _) A1 c1 q a b (sn : Int) (cm : Int) _ XV.out.rc (by omega)).mono ?_
          rintro e w5 ⟨rfl, hb5⟩
          rw [OK9.out]
          have K5 := Lib.hid (KV.out.below hb5)
          have X5 := Lib.hid (XV.out.below hb5)
          have B5 := Lib.hid (below_chain BV.out hb5)
          clear hb5
          have y0 : w5.cell? ⟨w2.heap.size, 0, none⟩ = some (.int .i64 q) := by rw [K5.out.cell]; rfl
          have y1 : w5.cell? ⟨w2.heap.size, 1, none⟩ = some (.slice A1 m c1) := by rw [K5.out.cell]; rfl
          have y2 : w5.cell? ⟨w2.heap.size, 2, none⟩ = some (.int .i64 a) := by rw [K5.out.cell]; rfl
          have y3 : w5.cell? ⟨w2.heap.size, 3, none⟩ = some (.int .i64 b) := by rw [K5.out.cell]; rfl
          have y4 : w5.cell? ⟨w2.heap.size, 4, none⟩ = some (.int .i64 (sn : Int)) := by rw [K5.out.cell]; rfl
          have y5 : w5.cell? ⟨w2.heap.size, 5, none⟩ = some (.int .i64 (cm : Int)) := by rw [K5.out.cell]; rfl
          go_wp2_with fail
          go_roundw
          case rel => exact ⟨k + 1, sn, cm, m, c1, lo1, hi1, a, b, A1, by omega, rfl, rfl, by go_num, I9.out, K5.out, X5.out, hlo1, B5.out⟩
          case measure => simp [intOf]; omega
        · obtain ⟨m', rfl⟩ : ∃ m', m = m' + 1 := ⟨m - 1, by omega⟩
          have TK := takeOk_yes I.out hk
          have TQ : takeQ true (keyL cm (m' + 1)) = keyL (cm + 1) m' := keyL_drop cm m'
          have TM := keyL_len (cm + 1) m'
          have TR := keyL_head cm m'
          have I9 := Lib.hid I.out.take
          have OK9 := Lib.hid (show okLk q a (b + 1) (sn : Int) ((cm : Int) + 1) (m' : Int) (keyL (cm + 1) m') = true by rw [show ((cm : Int) + 1) = ((cm + 1 : Nat) : Int) by omega]; exact I.out.take.ok (by omega))
          have hcw : IntKind.i64.wrap ((cm : Int) + 1) = (cm : Int) + 1 := IntWalk.i64_in _ (by omega)
          clear hm
          have HTK := Lib.hid TK
          clear TK
          have HTQ := Lib.hid TQ
          clear TQ
          have HTM := Lib.hid TM
          clear TM
          have HTR := Lib.hid TR
          clear TR
          have x0 : wr.cell? ⟨w2.heap.size, 0, none⟩ = some (.int .i64 q) := by rw [K.out.cell]; rfl
          have x1 : wr.cell? ⟨w2.heap.size, 1, none⟩ = some (.slice A (m' + 1) c) := by rw [K.out.cell]; rfl
          have x2 : wr.cell? ⟨w2.heap.size, 2, none⟩ = some (.int .i64 a) := by rw [K.out.cell]; rfl
          have x3 : wr.cell? ⟨w2.heap.size, 3, none⟩ = some (.int .i64 b) := by rw [K.out.cell]; rfl
          have x4 : wr.cell? ⟨w2.heap.size, 4, none⟩ = some (.int .i64 (sn : Int)) := by rw [K.out.cell]; rfl
          have x5 : wr.cell? ⟨w2.heap.size, 5, none⟩ = some (.int .i64 (cm : Int)) := by rw [K.out.cell]; rfl
          go_wp2_with fail
          clear x0 x1 x2 x3 x4 x5
          generalize hW1 : (wr.alloc _) = W1
          have hb1 : Below wr.heap.size wr W1 := by rw [← hW1]; exact (Below.refl _ _).alloc (Nat.le_refl _) _
          have KR := Lib.hid (show Blk W1 wr.heap.size 30 #[.int .i64 0, .int .i64 0, .int .i64 0, .int .i64 0, .int .i64 0] by rw [← hW1]; exact Blk.new _ _ _)
          have ws1 : W1.heap.size = wr.heap.size + 1 := by rw [← hW1]; simp
          clear hW1
          have K1 := Lib.hid (K.out.below hb1)
          have X1 := Lib.hid (X.out.below hb1)
          have BB := Lib.hid (below_chain B.out hb1)
          clear hb1 K X B
          refine (implTake_any (m' + 1) (keyL cm (m' + 1)) (keyL_len _ _) A c X1.out.nil q a b (sn : Int) (cm : Int) (by omega) _ X1.out.rc (by omega) (r := true) (us := keyL (cm + 1) m') (m := m') (q0 := 0) (q1 := 0) (q2 := 0) (q3 := (cm : Int)) (q4 := 0) HTK.out HTQ.out HTM.out HTR.out).mono ?_
          rintro e w3 ⟨A1, c1, rfl, o1, hb1⟩
          obtain ⟨A1', c1', he, r1⟩ := row_of o1
          simp only [Value.slice.injEq, true_and] at he
          obtain ⟨rfl, rfl⟩ := he
          clear o1
          have ws3 := hb1.size
          have K3 := Lib.hid (K1.out.below hb1)
          have BW := Lib.hid (below_chain BB.out hb1)
          have KR3 := Lib.hid (KR.out.below hb1)
          clear KR
          clear hb1 K1 X1 BB
          have kl3 := K3.out.lt
          simp only [turnI, if_true]
          have x0 : w3.cell? ⟨w2.heap.size, 0, none⟩ = some (.int .i64 q) := by rw [K3.out.cell]; rfl
          have xf0 := K3.out.frozen 0
          have x1 : w3.cell? ⟨w2.heap.size, 1, none⟩ = some (.slice A (m' + 1) c) := by rw [K3.out.cell]; rfl
          have xf1 := K3.out.frozen 1
          have x2 : w3.cell? ⟨w2.heap.size, 2, none⟩ = some (.int .i64 a) := by rw [K3.out.cell]; rfl
          have xf2 := K3.out.frozen 2
          have x3 : w3.cell? ⟨w2.heap.size, 3, none⟩ = some (.int .i64 b) := by rw [K3.out.cell]; rfl
          have xf3 := K3.out.frozen 3
          have x4 : w3.cell? ⟨w2.heap.size, 4, none⟩ = some (.int .i64 (sn : Int)) := by rw [K3.out.cell]; rfl
          have xf4 := K3.out.frozen 4
          have x5 : w3.cell? ⟨w2.heap.size, 5, none⟩ = some (.int .i64 (cm : Int)) := by rw [K3.out.cell]; rfl
          have xf5 := K3.out.frozen 5
          have z0 : w3.cell? ⟨wr.heap.size, 0, none⟩ = some (.int .i64 0) := by rw [KR3.out.cell]; rfl
          have zf0 := KR3.out.frozen 0
          have z1 : w3.cell? ⟨wr.heap.size, 1, none⟩ = some (.int .i64 0) := by rw [KR3.out.cell]; rfl
          have zf1 := KR3.out.frozen 1
          have z2 : w3.cell? ⟨wr.heap.size, 2, none⟩ = some (.int .i64 0) := by rw [KR3.out.cell]; rfl
          have zf2 := KR3.out.frozen 2
          have z3 : w3.cell? ⟨wr.heap.size, 3, none⟩ = some (.int .i64 0) := by rw [KR3.out.cell]; rfl
          have zf3 := KR3.out.frozen 3
          have z4 : w3.cell? ⟨wr.heap.size, 4, none⟩ = some (.int .i64 0) := by rw [KR3.out.cell]; rfl
          have zf4 := KR3.out.frozen 4
          go_upto_region 19 with fail
          clear x0 x1 x2 x3 x4 x5 xf0 xf1 xf2 xf3 xf4 xf5 z0 z1 z2 z3 z4 zf0 zf1 zf2 zf3 zf4
          generalize hV : (((((((((((w3.setCell _ _).setCell _ _).setCell _ _).setCell _ _).setCell _ _).setCell _ _).setCell _ _).setCell _ _).setCell _ _).setCell _ _).setCell _ _) = V1
          have KV := Lib.hid (show Blk V1 w2.heap.size 26 #[.int .i64 q, .slice A1 m' c1, .int .i64 a, .int .i64 (b + 1), .int .i64 (sn : Int), .int .i64 ((cm : Int) + 1)] by rw [← hV]; exact (((((((((((K3.out.put 0 _).put 1 _).put 2 _).put 3 _).put 4 _).put 5 _).other (by first | (simp; done) | (simp; omega) | omega) _).other (by first | (simp; done) | (simp; omega) | omega) _).other (by first | (simp; done) | (simp; omega) | omega) _).other (by first | (simp; done) | (simp; omega) | omega) _).other (by first | (simp; done) | (simp; omega) | omega) _))
          have KQ := Lib.hid (show Blk V1 wr.heap.size 30 #[.int .i64 0, .int .i64 0, .int .i64 0, .int .i64 (cm : Int), .int .i64 0] by rw [← hV]; exact (((((((((((KR3.out.other (by first | (simp; done) | (simp; omega) | omega) _).other (by first | (simp; done) | (simp; omega) | omega) _).other (by first | (simp; done) | (simp; omega) | omega) _).other (by first | (simp; done) | (simp; omega) | omega) _).other (by first | (simp; done) | (simp; omega) | omega) _).other (by first | (simp; done) | (simp; omega) | omega) _).put 0 _).put 1 _).put 2 _).put 3 _).put 4 _))
          obtain ⟨lo1, hlo1, hi1, r2⟩ : ∃ lo1, w2.heap.size < lo1 ∧ ∃ hi1, Row V1 lo1 hi1 30 5 A1 m' c1 (rcCells (keyL (cm + 1) m')) := ⟨W1.heap.size, by omega, _, by rw [← hV]; exact (((((((((((r1.set _ (.inl (by (first | (simp; omega) | omega)))).set _ (.inl (by (first | (simp; omega) | omega)))).set _ (.inl (by (first | (simp; omega) | omega)))).set _ (.inl (by (first | (simp; omega) | omega)))).set _ (.inl (by (first | (simp; omega) | omega)))).set _ (.inl (by (first | (simp; omega) | omega)))).set _ (.inl (by (first | (simp; omega) | omega)))).set _ (.inl (by (first | (simp; omega) | omega)))).set _ (.inl (by (first | (simp; omega) | omega)))).set _ (.inl (by (first | (simp; omega) | omega)))).set _ (.inl (by (first | (simp; omega) | omega))))⟩
          have XV := Lib.hid r2
          have BV := Lib.hid (show Below w2.heap.size w2 V1 by rw [← hV]; exact (((((((((((BW.out.setCell (by first | (simp; done) | (simp; omega) | omega) _).setCell (by first | (simp; done) | (simp; omega) | omega) _).setCell (by first | (simp; done) | (simp; omega) | omega) _).setCell (by first | (simp; done) | (simp; omega) | omega) _).setCell (by first | (simp; done) | (simp; omega) | omega) _).setCell (by first | (simp; done) | (simp; omega) | omega) _).setCell (by first | (simp; done) | (simp; omega) | omega) _).setCell (by first | (simp; done) | (simp; omega) | omega) _).setCell (by first | (simp; done) | (simp; omega) | omega) _).setCell (by first | (simp; done) | (simp; omega) | omega) _).setCell (by first | (simp; done) | (simp; omega) | omega) _))
          clear hV r1 r2 K3 BW KR3
          have x0 : V1.cell? ⟨w2.heap.size, 0, none⟩ = some (.int .i64 q) := by rw [KV.out.cell]; rfl
          have x1 : V1.cell? ⟨w2.heap.size, 1, none⟩ = some (.slice A1 m' c1) := by rw [KV.out.cell]; rfl
          have x2 : V1.cell? ⟨w2.heap.size, 2, none⟩ = some (.int .i64 a) := by rw [KV.out.cell]; rfl
          have x3 : V1.cell? ⟨w2.heap.size, 3, none⟩ = some (.int .i64 (b + 1)) := by rw [KV.out.cell]; rfl
          have x4 : V1.cell? ⟨w2.heap.size, 4, none⟩ = some (.int .i64 (sn : Int)) := by rw [KV.out.cell]; rfl
          have x5 : V1.cell? ⟨w2.heap.size, 5, none⟩ = some (.int .i64 ((cm : Int) + 1)) := by rw [KV.out.cell]; rfl
          have z0 : V1.cell? ⟨wr.heap.size, 0, none⟩ = some (.int .i64 0) := by rw [KQ.out.cell]; rfl
          have z1 : V1.cell? ⟨wr.heap.size, 1, none⟩ = some (.int .i64 0) := by rw [KQ.out.cell]; rfl
          have z2 : V1.cell? ⟨wr.heap.size, 2, none⟩ = some (.int .i64 0) := by rw [KQ.out.cell]; rfl
          have z3 : V1.cell? ⟨wr.heap.size, 3, none⟩ = some (.int .i64 (cm : Int)) := by rw [KQ.out.cell]; rfl
          have z4 : V1.cell? ⟨wr.heap.size, 4, none⟩ = some (.int .i64 0) := by rw [KQ.out.cell]; rfl
          go_wp2_with fail
          clear x0 x1 x2 x3 x4 x5 z0 z1 z2 z3 z4
          refine (specLkOk_any m' (keyL (cm + 1) m') (keyL_len _ _) A1 c1 q a (b + 1) (sn : Int) ((cm : Int) + 1) _ XV.out.rc (by omega)).mono ?_
          rintro e w5 ⟨rfl, hb5⟩
          rw [OK9.out]
          have K5 := Lib.hid (KV.out.below hb5)
          have X5 := Lib.hid (XV.out.below hb5)
          have B5 := Lib.hid (below_chain BV.out hb5)
          clear hb5
          have y0 : w5.cell? ⟨w2.heap.size, 0, none⟩ = some (.int .i64 q) := by rw [K5.out.cell]; rfl
          have y1 : w5.cell? ⟨w2.heap.size, 1, none⟩ = some (.slice A1 m' c1) := by rw [K5.out.cell]; rfl
          have y2 : w5.cell? ⟨w2.heap.size, 2, none⟩ = some (.int .i64 a) := by rw [K5.out.cell]; rfl
          have y3 : w5.cell? ⟨w2.heap.size, 3, none⟩ = some (.int .i64 (b + 1)) := by rw [K5.out.cell]; rfl
          have y4 : w5.cell? ⟨w2.heap.size, 4, none⟩ = some (.int .i64 (sn : Int)) := by rw [K5.out.cell]; rfl
          have y5 : w5.cell? ⟨w2.heap.size, 5, none⟩ = some (.int .i64 ((cm : Int) + 1)) := by rw [K5.out.cell]; rfl
          go_wp2_with fail
          go_roundw
          case rel => exact ⟨k + 1, sn, cm + 1, m', c1, lo1, hi1, a, (b + 1), A1, by omega, rfl, by go_num, by go_num, I9.out, K5.out, X5.out, hlo1, B5.out⟩
          case measure => simp [intOf]; omega
      by_cases d1 : d = 1
      · have q0 : (d == 0) = false := by simpa using d0
        have q1 : (d == 1) = true := by simpa using d1
        clear d0 d1
        by_cases hb0 : b = 0
        · have TK : backOk q a b (sn : Int) (cm : Int) (m : Int) (keyL cm m) = false := by subst hb0; exact backOk_no
          have I9 := Lib.hid I.out.next
          have OK9 := Lib.hid (I.out.ok hk)
          clear hb0
          have HTK := Lib.hid TK
          clear TK
          have x0 : wr.cell? ⟨w2.heap.size, 0, none⟩ = some (.int .i64 q) := by rw [K.out.cell]; rfl
          have x1 : wr.cell? ⟨w2.heap.size, 1, none⟩ = some (.slice A m c) := by rw [K.out.cell]; rfl
          have x2 : wr.cell? ⟨w2.heap.size, 2, none⟩ = some (.int .i64 a) := by rw [K.out.cell]; rfl
          have x3 : wr.cell? ⟨w2.heap.size, 3, none⟩ = some (.int .i64 b) := by rw [K.out.cell]; rfl
          have x4 : wr.cell? ⟨w2.heap.size, 4, none⟩ = some (.int .i64 (sn : Int)) := by rw [K.out.cell]; rfl
          have x5 : wr.cell? ⟨w2.heap.size, 5, none⟩ = some (.int .i64 (cm : Int)) := by rw [K.out.cell]; rfl
          go_wp2_with fail
          clear x0 x1 x2 x3 x4 x5
          have K1 := K
          have X1 := X
          have BB := B
          clear K X B
          refine (implBack_any m (keyL cm m) (keyL_len _ _) A c X1.out.nil q a b (sn : Int) (cm : Int) (by omega) _ X1.out.rc (by omega) (r := false) HTK.out).mono ?_
          rintro e w3 ⟨A1, c1, rfl, o1, hb1⟩
          obtain ⟨A1', c1', he, r1⟩ := row_of o1
          simp only [Value.slice.injEq, true_and] at he
          obtain ⟨rfl, rfl⟩ := he
          clear o1
          have ws3 := hb1.size
          have K3 := Lib.hid (K1.out.below hb1)
          have BW := Lib.hid (below_chain BB.out hb1)
          clear hb1 K1 X1 BB
          have kl3 := K3.out.lt
          simp only [turnI, Bool.false_eq_true, if_false]
          have x0 : w3.cell? ⟨w2.heap.size, 0, none⟩ = some (.int .i64 q) := by rw [K3.out.cell]; rfl
          have xf0 := K3.out.frozen 0
          have x1 : w3.cell? ⟨w2.heap.size, 1, none⟩ = some (.slice A m c) := by rw [K3.out.cell]; rfl
          have xf1 := K3.out.frozen 1
          have x2 : w3.cell? ⟨w2.heap.size, 2, none⟩ = some (.int .i64 a) := by rw [K3.out.cell]; rfl
          have xf2 := K3.out.frozen 2
          have x3 : w3.cell? ⟨w2.heap.size, 3, none⟩ = some (.int .i64 b) := by rw [K3.out.cell]; rfl
          have xf3 := K3.out.frozen 3
          have x4 : w3.cell? ⟨w2.heap.size, 4, none⟩ = some (.int .i64 (sn : Int)) := by rw [K3.out.cell]; rfl
          have xf4 := K3.out.frozen 4
          have x5 : w3.cell? ⟨w2.heap.size, 5, none⟩ = some (.int .i64 (cm : Int)) := by rw [K3.out.cell]; rfl
          have xf5 := K3.out.frozen 5
          go_upto_region 25 with fail
          clear x0 x1 x2 x3 x4 x5 xf0 xf1 xf2 xf3 xf4 xf5
          generalize hV : ((((((w3.setCell _ _).setCell _ _).setCell _ _).setCell _ _).setCell _ _).setCell _ _) = V1
          have KV := Lib.hid (show Blk V1 w2.heap.size 26 #[.int .i64 q, .slice A1 m c1, .int .i64 a, .int .i64 b, .int .i64 (sn : Int), .int .i64 (cm : Int)] by rw [← hV]; exact ((((((K3.out.put 0 _).put 1 _).put 2 _).put 3 _).put 4 _).put 5 _))
          obtain ⟨lo1, hlo1, hi1, r2⟩ : ∃ lo1, w2.heap.size < lo1 ∧ ∃ hi1, Row V1 lo1 hi1 30 5 A1 m c1 (rcCells (keyL cm m)) := ⟨wr.heap.size, by omega, _, by rw [← hV]; exact ((((((r1.set _ (.inl (by (first | (simp; omega) | omega)))).set _ (.inl (by (first | (simp; omega) | omega)))).set _ (.inl (by (first | (simp; omega) | omega)))).set _ (.inl (by (first | (simp; omega) | omega)))).set _ (.inl (by (first | (simp; omega) | omega)))).set _ (.inl (by (first | (simp; omega) | omega))))⟩
          have XV := Lib.hid r2
          have BV := Lib.hid (show Below w2.heap.size w2 V1 by rw [← hV]; exact ((((((BW.out.setCell (by first | (simp; done) | (simp; omega) | omega) _).setCell (by first | (simp; done) | (simp; omega) | omega) _).setCell (by first | (simp; done) | (simp; omega) | omega) _).setCell (by first | (simp; done) | (simp; omega) | omega) _).setCell (by first | (simp; done) | (simp; omega) | omega) _).setCell (by first | (simp; done) | (simp; omega) | omega) _))
          clear hV r1 r2 K3 BW
          have x0 : V1.cell? ⟨w2.heap.size, 0, none⟩ = some (.int .i64 q) := by rw [KV.out.cell]; rfl
          have x1 : V1.cell? ⟨w2.heap.size, 1, none⟩ = some (.slice A1 m c1) := by rw [KV.out.cell]; rfl
          have x2 : V1.cell? ⟨w2.heap.size, 2, none⟩ = some (.int .i64 a) := by rw [KV.out.cell]; rfl
          have x3 : V1.cell? ⟨w2.heap.size, 3, none⟩ = some (.int .i64 b) := by rw [KV.out.cell]; rfl
          have x4 : V1.cell? ⟨w2.heap.size, 4, none⟩ = some (.int .i64 (sn : Int)) := by rw [KV.out.cell]; rfl
          have x5 : V1.cell? ⟨w2.heap.size, 5, none⟩ = some (.int .i64 (cm : Int)) := by rw [KV.out.cell]; rfl
          go_wp2_with fail
          clear x0 x1 x2 x3 x4 x5
          refine (specLkOk_any m (keyL cm m) (keyL_len _ _) A1 c1 q a b (sn : Int) (cm : Int) _ XV.out.rc (by omega)).mono ?_
          rintro e w5 ⟨rfl, hb5⟩
          rw [OK9.out]
          have K5 := Lib.hid (KV.out.below hb5)
          have X5 := Lib.hid (XV.out.below hb5)
          have B5 := Lib.hid (below_chain BV.out hb5)
          clear hb5
          have y0 : w5.cell? ⟨w2.heap.size, 0, none⟩ = some (.int .i64 q) := by rw [K5.out.cell]; rfl
          have y1 : w5.cell? ⟨w2.heap.size, 1, none⟩ = some (.slice A1 m c1) := by rw [K5.out.cell]; rfl
          have y2 : w5.cell? ⟨w2.heap.size, 2, none⟩ = some (.int .i64 a) := by rw [K5.out.cell]; rfl
          have y3 : w5.cell? ⟨w2.heap.size, 3, none⟩ = some (.int .i64 b) := by rw [K5.out.cell]; rfl
          have y4 : w5.cell? ⟨w2.heap.size, 4, none⟩ = some (.int .i64 (sn : Int)) := by rw [K5.out.cell]; rfl
          have y5 : w5.cell? ⟨w2.heap.size, 5, none⟩ = some (.int .i64 (cm : Int)) := by rw [K5.out.cell]; rfl
          go_wp2_with fail
          go_roundw
          case rel => exact ⟨k + 1, sn, cm, m, c1, lo1, hi1, a, b, A1, by omega, rfl, rfl, by go_num, I9.out, K5.out, X5.out, hlo1, B5.out⟩
          case measure => simp [intOf]; omega
        · have TK := backOk_yes I.out hk hb0
          have I9 := Lib.hid (show Go.Proofs.Ythkkleicekhelaa.hexes.Inv q (k + 1) sn cm m (a + 1) (b + -1) by rw [show b + -1 = b - 1 by omega]; exact I.out.back hb0)
          have OK9 := Lib.hid (show okLk q (a + 1) (b + -1) (sn : Int) (cm : Int) (m : Int) (keyL cm m) = true by rw [show b + -1 = b - 1 by omega]; exact (I.out.back hb0).ok (by omega))
          clear hb0
          have HTK := Lib.hid TK
          clear TK
          have x0 : wr.cell? ⟨w2.heap.size, 0, none⟩ = some (.int .i64 q) := by rw [K.out.cell]; rfl
          have x1 : wr.cell? ⟨w2.heap.size, 1, none⟩ = some (.slice A m c) := by rw [K.out.cell]; rfl
          have x2 : wr.cell? ⟨w2.heap.size, 2, none⟩ = some (.int .i64 a) := by rw [K.out.cell]; rfl
          have x3 : wr.cell? ⟨w2.heap.size, 3, none⟩ = some (.int .i64 b) := by rw [K.out.cell]; rfl
          have x4 : wr.cell? ⟨w2.heap.size, 4, none⟩ = some (.int .i64 (sn : Int)) := by rw [K.out.cell]; rfl
          have x5 : wr.cell? ⟨w2.heap.size, 5, none⟩ = some (.int .i64 (cm : Int)) := by rw [K.out.cell]; rfl
          go_wp2_with fail
          clear x0 x1 x2 x3 x4 x5
          have K1 := K
          have X1 := X
          have BB := B
          clear K X B
          refine (implBack_any m (keyL cm m) (keyL_len _ _) A c X1.out.nil q a b (sn : Int) (cm : Int) (by omega) _ X1.out.rc (by omega) (r := true) HTK.out).mono ?_
          rintro e w3 ⟨A1, c1, rfl, o1, hb1⟩
          obtain ⟨A1', c1', he, r1⟩ := row_of o1
          simp only [Value.slice.injEq, true_and] at he
          obtain ⟨rfl, rfl⟩ := he
          clear o1
          have ws3 := hb1.size
          have K3 := Lib.hid (K1.out.below hb1)
          have BW := Lib.hid (below_chain BB.out hb1)
          clear hb1 K1 X1 BB
          have kl3 := K3.out.lt
          simp only [turnI, if_true]
          have x0 : w3.cell? ⟨w2.heap.size, 0, none⟩ = some (.int .i64 q) := by rw [K3.out.cell]; rfl
          have xf0 := K3.out.frozen 0
          have x1 : w3.cell? ⟨w2.heap.size, 1, none⟩ = some (.slice A m c) := by rw [K3.out.cell]; rfl
          have xf1 := K3.out.frozen 1
          have x2 : w3.cell? ⟨w2.heap.size, 2, none⟩ = some (.int .i64 a) := by rw [K3.out.cell]; rfl
          have xf2 := K3.out.frozen 2
          have x3 : w3.cell? ⟨w2.heap.size, 3, none⟩ = some (.int .i64 b) := by rw [K3.out.cell]; rfl
          have xf3 := K3.out.frozen 3
          have x4 : w3.cell? ⟨w2.heap.size, 4, none⟩ = some (.int .i64 (sn : Int)) := by rw [K3.out.cell]; rfl
          have xf4 := K3.out.frozen 4
          have x5 : w3.cell? ⟨w2.heap.size, 5, none⟩ = some (.int .i64 (cm : Int)) := by rw [K3.out.cell]; rfl
          have xf5 := K3.out.frozen 5
          go_upto_region 25 with fail
          clear x0 x1 x2 x3 x4 x5 xf0 xf1 xf2 xf3 xf4 xf5
          generalize hV : ((((((w3.setCell _ _).setCell _ _).setCell _ _).setCell _ _).setCell _ _).setCell _ _) = V1
          have KV := Lib.hid (show Blk V1 w2.heap.size 26 #[.int .i64 q, .slice A1 m c1, .int .i64 (a + 1), .int .i64 (b + -1), .int .i64 (sn : Int), .int .i64 (cm : Int)] by rw [← hV]; exact ((((((K3.out.put 0 _).put 1 _).put 2 _).put 3 _).put 4 _).put 5 _))
          obtain ⟨lo1, hlo1, hi1, r2⟩ : ∃ lo1, w2.heap.size < lo1 ∧ ∃ hi1, Row V1 lo1 hi1 30 5 A1 m c1 (rcCells (keyL cm m)) := ⟨wr.heap.size, by omega, _, by rw [← hV]; exact ((((((r1.set _ (.inl (by (first | (simp; omega) | omega)))).set _ (.inl (by (first | (simp; omega) | omega)))).set _ (.inl (by (first | (simp; omega) | omega)))).set _ (.inl (by (first | (simp; omega) | omega)))).set _ (.inl (by (first | (simp; omega) | omega)))).set _ (.inl (by (first | (simp; omega) | omega))))⟩
          have XV := Lib.hid r2
          have BV := Lib.hid (show Below w2.heap.size w2 V1 by rw [← hV]; exact ((((((BW.out.setCell (by first | (simp; done) | (simp; omega) | omega) _).setCell (by first | (simp; done) | (simp; omega) | omega) _).setCell (by first | (simp; done) | (simp; omega) | omega) _).setCell (by first | (simp; done) | (simp; omega) | omega) _).setCell (by first | (simp; done) | (simp; omega) | omega) _).setCell (by first | (simp; done) | (simp; omega) | omega) _))
          clear hV r1 r2 K3 BW
          have x0 : V1.cell? ⟨w2.heap.size, 0, none⟩ = some (.int .i64 q) := by rw [KV.out.cell]; rfl
          have x1 : V1.cell? ⟨w2.heap.size, 1, none⟩ = some (.slice A1 m c1) := by rw [KV.out.cell]; rfl
          have x2 : V1.cell? ⟨w2.heap.size, 2, none⟩ = some (.int .i64 (a + 1)) := by rw [KV.out.cell]; rfl
          have x3 : V1.cell? ⟨w2.heap.size, 3, none⟩ = some (.int .i64 (b + -1)) := by rw [KV.out.cell]; rfl
          have x4 : V1.cell? ⟨w2.heap.size, 4, none⟩ = some (.int .i64 (sn : Int)) := by rw [KV.out.cell]; rfl
          have x5 : V1.cell? ⟨w2.heap.size, 5, none⟩ = some (.int .i64 (cm : Int)) := by rw [KV.out.cell]; rfl
          go_wp2_with fail
          clear x0 x1 x2 x3 x4 x5
          refine (specLkOk_any m (keyL cm m) (keyL_len _ _) A1 c1 q (a + 1) (b + -1) (sn : Int) (cm : Int) _ XV.out.rc (by omega)).mono ?_
          rintro e w5 ⟨rfl, hb5⟩
          rw [OK9.out]
          have K5 := Lib.hid (KV.out.below hb5)
          have X5 := Lib.hid (XV.out.below hb5)
          have B5 := Lib.hid (below_chain BV.out hb5)
          clear hb5
          have y0 : w5.cell? ⟨w2.heap.size, 0, none⟩ = some (.int .i64 q) := by rw [K5.out.cell]; rfl
          have y1 : w5.cell? ⟨w2.heap.size, 1, none⟩ = some (.slice A1 m c1) := by rw [K5.out.cell]; rfl
          have y2 : w5.cell? ⟨w2.heap.size, 2, none⟩ = some (.int .i64 (a + 1)) := by rw [K5.out.cell]; rfl
          have y3 : w5.cell? ⟨w2.heap.size, 3, none⟩ = some (.int .i64 (b + -1)) := by rw [K5.out.cell]; rfl
          have y4 : w5.cell? ⟨w2.heap.size, 4, none⟩ = some (.int .i64 (sn : Int)) := by rw [K5.out.cell]; rfl
          have y5 : w5.cell? ⟨w2.heap.size, 5, none⟩ = some (.int .i64 (cm : Int)) := by rw [K5.out.cell]; rfl
          go_wp2_with fail
          go_roundw
          case rel => exact ⟨k + 1, sn, cm, m, c1, lo1, hi1, (a + 1), (b + -1), A1, by omega, rfl, rfl, by go_num, I9.out, K5.out, X5.out, hlo1, B5.out⟩
          case measure => simp [intOf]; omega
      have q0 : (d == 0) = false := by simpa using d0
      have q1 : (d == 1) = false := by simpa using d1
      clear d0 d1
      by_cases ha0 : a = 0
      · have TK : sendOk q a b (sn : Int) (cm : Int) (m : Int) (keyL cm m) (0, (0, 0), (sn : Int), 0) = false := by subst ha0; exact sendOk_no
        have TQ : sendQ false (keyL cm m) (0, (0, 0), (sn : Int), 0) = keyL cm m := rfl
        have TM := keyL_len cm m
        have I9 := Lib.hid I.out.next
        have OK9 := Lib.hid (I.out.ok hk)
        clear ha0
        have HTK := Lib.hid TK
        clear TK
        have HTQ := Lib.hid TQ
        clear TQ
        have HTM := Lib.hid TM
        clear TM
        have x0 : wr.cell? ⟨w2.heap.size, 0, none⟩ = some (.int .i64 q) := by rw [K.out.cell]; rfl
        have x1 : wr.cell? ⟨w2.heap.size, 1, none⟩ = some (.slice A m c) := by rw [K.out.cell]; rfl
        have x2 : wr.cell? ⟨w2.heap.size, 2, none⟩ = some (.int .i64 a) := by rw [K.out.cell]; rfl
        have x3 : wr.cell? ⟨w2.heap.size, 3, none⟩ = some (.int .i64 b) := by rw [K.out.cell]; rfl
        have x4 : wr.cell? ⟨w2.heap.size, 4, none⟩ = some (.int .i64 (sn : Int)) := by rw [K.out.cell]; rfl
        have x5 : wr.cell? ⟨w2.heap.size, 5, none⟩ = some (.int .i64 (cm : Int)) := by rw [K.out.cell]; rfl
        go_wp2_with fail
        clear x0 x1 x2 x3 x4 x5
        have K1 := K
        have X1 := X
        have BB := B
        clear K X B
        refine (implSend_any m (keyL cm m) (keyL_len _ _) A c X1.out.nil q a b (sn : Int) (cm : Int) 0 0 0 (sn : Int) 0 (by omega) _ X1.out.rc (by omega) (r := false) (us := keyL cm m) (m := m) HTK.out HTQ.out HTM.out).mono ?_
        rintro e w3 ⟨A1, c1, rfl, o1, hb1⟩
        obtain ⟨A1', c1', he, r1⟩ := row_of o1
        simp only [Value.slice.injEq, true_and] at he
        obtain ⟨rfl, rfl⟩ := he
        clear o1
        have ws3 := hb1.size
        have K3 := Lib.hid (K1.out.below hb1)
        have BW := Lib.hid (below_chain BB.out hb1)
        clear hb1 K1 X1 BB
        have kl3 := K3.out.lt
        simp only [turnI, Bool.false_eq_true, if_false]
        have x0 : w3.cell? ⟨w2.heap.size, 0, none⟩ = some (.int .i64 q) := by rw [K3.out.cell]; rfl
        have xf0 := K3.out.frozen 0
        have x1 : w3.cell? ⟨w2.heap.size, 1, none⟩ = some (.slice A m c) := by rw [K3.out.cell]; rfl
        have xf1 := K3.out.frozen 1
        have x2 : w3.cell? ⟨w2.heap.size, 2, none⟩ = some (.int .i64 a) := by rw [K3.out.cell]; rfl
        have xf2 := K3.out.frozen 2
        have x3 : w3.cell? ⟨w2.heap.size, 3, none⟩ = some (.int .i64 b) := by rw [K3.out.cell]; rfl
        have xf3 := K3.out.frozen 3
        have x4 : w3.cell? ⟨w2.heap.size, 4, none⟩ = some (.int .i64 (sn : Int)) := by rw [K3.out.cell]; rfl
        have xf4 := K3.out.frozen 4
        have x5 : w3.cell? ⟨w2.heap.size, 5, none⟩ = some (.int .i64 (cm : Int)) := by rw [K3.out.cell]; rfl
        have xf5 := K3.out.frozen 5
        go_upto_region 13 with fail
        clear x0 x1 x2 x3 x4 x5 xf0 xf1 xf2 xf3 xf4 xf5
        generalize hV : ((((((w3.setCell _ _).setCell _ _).setCell _ _).setCell _ _).setCell _ _).setCell _ _) = V1
        have KV := Lib.hid (show Blk V1 w2.heap.size 26 #[.int .i64 q, .slice A1 m c1, .int .i64 a, .int .i64 b, .int .i64 (sn : Int), .int .i64 (cm : Int)] by rw [← hV]; exact ((((((K3.out.put 0 _).put 1 _).put 2 _).put 3 _).put 4 _).put 5 _))
        obtain ⟨lo1, hlo1, hi1, r2⟩ : ∃ lo1, w2.heap.size < lo1 ∧ ∃ hi1, Row V1 lo1 hi1 30 5 A1 m c1 (rcCells (keyL cm m)) := ⟨wr.heap.size, by omega, _, by rw [← hV]; exact ((((((r1.set _ (.inl (by (first | (simp; omega) | omega)))).set _ (.inl (by (first | (simp; omega) | omega)))).set _ (.inl (by (first | (simp; omega) | omega)))).set _ (.inl (by (first | (simp; omega) | omega)))).set _ (.inl (by (first | (simp; omega) | omega)))).set _ (.inl (by (first | (simp; omega) | omega))))⟩
        have XV := Lib.hid r2
        have BV := Lib.hid (show Below w2.heap.size w2 V1 by rw [← hV]; exact ((((((BW.out.setCell (by first | (simp; done) | (simp; omega) | omega) _).setCell (by first | (simp; done) | (simp; omega) | omega) _).setCell (by first | (simp; done) | (simp; omega) | omega) _).setCell (by first | (simp; done) | (simp; omega) | omega) _).setCell (by first | (simp; done) | (simp; omega) | omega) _).setCell (by first | (simp; done) | (simp; omega) | omega) _))
        clear hV r1 r2 K3 BW
        have x0 : V1.cell? ⟨w2.heap.size, 0, none⟩ = some (.int .i64 q) := by rw [KV.out.cell]; rfl
        have x1 : V1.cell? ⟨w2.heap.size, 1, none⟩ = some (.slice A1 m c1) := by rw [KV.out.cell]; rfl
        have x2 : V1.cell? ⟨w2.heap.size, 2, none⟩ = some (.int .i64 a) := by rw [KV.out.cell]; rfl
        have x3 : V1.cell? ⟨w2.heap.size, 3, none⟩ = some (.int .i64 b) := by rw [KV.out.cell]; rfl
        have x4 : V1.cell? ⟨w2.heap.size, 4, none⟩ = some (.int .i64 (sn : Int)) := by rw [KV.out.cell]; rfl
        have x5 : V1.cell? ⟨w2.heap.size, 5, none⟩ = some (.int .i64 (cm : Int)) := by rw [KV.out.cell]; rfl
        go_wp2_with fail
        clear x0 x1 x2 x3 x4 x5
        refine (specLkOk_any m (keyL cm m) (keyL_len _ _) A1 c1 q a b (sn : Int) (cm : Int) _ XV.out.rc (by omega)).mono ?_
        rintro e w5 ⟨rfl, hb5⟩
        rw [OK9.out]
        have K5 := Lib.hid (KV.out.below hb5)
        have X5 := Lib.hid (XV.out.below hb5)
        have B5 := Lib.hid (below_chain BV.out hb5)
        clear hb5
        have y0 : w5.cell? ⟨w2.heap.size, 0, none⟩ = some (.int .i64 q) := by rw [K5.out.cell]; rfl
        have y1 : w5.cell? ⟨w2.heap.size, 1, none⟩ = some (.slice A1 m c1) := by rw [K5.out.cell]; rfl
        have y2 : w5.cell? ⟨w2.heap.size, 2, none⟩ = some (.int .i64 a) := by rw [K5.out.cell]; rfl
        have y3 : w5.cell? ⟨w2.heap.size, 3, none⟩ = some (.int .i64 b) := by rw [K5.out.cell]; rfl
        have y4 : w5.cell? ⟨w2.heap.size, 4, none⟩ = some (.int .i64 (sn : Int)) := by rw [K5.out.cell]; rfl
        have y5 : w5.cell? ⟨w2.heap.size, 5, none⟩ = some (.int .i64 (cm : Int)) := by rw [K5.out.cell]; rfl
        go_wp2_with fail
        go_roundw
        case rel => exact ⟨k + 1, sn, cm, m, c1, lo1, hi1, a, b, A1, by omega, rfl, rfl, by go_num, I9.out, K5.out, X5.out, hlo1, B5.out⟩
        case measure => simp [intOf]; omega
      · have TK := sendOk_yes I.out hk ha0
        have TQ := send_keyL I.out
        have TM := keyL_len cm (m + 1)
        have I9 := Lib.hid (show Go.Proofs.Ythkkleicekhelaa.hexes.Inv q (k + 1) (sn + 1) cm (m + 1) (a + -1) b by rw [show a + -1 = a - 1 by omega]; exact I.out.send ha0)
        have OK9 := Lib.hid (show okLk q (a + -1) b ((sn : Int) + 1) (cm : Int) ((m + 1 : Nat) : Int) (keyL cm (m + 1)) = true by rw [show ((sn : Int) + 1) = ((sn + 1 : Nat) : Int) by omega, show a + -1 = a - 1 by omega]; exact (I.out.send ha0).ok (by omega))
        have hsw : IntKind.i64.wrap ((sn : Int) + 1) = (sn : Int) + 1 := IntWalk.i64_in _ (by omega)
        clear ha0
        have HTK := Lib.hid TK
        clear TK
        have HTQ := Lib.hid TQ
        clear TQ
        have HTM := Lib.hid TM
        clear TM
        have x0 : wr.cell? ⟨w2.heap.size, 0, none⟩ = some (.int .i64 q) := by rw [K.out.cell]; rfl
        have x1 : wr.cell? ⟨w2.heap.size, 1, none⟩ = some (.slice A m c) := by rw [K.out.cell]; rfl
        have x2 : wr.cell? ⟨w2.heap.size, 2, none⟩ = some (.int .i64 a) := by rw [K.out.cell]; rfl
        have x3 : wr.cell? ⟨w2.heap.size, 3, none⟩ = some (.int .i64 b) := by rw [K.out.cell]; rfl
        have x4 : wr.cell? ⟨w2.heap.size, 4, none⟩ = some (.int .i64 (sn : Int)) := by rw [K.out.cell]; rfl
        have x5 : wr.cell? ⟨w2.heap.size, 5, none⟩ = some (.int .i64 (cm : Int)) := by rw [K.out.cell]; rfl
        go_wp2_with fail
        clear x0 x1 x2 x3 x4 x5
        have K1 := K
        have X1 := X
        have BB := B
        clear K X B
        refine (implSend_any m (keyL cm m) (keyL_len _ _) A c X1.out.nil q a b (sn : Int) (cm : Int) 0 0 0 (sn : Int) 0 (by omega) _ X1.out.rc (by omega) (r := true) (us := keyL cm (m + 1)) (m := m + 1) HTK.out HTQ.out HTM.out).mono ?_
        rintro e w3 ⟨A1, c1, rfl, o1, hb1⟩
        obtain ⟨A1', c1', he, r1⟩ := row_of o1
        simp only [Value.slice.injEq, true_and] at he
        obtain ⟨rfl, rfl⟩ := he
        clear o1
        have ws3 := hb1.size
        have K3 := Lib.hid (K1.out.below hb1)
        have BW := Lib.hid (below_chain BB.out hb1)
        clear hb1 K1 X1 BB
        have kl3 := K3.out.lt
        simp only [turnI, if_true]
        have x0 : w3.cell? ⟨w2.heap.size, 0, none⟩ = some (.int .i64 q) := by rw [K3.out.cell]; rfl
        have xf0 := K3.out.frozen 0
        have x1 : w3.cell? ⟨w2.heap.size, 1, none⟩ = some (.slice A m c) := by rw [K3.out.cell]; rfl
        have xf1 := K3.out.frozen 1
        have x2 : w3.cell? ⟨w2.heap.size, 2, none⟩ = some (.int .i64 a) := by rw [K3.out.cell]; rfl
        have xf2 := K3.out.frozen 2
        have x3 : w3.cell? ⟨w2.heap.size, 3, none⟩ = some (.int .i64 b) := by rw [K3.out.cell]; rfl
        have xf3 := K3.out.frozen 3
        have x4 : w3.cell? ⟨w2.heap.size, 4, none⟩ = some (.int .i64 (sn : Int)) := by rw [K3.out.cell]; rfl
        have xf4 := K3.out.frozen 4
        have x5 : w3.cell? ⟨w2.heap.size, 5, none⟩ = some (.int .i64 (cm : Int)) := by rw [K3.out.cell]; rfl
        have xf5 := K3.out.frozen 5
        go_upto_region 13 with fail
        clear x0 x1 x2 x3 x4 x5 xf0 xf1 xf2 xf3 xf4 xf5
        generalize hV : ((((((w3.setCell _ _).setCell _ _).setCell _ _).setCell _ _).setCell _ _).setCell _ _) = V1
        have KV := Lib.hid (show Blk V1 w2.heap.size 26 #[.int .i64 q, .slice A1 (m + 1) c1, .int .i64 (a + -1), .int .i64 b, .int .i64 ((sn : Int) + 1), .int .i64 (cm : Int)] by rw [← hV]; exact ((((((K3.out.put 0 _).put 1 _).put 2 _).put 3 _).put 4 _).put 5 _))
        obtain ⟨lo1, hlo1, hi1, r2⟩ : ∃ lo1, w2.heap.size < lo1 ∧ ∃ hi1, Row V1 lo1 hi1 30 5 A1 (m + 1) c1 (rcCells (keyL cm (m + 1))) := ⟨wr.heap.size, by omega, _, by rw [← hV]; exact ((((((r1.set _ (.inl (by (first | (simp; omega) | omega)))).set _ (.inl (by (first | (simp; omega) | omega)))).set _ (.inl (by (first | (simp; omega) | omega)))).set _ (.inl (by (first | (simp; omega) | omega)))).set _ (.inl (by (first | (simp; omega) | omega)))).set _ (.inl (by (first | (simp; omega) | omega))))⟩
        have XV := Lib.hid r2
        have BV := Lib.hid (show Below w2.heap.size w2 V1 by rw [← hV]; exact ((((((BW.out.setCell (by first | (simp; done) | (simp; omega) | omega) _).setCell (by first | (simp; done) | (simp; omega) | omega) _).setCell (by first | (simp; done) | (simp; omega) | omega) _).setCell (by first | (simp; done) | (simp; omega) | omega) _).setCell (by first | (simp; done) | (simp; omega) | omega) _).setCell (by first | (simp; done) | (simp; omega) | omega) _))
        clear hV r1 r2 K3 BW
        have x0 : V1.cell? ⟨w2.heap.size, 0, none⟩ = some (.int .i64 q) := by rw [KV.out.cell]; rfl
        have x1 : V1.cell? ⟨w2.heap.size, 1, none⟩ = some (.slice A1 (m + 1) c1) := by rw [KV.out.cell]; rfl
        have x2 : V1.cell? ⟨w2.heap.size, 2, none⟩ = some (.int .i64 (a + -1)) := by rw [KV.out.cell]; rfl
        have x3 : V1.cell? ⟨w2.heap.size, 3, none⟩ = some (.int .i64 b) := by rw [KV.out.cell]; rfl
        have x4 : V1.cell? ⟨w2.heap.size, 4, none⟩ = some (.int .i64 ((sn : Int) + 1)) := by rw [KV.out.cell]; rfl
        have x5 : V1.cell? ⟨w2.heap.size, 5, none⟩ = some (.int .i64 (cm : Int)) := by rw [KV.out.cell]; rfl
        go_wp2_with fail
        clear x0 x1 x2 x3 x4 x5
        refine (specLkOk_any (m + 1) (keyL cm (m + 1)) (keyL_len _ _) A1 c1 q (a + -1) b ((sn : Int) + 1) (cm : Int) _ XV.out.rc (by omega)).mono ?_
        rintro e w5 ⟨rfl, hb5⟩
        rw [OK9.out]
        have K5 := Lib.hid (KV.out.below hb5)
        have X5 := Lib.hid (XV.out.below hb5)
        have B5 := Lib.hid (below_chain BV.out hb5)
        clear hb5
        have y0 : w5.cell? ⟨w2.heap.size, 0, none⟩ = some (.int .i64 q) := by rw [K5.out.cell]; rfl
        have y1 : w5.cell? ⟨w2.heap.size, 1, none⟩ = some (.slice A1 (m + 1) c1) := by rw [K5.out.cell]; rfl
        have y2 : w5.cell? ⟨w2.heap.size, 2, none⟩ = some (.int .i64 (a + -1)) := by rw [K5.out.cell]; rfl
        have y3 : w5.cell? ⟨w2.heap.size, 3, none⟩ = some (.int .i64 b) := by rw [K5.out.cell]; rfl
        have y4 : w5.cell? ⟨w2.heap.size, 4, none⟩ = some (.int .i64 ((sn : Int) + 1)) := by rw [K5.out.cell]; rfl
        have y5 : w5.cell? ⟨w2.heap.size, 5, none⟩ = some (.int .i64 (cm : Int)) := by rw [K5.out.cell]; rfl
        go_wp2_with fail
        go_roundw
        case rel => exact ⟨k + 1, sn + 1, cm, (m + 1), c1, lo1, hi1, (a + -1), b, A1, by omega, by go_num, rfl, by go_num, I9.out, K5.out, X5.out, hlo1, B5.out⟩
        case measure => simp [intOf]; omega
    · have ms : IntKind.i64.wrap ((sn : Int) - (cm : Int)) = (m : Int) := by have h := I.out.sc; rw [IntWalk.i64_in _ (by omega)]; omega
      have mm : ((m : Int) == (m : Int)) = true := by simp
      have qq : (q == q) = true := by simp
      have cy : wr.cell? ⟨gp, 0, none⟩ = some (.int .i64 (y0 : Int)) := below_keep B.out c02.out
      have x0 : wr.cell? ⟨w2.heap.size, 0, none⟩ = some (.int .i64 q) := by rw [K.out.cell]; rfl
      have x1 : wr.cell? ⟨w2.heap.size, 1, none⟩ = some (.slice A m c) := by rw [K.out.cell]; rfl
      have BE := Lib.hid (below_chain B2.out B.out)
      clear hcs hsk
      go_wp2_with fail
      go_quiet (fail)
      go_wp2
      go_ret
      exact ⟨rfl, belowN BE.out _⟩
end Go.Proofs.Ythkkleicekhelaa.fnInOrder
