/-
  StepAll of the program as two rows.
  laws.sameRecords.
  Drawn stamps: the contracts of spec.l02Stamp, l02Any and l02Two.
-/
import Derived.Test.YtlanmkimaambgaaS34
import Derived.Test.YtlanmkimaambgaaS7
import Derived.Test.YtlanmkimaambgaaS8
import Derived.Deep.RegionHeld3
import Derived.Test.YtlanmkimaambgaaS0
import Derived.Test.YtlanmkimaambgaaS1

namespace Go.Proofs.Ytlanmkimaambgaa.hexes
open Go.RowKit

theorem implAll_rows {gs : List Nd} {wk cp : Int} {A : Option Addr} {n c : Nat} {ces : List Ce} {A2 : Option Addr} {n2 c2 : Nat} {rcs : List Rc} {A1 : Option Addr} {n1 c1 : Nat} {mo : Int} {us : List Ce} {out : List Rc} {nn m3 m4 : Nat} (hq : allG gs wk cp ces rcs mo = ((us, out), nn)) (h3 : us.length = m3) (h4 : out.length = m4) (hl : gs.length = n) (ho : ∀ x ∈ gs, x.2.2.2.length ≤ 1048576) (hn : n ≤ 1048576) (hl2 : ces.length = n2) (hA2 : A2 = none → c2 = 0) (hn2 : n2 ≤ 1048576) (hl1 : rcs.length = n1) (hA1 : A1 = none → c1 = 0) (hn1 : n1 ≤ 1048576) (w : World) (h : Nds w A gs) (h2 : Ces w A2 ces) (h1 : Rcs w A1 rcs) :
    Calls Try.prog 16 #[.agg #[.slice A n c, .int .i64 wk, .int .i64 cp], .slice A2 n2 c2, .slice A1 n1 c1, .int .i64 mo] w fun e w' => ∃ A3 c3 A4 c4, e = .returned (.tuple #[.slice A3 m3 c3, .slice A4 m4 c4, .int .i64 (nn : Int)]) ∧ Row w' w.heap.size w'.heap.size 75 4 A3 m3 c3 (ceCells us) ∧ Win w' w.heap.size w'.heap.size A4 m4 c4 out ∧ Below w.heap.size w w' :=
  (implAll_any gs wk cp A n c hl ho hn ces A2 n2 c2 hl2 hA2 hn2 rcs A1 n1 c1 hl1 hA1 hn1 mo w h h2 h1).mono fun _ _ he => he.rows hq h3 h4
end Go.Proofs.Ytlanmkimaambgaa.hexes

namespace Go.Proofs.Ytlanmkimaambgaa.hexes
open Go.RowKit

set_option maxRecDepth 100000 in
theorem lrcSame_same (n : Nat) (zs ys : List Rc) (hz : zs.length = n) (hy : ys.length = n) (A1 A2 : Option Addr) (c1 c2 : Nat) (w : World) (h1 : Rcs w A1 zs) (h2 : Rcs w A2 ys) (hn : n ≤ 4194304) :
    Calls Try.prog 11 #[.slice A1 n c1, .slice A2 n c2] w fun e w' => e = .returned (.bool (decide (zs = ys))) ∧ Below w.heap.size w w' := by
  have H1 := Lib.hid h1
  have H2 := Lib.hid h2
  have HZ := Lib.hid hz
  have HY := Lib.hid hy
  clear h1 h2 hz hy
  go_enter Try.func11, Try.ntmps11
  go_wp2
  go_loopw [5] (fun i wr => ∃ k : Nat, k ≤ n ∧ i = .int .i64 k ∧ zs.take k = ys.take k ∧ Below w.heap.size w wr) (fun i _ => n - (intOf i).toNat)
  case atStart => exact ⟨0, Nat.zero_le _, rfl, rfl, Below.refl _ _⟩
  case round =>
    obtain ⟨k, hk, rfl, ht, hb⟩ := hrel
    have HT := Lib.hid ht
    have HB := Lib.hid hb
    by_cases hlt : k < n
    · have l1 : k < zs.length := by rw [HZ.out]; exact hlt
      have l2 : k < ys.length := by rw [HY.out]; exact hlt
      obtain ⟨b1, o1, p0, p1, p2, p3, p4, rfl, x1, e0, e1, e2, e3, e4⟩ := (H1.out.below hb).at l1
      obtain ⟨b2, o2, q0, q1, q2, q3, q4, rfl, x2, f0, f1, f2, f3, f4⟩ := (H2.out.below hb).at l2
      have X1 := Lib.hid x1
      have X2 := Lib.hid x2
      have i0 : (0 : Int) ≤ (k : Int) := by omega
      have i1 : (k : Int) < (n : Int) := by omega
      clear ht hb x1 x2
      by_cases he : p0 = q0 ∧ p1 = q1 ∧ p2 = q2 ∧ p3 = q3 ∧ p4 = q4
      · obtain ⟨rfl, rfl, rfl, rfl, rfl⟩ := he
        have HT2 := Lib.hid (take_step_rc l1 l2 HT.out (X1.out.trans X2.out.symm))
        clear HT X1 X2 l1 l2
        go_wp2_with fail
        go_region_held3 (fun w' => w'.cell? ⟨b1, o1 + k * 5, none⟩ = some (.int .i64 p0) ∧ w'.cell? ⟨b1, o1 + k * 5 + 1, none⟩ = some (.int .i64 p1) ∧ w'.cell? ⟨b1, o1 + k * 5 + 2, none⟩ = some (.int .i64 p2) ∧ w'.cell? ⟨b1, o1 + k * 5 + 3, none⟩ = some (.int .i64 p3) ∧ w'.cell? ⟨b1, o1 + k * 5 + 4, none⟩ = some (.int .i64 p4) ∧ w'.cell? ⟨b2, o2 + k * 5, none⟩ = some (.int .i64 p0) ∧ w'.cell? ⟨b2, o2 + k * 5 + 1, none⟩ = some (.int .i64 p1) ∧ w'.cell? ⟨b2, o2 + k * 5 + 2, none⟩ = some (.int .i64 p2) ∧ w'.cell? ⟨b2, o2 + k * 5 + 3, none⟩ = some (.int .i64 p3) ∧ w'.cell? ⟨b2, o2 + k * 5 + 4, none⟩ = some (.int .i64 p4))
          (((try go_split_ands); refine ⟨?_, ?_, ?_, ?_, ?_, ?_, ?_, ?_, ?_, ?_⟩ <;> (repeat (first | with_reducible assumption | with_reducible refine drew_keep ?_))))
          (fail)
        go_wp2
        go_roundw
        case rel => exact ⟨k + 1, by omega, by go_num, HT2.out, HB.out.drew⟩
        case measure => simp [intOf]; omega
      · have hne : decide (zs = ys) = false := by
          simp only [decide_eq_false_iff_not]
          rintro rfl
          have := X1.out.symm.trans X2.out
          simp only [Prod.mk.injEq, and_assoc] at this
          exact he this
        have HN := Lib.hid hne
        clear HT X1 X2 l1 l2 hne
        by_cases h0 : p0 = q0
        · subst h0
          by_cases h1 : p1 = q1
          · subst h1
            by_cases h2 : p2 = q2
            · subst h2
              by_cases h3 : p3 = q3
              · subst h3
                have h4 : ¬p4 = q4 := fun h => he (by simp [h])
                clear he
                go_wp2_with fail
                go_region_held3 (fun w' => w'.cell? ⟨b1, o1 + k * 5, none⟩ = some (.int .i64 p0) ∧ w'.cell? ⟨b1, o1 + k * 5 + 1, none⟩ = some (.int .i64 p1) ∧ w'.cell? ⟨b1, o1 + k * 5 + 2, none⟩ = some (.int .i64 p2) ∧ w'.cell? ⟨b1, o1 + k * 5 + 3, none⟩ = some (.int .i64 p3) ∧ w'.cell? ⟨b1, o1 + k * 5 + 4, none⟩ = some (.int .i64 p4) ∧ w'.cell? ⟨b2, o2 + k * 5, none⟩ = some (.int .i64 p0) ∧ w'.cell? ⟨b2, o2 + k * 5 + 1, none⟩ = some (.int .i64 p1) ∧ w'.cell? ⟨b2, o2 + k * 5 + 2, none⟩ = some (.int .i64 p2) ∧ w'.cell? ⟨b2, o2 + k * 5 + 3, none⟩ = some (.int .i64 p3) ∧ w'.cell? ⟨b2, o2 + k * 5 + 4, none⟩ = some (.int .i64 q4))
                  (((try go_split_ands); refine ⟨?_, ?_, ?_, ?_, ?_, ?_, ?_, ?_, ?_, ?_⟩ <;> (repeat (first | with_reducible assumption | with_reducible refine drew_keep ?_))))
                  (fail)
                go_wp2
                go_ret
                exact ⟨congrArg (fun b => Ending.returned (Value.bool b)) HN.out.symm, HB.out.drew⟩
              · skip
                clear he
                go_wp2_with fail
                go_region_held3 (fun w' => w'.cell? ⟨b1, o1 + k * 5, none⟩ = some (.int .i64 p0) ∧ w'.cell? ⟨b1, o1 + k * 5 + 1, none⟩ = some (.int .i64 p1) ∧ w'.cell? ⟨b1, o1 + k * 5 + 2, none⟩ = some (.int .i64 p2) ∧ w'.cell? ⟨b1, o1 + k * 5 + 3, none⟩ = some (.int .i64 p3) ∧ w'.cell? ⟨b1, o1 + k * 5 + 4, none⟩ = some (.int .i64 p4) ∧ w'.cell? ⟨b2, o2 + k * 5, none⟩ = some (.int .i64 p0) ∧ w'.cell? ⟨b2, o2 + k * 5 + 1, none⟩ = some (.int .i64 p1) ∧ w'.cell? ⟨b2, o2 + k * 5 + 2, none⟩ = some (.int .i64 p2) ∧ w'.cell? ⟨b2, o2 + k * 5 + 3, none⟩ = some (.int .i64 q3) ∧ w'.cell? ⟨b2, o2 + k * 5 + 4, none⟩ = some (.int .i64 q4))
                  (((try go_split_ands); refine ⟨?_, ?_, ?_, ?_, ?_, ?_, ?_, ?_, ?_, ?_⟩ <;> (repeat (first | with_reducible assumption | with_reducible refine drew_keep ?_))))
                  (fail)
                go_wp2
                go_ret
                exact ⟨congrArg (fun b => Ending.returned (Value.bool b)) HN.out.symm, HB.out.drew⟩
            · skip
              clear he
              go_wp2_with fail
              go_region_held3 (fun w' => w'.cell? ⟨b1, o1 + k * 5, none⟩ = some (.int .i64 p0) ∧ w'.cell? ⟨b1, o1 + k * 5 + 1, none⟩ = some (.int .i64 p1) ∧ w'.cell? ⟨b1, o1 + k * 5 + 2, none⟩ = some (.int .i64 p2) ∧ w'.cell? ⟨b1, o1 + k * 5 + 3, none⟩ = some (.int .i64 p3) ∧ w'.cell? ⟨b1, o1 + k * 5 + 4, none⟩ = some (.int .i64 p4) ∧ w'.cell? ⟨b2, o2 + k * 5, none⟩ = some (.int .i64 p0) ∧ w'.cell? ⟨b2, o2 + k * 5 + 1, none⟩ = some (.int .i64 p1) ∧ w'.cell? ⟨b2, o2 + k * 5 + 2, none⟩ = some (.int .i64 q2) ∧ w'.cell? ⟨b2, o2 + k * 5 + 3, none⟩ = some (.int .i64 q3) ∧ w'.cell? ⟨b2, o2 + k * 5 + 4, none⟩ = some (.int .i64 q4))
                (((try go_split_ands); refine ⟨?_, ?_, ?_, ?_, ?_, ?_, ?_, ?_, ?_, ?_⟩ <;> (repeat (first | with_reducible assumption | with_reducible refine drew_keep ?_))))
                (fail)
              go_wp2
              go_ret
              exact ⟨congrArg (fun b => Ending.returned (Value.bool b)) HN.out.symm, HB.out.drew⟩
          · skip
            clear he
            go_wp2_with fail
            go_region_held3 (fun w' => w'.cell? ⟨b1, o1 + k * 5, none⟩ = some (.int .i64 p0) ∧ w'.cell? ⟨b1, o1 + k * 5 + 1, none⟩ = some (.int .i64 p1) ∧ w'.cell? ⟨b1, o1 + k * 5 + 2, none⟩ = some (.int .i64 p2) ∧ w'.cell? ⟨b1, o1 + k * 5 + 3, none⟩ = some (.int .i64 p3) ∧ w'.cell? ⟨b1, o1 + k * 5 + 4, none⟩ = some (.int .i64 p4) ∧ w'.cell? ⟨b2, o2 + k * 5, none⟩ = some (.int .i64 p0) ∧ w'.cell? ⟨b2, o2 + k * 5 + 1, none⟩ = some (.int .i64 q1) ∧ w'.cell? ⟨b2, o2 + k * 5 + 2, none⟩ = some (.int .i64 q2) ∧ w'.cell? ⟨b2, o2 + k * 5 + 3, none⟩ = some (.int .i64 q3) ∧ w'.cell? ⟨b2, o2 + k * 5 + 4, none⟩ = some (.int .i64 q4))
              (((try go_split_ands); refine ⟨?_, ?_, ?_, ?_, ?_, ?_, ?_, ?_, ?_, ?_⟩ <;> (repeat (first | with_reducible assumption | with_reducible refine drew_keep ?_))))
              (fail)
            go_wp2
            go_ret
            exact ⟨congrArg (fun b => Ending.returned (Value.bool b)) HN.out.symm, HB.out.drew⟩
        · skip
          clear he
          go_wp2_with fail
          go_region_held3 (fun w' => w'.cell? ⟨b1, o1 + k * 5, none⟩ = some (.int .i64 p0) ∧ w'.cell? ⟨b1, o1 + k * 5 + 1, none⟩ = some (.int .i64 p1) ∧ w'.cell? ⟨b1, o1 + k * 5 + 2, none⟩ = some (.int .i64 p2) ∧ w'.cell? ⟨b1, o1 + k * 5 + 3, none⟩ = some (.int .i64 p3) ∧ w'.cell? ⟨b1, o1 + k * 5 + 4, none⟩ = some (.int .i64 p4) ∧ w'.cell? ⟨b2, o2 + k * 5, none⟩ = some (.int .i64 q0) ∧ w'.cell? ⟨b2, o2 + k * 5 + 1, none⟩ = some (.int .i64 q1) ∧ w'.cell? ⟨b2, o2 + k * 5 + 2, none⟩ = some (.int .i64 q2) ∧ w'.cell? ⟨b2, o2 + k * 5 + 3, none⟩ = some (.int .i64 q3) ∧ w'.cell? ⟨b2, o2 + k * 5 + 4, none⟩ = some (.int .i64 q4))
            (((try go_split_ands); refine ⟨?_, ?_, ?_, ?_, ?_, ?_, ?_, ?_, ?_, ?_⟩ <;> (repeat (first | with_reducible assumption | with_reducible refine drew_keep ?_))))
            (fail)
          go_wp2
          go_ret
          exact ⟨congrArg (fun b => Ending.returned (Value.bool b)) HN.out.symm, HB.out.drew⟩
    · have hkn : k = n := by omega
      have heq : zs = ys := by
        have h3 := HT.out
        rw [List.take_of_length_le (by rw [HZ.out]; omega), List.take_of_length_le (by rw [HY.out]; omega)] at h3
        exact h3
      have hd : decide (zs = ys) = true := by simp [heq]
      have HD := Lib.hid hd
      clear heq hd HT ht
      go_wp2
      go_ret
      exact ⟨congrArg (fun b => Ending.returned (Value.bool b)) HD.out.symm, HB.out⟩

theorem lrcSame_any (n m : Nat) (zs ys : List Rc) (hz : zs.length = n) (hy : ys.length = m) (A1 A2 : Option Addr) (c1 c2 : Nat) (w : World) (h1 : Rcs w A1 zs) (h2 : Rcs w A2 ys) (hn : n ≤ 4194304) :
    Calls Try.prog 11 #[.slice A1 n c1, .slice A2 m c2] w fun e w' => e = .returned (.bool (decide (zs = ys))) ∧ Below w.heap.size w w' := by
  by_cases h : n = m
  · subst h
    exact lrcSame_same n zs ys hz hy A1 A2 c1 c2 w h1 h2 hn
  · have hd : decide (zs = ys) = false := by
      simp only [decide_eq_false_iff_not]
      rintro rfl
      omega
    rw [hd]
    have hc : ((n : Int) != (m : Int)) = true := by simp; omega
    clear hz hy h1 h2 hd
    go_enter Try.func11, Try.ntmps11
    go_wp2
    go_ret
    exact ⟨rfl, Below.refl _ _⟩
theorem sameRc_is {w : World} {A A' : Option Addr} {n c c' : Nat} {zs : List Rc} (hz : zs.length = n) (hn : n ≤ 4194304) (h : Rcs w A zs) (h' : Rcs w A' zs) : Calls Try.prog 11 #[.slice A n c, .slice A' n c'] w fun e w' => e = .returned (.bool true) ∧ Below w.heap.size w w' := by
  have := lrcSame_any n n zs zs hz hz A A' c c' w h h' hn
  rwa [decide_eq_true (rfl : zs = zs)] at this
end Go.Proofs.Ytlanmkimaambgaa.hexes

namespace Go.Proofs.Ytlanmkimaambgaa.hexes
open Go.RowKit

def In64 (x : Int) : Prop := -9223372036854775808 ≤ x ∧ x ≤ 9223372036854775807

/-- The cursor in a world that has only grown. -/
theorem Cursor.grown {w w' : World} {c len cap : Nat} {A : Option Addr} (h : Cursor w c A len cap) (hg : w.grownBy w' none) : Cursor w' c A len cap := by
  obtain ⟨i, hh, hi, hblk⟩ := h.at_
  exact ⟨⟨i, hh, hi, hblk.grown hg (by simp)⟩, h.bytes.grown ⟨hg.os, hg.tape, hg.output, hg.size, fun k hk _ => hg.block k hk (by simp)⟩⟩
theorem Cursor.lt {w : World} {c len cap : Nat} {A : Option Addr} (h : Cursor w c A len cap) : c < w.heap.size := by
  obtain ⟨i, hh, hi, hblk⟩ := h.at_
  exact hblk.lt

theorem Cursor.back {w w2 w3 : World} {c len cap : Nat} {A : Option Addr} (h : Cursor w c A len cap) (h2 : Cursor w2 c A len cap) (hg : w.grownBy w3 (some c)) (hb : w3.heap[c]? = w2.heap[c]?) : Cursor w3 c A len cap := by
  obtain ⟨i, hh, hi, hblk⟩ := h2.at_
  exact ⟨⟨i, hh, hi, hb.trans hblk⟩, h.bytes.grown hg⟩
theorem grown_set_new {a w : World} {row : Option Nat} (h : a.grownBy w row) {p : Addr} (hp : a.heap.size ≤ p.block) (u : Value) : a.grownBy (w.setCell p u) row :=
  ⟨h.os, h.tape, h.output, by simpa [World.setCell] using h.size, fun i hi hne => (Below.heap_setCell w p u i (by omega)).trans (h.block i hi hne)⟩
theorem grown_wide {a w : World} {row : Option Nat} (h : a.grownBy w none) : a.grownBy w row := ⟨h.os, h.tape, h.output, h.size, fun k hk _ => h.block k hk (by simp)⟩

/-- How a drawn stamp ends: a stamp, the cursor, nothing else written. -/
def StampEnd (w : World) (c : Nat) (A : Option Addr) (len cap : Nat) (e : Ending) (w' : World) : Prop :=
  ∃ x y : Int, In64 x ∧ In64 y ∧ e = .returned (.agg #[.int .i64 x, .int .i64 y]) ∧ Cursor w' c A len cap ∧ w.grownBy w' (some c)

set_option maxRecDepth 100000 in
theorem stamp_draw (w : World) (c : Nat) (A : Option Addr) (len cap : Nat) (hlen : len ≤ 2097152) (hcur : Cursor w c A len cap) :
    Calls Try.prog 88 #[.pointer (some ⟨c, 0, none⟩)] w (StampEnd w c A len cap) := by
  have hc := hcur.lt
  have HC := Lib.hid hcur
  clear hcur
  go_enter Try.func88, Try.ntmps88
  go_wp2_with fail
  generalize hW : w.alloc _ = W
  have g0 : w.grownBy W none := by rw [← hW]; exact World.grownBy_alloc w _ none
  have b0 : Blk W w.heap.size 29 #[.int .i64 0, .int .i64 0] := by rw [← hW]; exact Blk.new _ _ _
  refine (below_any 4 (by omega) (by omega) W c A len cap hlen (HC.out.grown g0)).mono ?_
  rintro e w1 ⟨x, hx, rfl, hc1, g1⟩
  have b1 := b0.grown g1 (by simp; omega)
  have C1 := Lib.hid hc1
  have G1 := Lib.hid (grown_trans (row := some c) (grown_wide g0) g1)
  have BK1 := Lib.hid b1
  clear hc1 g1 b0 b1 g0 hW
  go_wp2_with fail
  refine (below_any 5 (by omega) (by omega) w1 c A len cap hlen C1.out).mono ?_
  rintro e w2 ⟨y, hy, rfl, hc2, g2⟩
  have b2 := BK1.out.grown g2 (by simp; omega)
  have C2 := Lib.hid hc2
  have G2 := Lib.hid (grown_trans G1.out g2)
  have d0 : w2.cell? ⟨w.heap.size, 0, none⟩ = some (.int .i64 0) := by rw [b2.cell]; rfl
  have d1 : w2.cell? ⟨w.heap.size, 1, none⟩ = some (.int .i64 0) := by rw [b2.cell]; rfl
  have f0 := b2.frozen 0
  have f1 := b2.frozen 1
  have BK2 := Lib.hid b2
  clear hc2 g2 G1 BK1 C1 b2
  go_wp2_with fail
  generalize hW3 : (w2.setCell _ _).setCell _ _ = W3
  have b3 : Blk W3 w.heap.size 29 #[.int .i64 (x : Int), .int .i64 (y : Int)] := by rw [← hW3]; exact (BK2.out.put 0 _).put 1 _
  have g3 : w.grownBy W3 (some c) := by rw [← hW3]; exact grown_set_new (grown_set_new G2.out (by simp) _) (by simp) _
  have k3 : W3.heap[c]? = w2.heap[c]? := by rw [← hW3]; exact (Below.heap_setCell _ _ _ c (by simp; omega)).trans (Below.heap_setCell _ _ _ c (by simp; omega))
  have e0 : W3.cell? ⟨w.heap.size, 0, none⟩ = some (.int .i64 (x : Int)) := by rw [b3.cell]; rfl
  have e1 : W3.cell? ⟨w.heap.size, 1, none⟩ = some (.int .i64 (y : Int)) := by rw [b3.cell]; rfl
  exact bodyPost_ret (v := .agg #[.int .i64 (x : Int), .int .i64 (y : Int)]) (by simp [results, Try.results88, go_sem, e0, e1]) rfl ⟨x, y, ⟨by omega, by omega⟩, ⟨by omega, by omega⟩, rfl, HC.out.back C2.out g3 k3, g3⟩

theorem once_any (n : Nat) (h0 : 0 < n) (h1 : n ≤ 4294967296) (w : World) (c : Nat) (A : Option Addr) (len cap : Nat) (hlen : len ≤ 2097152) (hcur : Cursor w c A len cap) :
    Calls Try.prog 33 #[.pointer (some ⟨c, 0, none⟩), .int .i64 (n : Int)] w fun e w' => ∃ b : Bool, e = .returned (.bool b) ∧ Cursor w' c A len cap ∧ w.grownBy w' (some c) := by
  have HC := Lib.hid hcur
  clear hcur
  go_enter Try.func33, Try.ntmps33
  go_wp2_with fail
  refine (below_any n h0 h1 w c A len cap hlen HC.out).mono ?_
  rintro e w1 ⟨x, hx, rfl, hc1, g1⟩
  have C1 := Lib.hid hc1
  have G1 := Lib.hid g1
  clear hc1 g1
  go_wp2
  go_ret
  exact ⟨_, rfl, C1.out, G1.out⟩

/-- How a picked number ends. -/
def PickEnd (w : World) (c : Nat) (A : Option Addr) (len cap : Nat) (ns : List Int) (e : Ending) (w' : World) : Prop :=
  ∃ n ∈ ns, e = .returned (.int .i64 n) ∧ Cursor w' c A len cap ∧ w.grownBy w' (some c)

set_option maxRecDepth 100000 in
theorem pickInt_any (w : World) (c g : Nat) (A : Option Addr) (len cap m : Nat) (ns : List Int) (hm : ns.length = m) (h0 : 0 < m) (h1 : m ≤ 256) (hlen : len ≤ 2097152) (hcur : Cursor w c A len cap) (hgc : g ≠ c)
    (hblk : Blk w g 3 (ns.map fun n => Value.int .i64 n).toArray) :
    Calls Try.prog 52 #[.pointer (some ⟨c, 0, none⟩), .slice (some ⟨g, 0, none⟩) m m] w (PickEnd w c A len cap ns) := by
  have HC := Lib.hid hcur
  have HB := Lib.hid hblk
  clear hcur hblk
  go_enter Try.func52, Try.ntmps52
  go_wp2_with fail
  refine (below_any m h0 (by omega) w c A len cap hlen HC.out).mono ?_
  rintro e w1 ⟨x, hx, rfl, hc1, g1⟩
  have hb1 := HB.out.grown g1 (by simpa using hgc)
  have hxl : x < ns.length := by omega
  have d0 : w1.cell? ⟨g, x, none⟩ = some (.int .i64 (ns[x])) := by rw [hb1.cell]; simp [hxl]
  have C1 := Lib.hid hc1
  have G1 := Lib.hid g1
  have j0 : (0 : Int) ≤ (x : Int) := by omega
  have j1 : (x : Int) < (m : Int) := by omega
  clear hc1 g1 hb1 HC HB
  go_wp2
  go_ret
  exact ⟨_, List.getElem_mem hxl, rfl, C1.out, G1.out⟩

set_option maxRecDepth 100000 in
set_option maxHeartbeats 1000000 in
theorem any_draw (w : World) (c : Nat) (A : Option Addr) (len cap : Nat) (hlen : len ≤ 2097152) (hcur : Cursor w c A len cap) :
    Calls Try.prog 66 #[.pointer (some ⟨c, 0, none⟩)] w (StampEnd w c A len cap) := by
  have hc := hcur.lt
  have HC := Lib.hid hcur
  clear hcur
  go_enter Try.func66, Try.ntmps66
  go_wp2_with fail
  generalize hW : w.alloc _ = W
  have g0 : w.grownBy W none := by rw [← hW]; exact World.grownBy_alloc w _ none
  have b0 : Blk W w.heap.size 29 #[.int .i64 0, .int .i64 0] := by rw [← hW]; exact Blk.new _ _ _
  refine (stamp_draw W c A len cap hlen (HC.out.grown g0)).mono ?_
  rintro e w1 ⟨x, y, hx, hy, rfl, hc1, g1⟩
  have b1 := b0.grown g1 (by simp; omega)
  have C1 := Lib.hid hc1
  have G1 := Lib.hid (grown_trans (row := some c) (grown_wide g0) g1)
  have R1 := Lib.hid b1
  clear hc1 g1 b0 b1 g0 hW
  go_wp2_with fail
  generalize hW2 : w1.alloc _ = W2
  have g2 : w1.grownBy W2 none := by rw [← hW2]; exact World.grownBy_alloc w1 _ none
  have s2 : Blk W2 w1.heap.size 29 #[.int .i64 x, .int .i64 y] := by rw [← hW2]; exact Blk.new _ _ _
  have hc1 := C1.out.lt
  have hr1 := R1.out.lt
  refine (below_any 10 (by omega) (by omega) W2 c A len cap hlen (C1.out.grown g2)).mono ?_
  rintro e w2 ⟨n, hn, rfl, hc2, g3⟩
  have S2 := Lib.hid (s2.grown g3 (by simp; omega))
  have R2 := Lib.hid ((R1.out.grown g2 (by simp)).grown g3 (by simp; omega))
  have C2 := Lib.hid hc2
  have G2 := Lib.hid (grown_trans (grown_trans G1.out (grown_wide g2)) g3)
  clear hc2 g3 s2 g2 hW2 C1 R1 G1
  by_cases n0 : n = 0
  · subst n0
    · skip
      go_wp2_with fail
      generalize hW3 : w2.alloc _ = W3
      have g3 : w2.grownBy W3 none := by rw [← hW3]; exact World.grownBy_alloc w2 _ none
      have p3 : Blk W3 w2.heap.size 3 (([-1, 3, 4, 9223372036854775807] : List Int).map fun n => Value.int .i64 n).toArray := by rw [← hW3]; exact Blk.new _ _ _
      have hs2 := S2.out.lt
      have hc2 := C2.out.lt
      refine (pickInt_any W3 c w2.heap.size A len cap 4 [-1, 3, 4, 9223372036854775807] rfl (by omega) (by omega) hlen (C2.out.grown g3) (by omega) p3).mono ?_
      rintro e w4 ⟨v, hv, rfl, hc4, g4⟩
      have s4 := (S2.out.grown g3 (by simp)).grown g4 (by simp; omega)
      have r4 := (R2.out.grown g3 (by simp)).grown g4 (by simp; omega)
      have C4 := Lib.hid hc4
      have G4 := Lib.hid (grown_trans (grown_trans G2.out (grown_wide g3)) g4)
      have hv64 : In64 v := by
        simp only [List.mem_cons, List.not_mem_nil, or_false] at hv
        unfold In64
        omega
      have d0 : w4.cell? ⟨w1.heap.size, 0, none⟩ = some (.int .i64 x) := by rw [s4.cell]; rfl
      have d1 : w4.cell? ⟨w1.heap.size, 1, none⟩ = some (.int .i64 y) := by rw [s4.cell]; rfl
      have f0 := s4.frozen 0
      have f1 := s4.frozen 1
      have d2 : w4.cell? ⟨w.heap.size, 0, none⟩ = some (.int .i64 0) := by rw [r4.cell]; rfl
      have d3 : w4.cell? ⟨w.heap.size, 1, none⟩ = some (.int .i64 0) := by rw [r4.cell]; rfl
      have f2 := r4.frozen 0
      have f3 := r4.frozen 1
      have S4 := Lib.hid s4
      have R4 := Lib.hid r4
      clear hc4 g4 s4 r4 p3 g3 hW3 hv S2 R2 C2 G2 hc2
      go_wp2_with fail
      generalize hWf : ((w4.setCell _ _).setCell _ _).setCell _ _ = Wf
      have bf : Blk Wf w.heap.size 29 #[.int .i64 v, .int .i64 y] := by rw [← hWf]; exact ((R4.out.other (by simp; omega) _).put 0 _).put 1 _
      have gf : w.grownBy Wf (some c) := by rw [← hWf]; exact grown_set_new (grown_set_new (grown_set_new G4.out (by simp; omega) _) (by simp) _) (by simp) _
      have kf : Wf.heap[c]? = w4.heap[c]? := by rw [← hWf]; exact (Below.heap_setCell _ _ _ c (by simp; omega)).trans ((Below.heap_setCell _ _ _ c (by simp; omega)).trans (Below.heap_setCell _ _ _ c (by simp; omega)))
      have e0 : Wf.cell? ⟨w.heap.size, 0, none⟩ = some (.int .i64 v) := by rw [bf.cell]; rfl
      have e1 : Wf.cell? ⟨w.heap.size, 1, none⟩ = some (.int .i64 y) := by rw [bf.cell]; rfl
      exact bodyPost_ret (v := .agg #[.int .i64 v, .int .i64 y]) (by simp [results, Try.results66, go_sem, e0, e1]) rfl ⟨_, _, hv64, hy, rfl, HC.out.back C4.out gf kf, gf⟩
  · by_cases n1 : n = 1
    · subst n1
      go_wp2_with fail
      generalize hW3 : w2.alloc _ = W3
      have g3 : w2.grownBy W3 none := by rw [← hW3]; exact World.grownBy_alloc w2 _ none
      have p3 : Blk W3 w2.heap.size 3 (([-1, 5, 6, 7, -9223372036854775808] : List Int).map fun n => Value.int .i64 n).toArray := by rw [← hW3]; exact Blk.new _ _ _
      have hs2 := S2.out.lt
      have hc2 := C2.out.lt
      refine (pickInt_any W3 c w2.heap.size A len cap 5 [-1, 5, 6, 7, -9223372036854775808] rfl (by omega) (by omega) hlen (C2.out.grown g3) (by omega) p3).mono ?_
      rintro e w4 ⟨v, hv, rfl, hc4, g4⟩
      have s4 := (S2.out.grown g3 (by simp)).grown g4 (by simp; omega)
      have r4 := (R2.out.grown g3 (by simp)).grown g4 (by simp; omega)
      have C4 := Lib.hid hc4
      have G4 := Lib.hid (grown_trans (grown_trans G2.out (grown_wide g3)) g4)
      have hv64 : In64 v := by
        simp only [List.mem_cons, List.not_mem_nil, or_false] at hv
        unfold In64
        omega
      have d0 : w4.cell? ⟨w1.heap.size, 0, none⟩ = some (.int .i64 x) := by rw [s4.cell]; rfl
      have d1 : w4.cell? ⟨w1.heap.size, 1, none⟩ = some (.int .i64 y) := by rw [s4.cell]; rfl
      have f0 := s4.frozen 0
      have f1 := s4.frozen 1
      have d2 : w4.cell? ⟨w.heap.size, 0, none⟩ = some (.int .i64 0) := by rw [r4.cell]; rfl
      have d3 : w4.cell? ⟨w.heap.size, 1, none⟩ = some (.int .i64 0) := by rw [r4.cell]; rfl
      have f2 := r4.frozen 0
      have f3 := r4.frozen 1
      have S4 := Lib.hid s4
      have R4 := Lib.hid r4
      clear hc4 g4 s4 r4 p3 g3 hW3 hv S2 R2 C2 G2 hc2
      go_wp2_with fail
      generalize hWf : ((w4.setCell _ _).setCell _ _).setCell _ _ = Wf
      have bf : Blk Wf w.heap.size 29 #[.int .i64 x, .int .i64 v] := by rw [← hWf]; exact ((R4.out.other (by simp; omega) _).put 0 _).put 1 _
      have gf : w.grownBy Wf (some c) := by rw [← hWf]; exact grown_set_new (grown_set_new (grown_set_new G4.out (by simp; omega) _) (by simp) _) (by simp) _
      have kf : Wf.heap[c]? = w4.heap[c]? := by rw [← hWf]; exact (Below.heap_setCell _ _ _ c (by simp; omega)).trans ((Below.heap_setCell _ _ _ c (by simp; omega)).trans (Below.heap_setCell _ _ _ c (by simp; omega)))
      have e0 : Wf.cell? ⟨w.heap.size, 0, none⟩ = some (.int .i64 x) := by rw [bf.cell]; rfl
      have e1 : Wf.cell? ⟨w.heap.size, 1, none⟩ = some (.int .i64 v) := by rw [bf.cell]; rfl
      exact bodyPost_ret (v := .agg #[.int .i64 x, .int .i64 v]) (by simp [results, Try.results66, go_sem, e0, e1]) rfl ⟨_, _, hx, hv64, rfl, HC.out.back C4.out gf kf, gf⟩
    · have d0 : w2.cell? ⟨w1.heap.size, 0, none⟩ = some (.int .i64 x) := by rw [S2.out.cell]; rfl
      have d1 : w2.cell? ⟨w1.heap.size, 1, none⟩ = some (.int .i64 y) := by rw [S2.out.cell]; rfl
      have d2 : w2.cell? ⟨w.heap.size, 0, none⟩ = some (.int .i64 0) := by rw [R2.out.cell]; rfl
      have d3 : w2.cell? ⟨w.heap.size, 1, none⟩ = some (.int .i64 0) := by rw [R2.out.cell]; rfl
      have f2 := R2.out.frozen 0
      have f3 := R2.out.frozen 1
      have q0 : ((n : Int) == 0) = false := by simp; omega
      have q1 : ((n : Int) == 1) = false := by simp; omega
      go_wp2_with fail
      generalize hWf : (w2.setCell _ _).setCell _ _ = Wf
      have bf : Blk Wf w.heap.size 29 #[.int .i64 x, .int .i64 y] := by rw [← hWf]; exact (R2.out.put 0 _).put 1 _
      have gf : w.grownBy Wf (some c) := by rw [← hWf]; exact grown_set_new (grown_set_new G2.out (by simp) _) (by simp) _
      have kf : Wf.heap[c]? = w2.heap[c]? := by rw [← hWf]; exact (Below.heap_setCell _ _ _ c (by simp; omega)).trans (Below.heap_setCell _ _ _ c (by simp; omega))
      have e0 : Wf.cell? ⟨w.heap.size, 0, none⟩ = some (.int .i64 x) := by rw [bf.cell]; rfl
      have e1 : Wf.cell? ⟨w.heap.size, 1, none⟩ = some (.int .i64 y) := by rw [bf.cell]; rfl
      exact bodyPost_ret (v := .agg #[.int .i64 x, .int .i64 y]) (by simp [results, Try.results66, go_sem, e0, e1]) rfl ⟨_, _, hx, hy, rfl, HC.out.back C2.out gf kf, gf⟩

end Go.Proofs.Ytlanmkimaambgaa.hexes

