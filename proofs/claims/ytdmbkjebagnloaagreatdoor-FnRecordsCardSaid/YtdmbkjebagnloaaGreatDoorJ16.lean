/-
  The draws of RecordOk's, RecordOrder's, OfEpoch's and SameBag's arguments.
-/
import Derived.Test.YtdmbkjebagnloaaGreatDoorJ15
import Derived.Deep.RegionHeld3

namespace Go.Proofs.YtdmbkjebagnloaaGreatDoor.hexes
open Go.RowKit

theorem set_keep5 {w : World} {p a : Addr} {u v : Value} (h : w.cell? a = some v) (hne : a.block ≠ p.block) : (w.setCell p u).cell? a = some v :=
  (World.cell?_of_block (w := w) (Below.heap_setCell w p u a.block hne)).trans h

theorem grown_drew5 (w : World) : w.grownBy w.drew none := ⟨rfl, rfl, rfl, Nat.le_refl _, fun _ _ _ => rfl⟩

set_option maxRecDepth 100000 in
theorem drawRcOk_any (w : World) (A : Option Addr) (len cap : Nat) (hlen : len ≤ 2097152) (hcame : Came w A len) :
    Calls Tryz.prog 12 #[.slice A len cap] w (RcDraw w) := by
  have HC := Lib.hid hcame
  clear hcame
  go_enter Tryz.func12, Tryz.ntmps12
  go_wp2_with fail
  generalize hW : w.alloc _ = W
  have bW : Below w.heap.size w W := by rw [← hW]; exact (Below.refl _ _).alloc (by simp) _
  have r0 : Blk W w.heap.size 32 #[.int .i64 0, .int .i64 0, .int .i64 0, .int .i64 0, .int .i64 0] := by rw [← hW]; exact Blk.new _ _ _
  have hrl := r0.lt
  refine (new_any W A len cap hlen (HC.out.below bW)).mono ?_
  rintro e w1 ⟨c, rfl, hcw, hcur, hb1⟩
  have R1 := Lib.hid (r0.below hb1)
  have C1 := Lib.hid hcur
  have B1 := Lib.hid (below_chain bW hb1)
  clear hcur hb1 r0 bW hW HC
  go_wp2_with fail
  refine (anyRc_draw w1 c A len cap hlen C1.out).mono ?_
  rintro e w2 ⟨p0, p1, p2, p3, p4, hwf, rfl, hc2, g2⟩
  have r2 := R1.out.grown g2 (by simp; omega)
  have B2 := Lib.hid (B1.out.grown g2 B1.out.size (fun k hk => by simp at hk; omega))
  have WF := Lib.hid hwf
  have e0 : w2.cell? ⟨w.heap.size, 0, none⟩ = some (.int .i64 0) := by (rw [r2.cell]; rfl)
  have e1 : w2.cell? ⟨w.heap.size, 1, none⟩ = some (.int .i64 0) := by (rw [r2.cell]; rfl)
  have e2 : w2.cell? ⟨w.heap.size, 2, none⟩ = some (.int .i64 0) := by (rw [r2.cell]; rfl)
  have e3 : w2.cell? ⟨w.heap.size, 3, none⟩ = some (.int .i64 0) := by (rw [r2.cell]; rfl)
  have e4 : w2.cell? ⟨w.heap.size, 4, none⟩ = some (.int .i64 0) := by (rw [r2.cell]; rfl)
  have f0 := r2.frozen 0
  have f1 := r2.frozen 1
  have f2 := r2.frozen 2
  have f3 := r2.frozen 3
  have f4 := r2.frozen 4
  have R2 := Lib.hid r2
  clear hc2 g2 hwf R1 B1 r2
  go_wp2_with fail
  generalize hWf : ((((w2.setCell _ _).setCell _ _).setCell _ _).setCell _ _).setCell _ _ = Wf
  have bf : Blk Wf w.heap.size 32 #[.int .i64 p0, .int .i64 p1, .int .i64 p2, .int .i64 p3, .int .i64 p4] := by rw [← hWf]; exact ((((R2.out.put 0 _).put 1 _).put 2 _).put 3 _).put 4 _
  have hb : Below w.heap.size w Wf := by rw [← hWf]; exact ((((B2.out.setCell (by simp) _).setCell (by simp) _).setCell (by simp) _).setCell (by simp) _).setCell (by simp) _
  have r0 : Wf.cell? ⟨w.heap.size, 0, none⟩ = some (.int .i64 p0) := by rw [bf.cell]; rfl
  have r1 : Wf.cell? ⟨w.heap.size, 1, none⟩ = some (.int .i64 p1) := by rw [bf.cell]; rfl
  have r2 : Wf.cell? ⟨w.heap.size, 2, none⟩ = some (.int .i64 p2) := by rw [bf.cell]; rfl
  have r3 : Wf.cell? ⟨w.heap.size, 3, none⟩ = some (.int .i64 p3) := by rw [bf.cell]; rfl
  have r4 : Wf.cell? ⟨w.heap.size, 4, none⟩ = some (.int .i64 p4) := by rw [bf.cell]; rfl
  exact bodyPost_ret (v := .agg #[.int .i64 p0, .int .i64 p1, .int .i64 p2, .int .i64 p3, .int .i64 p4]) (by simp [results, Tryz.results12, go_sem, r0, r1, r2, r3, r4]) rfl ⟨p0, p1, p2, p3, p4, WF.out, rfl, hb⟩

/-- How a draw of two records ends. -/
def RcDraw2 (w : World) (e : Ending) (w' : World) : Prop := ∃ p0 p1 p2 p3 p4 q0 q1 q2 q3 q4 : Int, wfRc (p0, (p1, p2), p3, p4) ∧ wfRc (q0, (q1, q2), q3, q4) ∧ e = .returned (.tuple #[.agg #[.int .i64 p0, .int .i64 p1, .int .i64 p2, .int .i64 p3, .int .i64 p4], .agg #[.int .i64 q0, .int .i64 q1, .int .i64 q2, .int .i64 q3, .int .i64 q4]]) ∧ Below w.heap.size w w'

set_option maxRecDepth 100000 in
set_option maxHeartbeats 4000000 in
theorem drawRcOrd_any (w : World) (A : Option Addr) (len cap : Nat) (hlen : len ≤ 2097152) (hcame : Came w A len) :
    Calls Tryz.prog 13 #[.slice A len cap] w (RcDraw2 w) := by
  have HC := Lib.hid hcame
  clear hcame
  go_enter Tryz.func13, Tryz.ntmps13
  go_wp2_with fail
  generalize hW : (w.alloc _).alloc _ = W
  have bW : Below w.heap.size w W := by rw [← hW]; exact ((Below.refl _ _).alloc (by simp) _).alloc (by simp) _
  have p0 : Blk W w.heap.size 32 #[.int .i64 0, .int .i64 0, .int .i64 0, .int .i64 0, .int .i64 0] := by rw [← hW]; exact (Below.heap_alloc _ _ _ (by simp)).trans (Blk.new _ _ _)
  have q0 : Blk W (w.heap.size + 1) 32 #[.int .i64 0, .int .i64 0, .int .i64 0, .int .i64 0, .int .i64 0] := by rw [← hW]; exact (show w.heap.size + 1 = (w.alloc _).heap.size by simp) ▸ Blk.new _ _ _
  have hsz := q0.lt
  refine (new_any W A len cap hlen (HC.out.below bW)).mono ?_
  rintro e w1 ⟨c, rfl, hcw, hcur, hb1⟩
  have hck : ∀ k, some c = some k → w.heap.size ≤ k := fun k hk => by simp at hk; omega
  have P1 := Lib.hid (p0.below hb1)
  have Q1 := Lib.hid (q0.below hb1)
  have C1 := Lib.hid hcur
  have B1 := Lib.hid (below_chain bW hb1)
  clear hcur hb1 p0 q0 bW hW HC
  go_wp2_with fail
  refine (anyRc_draw w1 c A len cap hlen C1.out).mono ?_
  rintro e w2 ⟨p0, p1, p2, p3, p4, hwf, rfl, hc2, g2⟩
  have P2 := Lib.hid (P1.out.grown g2 (by simp; omega))
  have Q2 := Lib.hid (Q1.out.grown g2 (by simp; omega))
  have C2 := Lib.hid hc2
  have B2 := Lib.hid (B1.out.grown g2 B1.out.size hck)
  have WF := Lib.hid hwf
  clear hc2 g2 P1 Q1 C1 B1 hwf
  go_wp2_with fail
  generalize hW2 : w2.alloc _ = W2
  have g2 : w2.grownBy W2 none := by rw [← hW2]; exact World.grownBy_alloc w2 _ none
  have s2 : Blk W2 w2.heap.size 32 #[.int .i64 p0, .int .i64 p1, .int .i64 p2, .int .i64 p3, .int .i64 p4] := by rw [← hW2]; exact Blk.new _ _ _
  have hp2 := P2.out.lt
  have hq2 := Q2.out.lt
  have hc2 := C2.out.lt
  refine (below_any 4 (by omega) (by omega) W2 c A len cap hlen (C2.out.grown g2)).mono ?_
  rintro e w3 ⟨n, hn, rfl, hc3, g3⟩
  have S3 := Lib.hid (s2.grown g3 (by simp; omega))
  have P3 := Lib.hid ((P2.out.grown g2 (by simp)).grown g3 (by simp; omega))
  have Q3 := Lib.hid ((Q2.out.grown g2 (by simp)).grown g3 (by simp; omega))
  have C3 := Lib.hid hc3
  have B3 := Lib.hid ((B2.out.grown g2 B2.out.size (fun k hk => by simp at hk)).grown g3 (Nat.le_trans B2.out.size g2.size) hck)
  clear hc3 g3 g2 s2 hW2 P2 Q2 C2 B2
  have a0 : w3.cell? ⟨w2.heap.size, 0, none⟩ = some (.int .i64 p0) := by rw [S3.out.cell]; rfl
  have a1 : w3.cell? ⟨w2.heap.size, 1, none⟩ = some (.int .i64 p1) := by rw [S3.out.cell]; rfl
  have a2 : w3.cell? ⟨w2.heap.size, 2, none⟩ = some (.int .i64 p2) := by rw [S3.out.cell]; rfl
  have a3 : w3.cell? ⟨w2.heap.size, 3, none⟩ = some (.int .i64 p3) := by rw [S3.out.cell]; rfl
  have a4 : w3.cell? ⟨w2.heap.size, 4, none⟩ = some (.int .i64 p4) := by rw [S3.out.cell]; rfl
  have n1 : ¬w2.heap.size = w.heap.size := by omega
  have n2 : ¬w2.heap.size = w.heap.size + 1 := by omega
  by_cases c0 : n = 0
  · subst c0
    have e0 : w3.cell? ⟨w.heap.size, 0, none⟩ = some (.int .i64 0) := by (rw [P3.out.cell]; rfl)
    have e1 : w3.cell? ⟨w.heap.size, 1, none⟩ = some (.int .i64 0) := by (rw [P3.out.cell]; rfl)
    have e2 : w3.cell? ⟨w.heap.size, 2, none⟩ = some (.int .i64 0) := by (rw [P3.out.cell]; rfl)
    have e3 : w3.cell? ⟨w.heap.size, 3, none⟩ = some (.int .i64 0) := by (rw [P3.out.cell]; rfl)
    have e4 : w3.cell? ⟨w.heap.size, 4, none⟩ = some (.int .i64 0) := by (rw [P3.out.cell]; rfl)
    have f0 := P3.out.frozen 0
    have f1 := P3.out.frozen 1
    have f2 := P3.out.frozen 2
    have f3 := P3.out.frozen 3
    have f4 := P3.out.frozen 4
    have h0 : w3.cell? ⟨w.heap.size + 1, 0, none⟩ = some (.int .i64 0) := by (rw [Q3.out.cell]; rfl)
    have h1 : w3.cell? ⟨w.heap.size + 1, 1, none⟩ = some (.int .i64 0) := by (rw [Q3.out.cell]; rfl)
    have h2 : w3.cell? ⟨w.heap.size + 1, 2, none⟩ = some (.int .i64 0) := by (rw [Q3.out.cell]; rfl)
    have h3 : w3.cell? ⟨w.heap.size + 1, 3, none⟩ = some (.int .i64 0) := by (rw [Q3.out.cell]; rfl)
    have h4 : w3.cell? ⟨w.heap.size + 1, 4, none⟩ = some (.int .i64 0) := by (rw [Q3.out.cell]; rfl)
    have j0 := Q3.out.frozen 0
    have j1 := Q3.out.frozen 1
    have j2 := Q3.out.frozen 2
    have j3 := Q3.out.frozen 3
    have j4 := Q3.out.frozen 4
    go_wp2_with fail
    go_region_held3 (fun w' => w'.cell? ⟨w2.heap.size, 0, none⟩ = some (.int .i64 p0) ∧ w'.cell? ⟨w2.heap.size, 1, none⟩ = some (.int .i64 p1) ∧ w'.cell? ⟨w2.heap.size, 2, none⟩ = some (.int .i64 p2) ∧ w'.cell? ⟨w2.heap.size, 3, none⟩ = some (.int .i64 p3) ∧ w'.cell? ⟨w2.heap.size, 4, none⟩ = some (.int .i64 p4))
      (((refine ⟨?_, ?_, ?_, ?_, ?_⟩ <;> (repeat (first | with_reducible assumption | with_reducible refine drew_keep ?_ | with_reducible refine set_keep5 ?_ (by simp; omega))))))
      (fail)
    all_goals (
      go_wp2_with fail
      refine bodyPost_ret (v := .tuple #[.agg #[.int .i64 p0, .int .i64 p1, .int .i64 p2, .int .i64 p3, .int .i64 p4], .agg #[.int .i64 p0, .int .i64 p1, .int .i64 p2, .int .i64 p3, .int .i64 p4]]) ?_ rfl ⟨p0, p1, p2, p3, p4, p0, p1, p2, p3, p4, WF.out, WF.out, rfl, ?_⟩
      · simp [results, Tryz.results13, go_sem, e0, e1, e2, e3, e4, h0, h1, h2, h3, h4]
      · repeat (first | with_reducible exact B3.out | with_reducible refine Below.drew ?_ | with_reducible refine Below.setCell ?_ (by simp) _))
  · by_cases c1 : n = 1
    · subst c1
      go_wp2_with fail
      generalize hW4 : w3.alloc _ = W4
      have g4 : w3.grownBy W4 none := by rw [← hW4]; exact World.grownBy_alloc w3 _ none
      have u4 : Blk W4 w3.heap.size 32 #[.int .i64 p0, .int .i64 p1, .int .i64 p2, .int .i64 p3, .int .i64 p4] := by rw [← hW4]; exact Blk.new _ _ _
      have hs3 := S3.out.lt
      have hp3 := P3.out.lt
      have hq3 := Q3.out.lt
      have hc3 := C3.out.lt
      refine (below_any 40 (by omega) (by omega) W4 c A len cap hlen (C3.out.grown g4)).mono ?_
      rintro e w5 ⟨v, hv, rfl, hc5, g5⟩
      have S5 := Lib.hid ((S3.out.grown g4 (by simp)).grown g5 (by simp; omega))
      have U5 := Lib.hid (u4.grown g5 (by simp; omega))
      have P5 := Lib.hid ((P3.out.grown g4 (by simp)).grown g5 (by simp; omega))
      have Q5 := Lib.hid ((Q3.out.grown g4 (by simp)).grown g5 (by simp; omega))
      have B5 := Lib.hid ((B3.out.grown g4 B3.out.size (fun k hk => by simp at hk)).grown g5 (Nat.le_trans B3.out.size g4.size) hck)
      have WV := Lib.hid (show wfRc (p0, (p1, p2), p3, (v : Int)) from ⟨WF.out.1, WF.out.2.1, WF.out.2.2.1, WF.out.2.2.2.1, WalkArith.wf_i64 (by dsimp only; omega)⟩)
      clear hc5 g5 g4 u4 hW4 P3 Q3 C3 B3 S3 a0 a1 a2 a3 a4
      have u4 : w5.cell? ⟨w3.heap.size, 4, none⟩ = some (.int .i64 p4) := by rw [U5.out.cell]; rfl
      have uf := U5.out.frozen 4
      go_wp2_with fail
      generalize hW6 : w5.setCell _ _ = w6
      have S6 : Blk w6 w2.heap.size 32 #[.int .i64 p0, .int .i64 p1, .int .i64 p2, .int .i64 p3, .int .i64 p4] := by rw [← hW6]; exact S5.out.other (by simp; omega) _
      have U6 : Blk w6 w3.heap.size 32 #[.int .i64 p0, .int .i64 p1, .int .i64 p2, .int .i64 p3, .int .i64 (v : Int)] := by rw [← hW6]; exact U5.out.put 4 _
      have P6 : Blk w6 w.heap.size 32 #[.int .i64 0, .int .i64 0, .int .i64 0, .int .i64 0, .int .i64 0] := by rw [← hW6]; exact P5.out.other (by simp; omega) _
      have Q6 : Blk w6 (w.heap.size + 1) 32 #[.int .i64 0, .int .i64 0, .int .i64 0, .int .i64 0, .int .i64 0] := by rw [← hW6]; exact Q5.out.other (by simp; omega) _
      have B6 : Below w.heap.size w w6 := by rw [← hW6]; exact B5.out.setCell (by simp; omega) _
      have a0 : w6.cell? ⟨w2.heap.size, 0, none⟩ = some (.int .i64 p0) := by rw [S6.cell]; rfl
      have a1 : w6.cell? ⟨w2.heap.size, 1, none⟩ = some (.int .i64 p1) := by rw [S6.cell]; rfl
      have a2 : w6.cell? ⟨w2.heap.size, 2, none⟩ = some (.int .i64 p2) := by rw [S6.cell]; rfl
      have a3 : w6.cell? ⟨w2.heap.size, 3, none⟩ = some (.int .i64 p3) := by rw [S6.cell]; rfl
      have a4 : w6.cell? ⟨w2.heap.size, 4, none⟩ = some (.int .i64 p4) := by rw [S6.cell]; rfl
      have b0 : w6.cell? ⟨w3.heap.size, 0, none⟩ = some (.int .i64 p0) := by rw [U6.cell]; rfl
      have b1 : w6.cell? ⟨w3.heap.size, 1, none⟩ = some (.int .i64 p1) := by rw [U6.cell]; rfl
      have b2 : w6.cell? ⟨w3.heap.size, 2, none⟩ = some (.int .i64 p2) := by rw [U6.cell]; rfl
      have b3 : w6.cell? ⟨w3.heap.size, 3, none⟩ = some (.int .i64 p3) := by rw [U6.cell]; rfl
      have b4 : w6.cell? ⟨w3.heap.size, 4, none⟩ = some (.int .i64 (v : Int)) := by rw [U6.cell]; rfl
      have e0 : w6.cell? ⟨w.heap.size, 0, none⟩ = some (.int .i64 0) := by (rw [P6.cell]; rfl)
      have e1 : w6.cell? ⟨w.heap.size, 1, none⟩ = some (.int .i64 0) := by (rw [P6.cell]; rfl)
      have e2 : w6.cell? ⟨w.heap.size, 2, none⟩ = some (.int .i64 0) := by (rw [P6.cell]; rfl)
      have e3 : w6.cell? ⟨w.heap.size, 3, none⟩ = some (.int .i64 0) := by (rw [P6.cell]; rfl)
      have e4 : w6.cell? ⟨w.heap.size, 4, none⟩ = some (.int .i64 0) := by (rw [P6.cell]; rfl)
      have f0 := P6.frozen 0
      have f1 := P6.frozen 1
      have f2 := P6.frozen 2
      have f3 := P6.frozen 3
      have f4 := P6.frozen 4
      have h0 : w6.cell? ⟨w.heap.size + 1, 0, none⟩ = some (.int .i64 0) := by (rw [Q6.cell]; rfl)
      have h1 : w6.cell? ⟨w.heap.size + 1, 1, none⟩ = some (.int .i64 0) := by (rw [Q6.cell]; rfl)
      have h2 : w6.cell? ⟨w.heap.size + 1, 2, none⟩ = some (.int .i64 0) := by (rw [Q6.cell]; rfl)
      have h3 : w6.cell? ⟨w.heap.size + 1, 3, none⟩ = some (.int .i64 0) := by (rw [Q6.cell]; rfl)
      have h4 : w6.cell? ⟨w.heap.size + 1, 4, none⟩ = some (.int .i64 0) := by (rw [Q6.cell]; rfl)
      have j0 := Q6.frozen 0
      have j1 := Q6.frozen 1
      have j2 := Q6.frozen 2
      have j3 := Q6.frozen 3
      have j4 := Q6.frozen 4
      have m1 : ¬w3.heap.size = w.heap.size := by omega
      have m2 : ¬w3.heap.size = w.heap.size + 1 := by omega
      clear hW6 u4 uf
      go_wp2_with fail
      go_region_held3 (fun w' => w'.cell? ⟨w2.heap.size, 0, none⟩ = some (.int .i64 p0) ∧ w'.cell? ⟨w2.heap.size, 1, none⟩ = some (.int .i64 p1) ∧ w'.cell? ⟨w2.heap.size, 2, none⟩ = some (.int .i64 p2) ∧ w'.cell? ⟨w2.heap.size, 3, none⟩ = some (.int .i64 p3) ∧ w'.cell? ⟨w2.heap.size, 4, none⟩ = some (.int .i64 p4) ∧ w'.cell? ⟨w3.heap.size, 0, none⟩ = some (.int .i64 p0) ∧ w'.cell? ⟨w3.heap.size, 1, none⟩ = some (.int .i64 p1) ∧ w'.cell? ⟨w3.heap.size, 2, none⟩ = some (.int .i64 p2) ∧ w'.cell? ⟨w3.heap.size, 3, none⟩ = some (.int .i64 p3) ∧ w'.cell? ⟨w3.heap.size, 4, none⟩ = some (.int .i64 (v : Int)))
        (((refine ⟨?_, ?_, ?_, ?_, ?_, ?_, ?_, ?_, ?_, ?_⟩ <;> (repeat (first | with_reducible assumption | with_reducible refine drew_keep ?_ | with_reducible refine set_keep5 ?_ (by simp; omega))))))
        (fail)
      all_goals (
        go_wp2_with fail
        refine bodyPost_ret (v := .tuple #[.agg #[.int .i64 p0, .int .i64 p1, .int .i64 p2, .int .i64 p3, .int .i64 p4], .agg #[.int .i64 p0, .int .i64 p1, .int .i64 p2, .int .i64 p3, .int .i64 (v : Int)]]) ?_ rfl ⟨p0, p1, p2, p3, p4, p0, p1, p2, p3, (v : Int), WF.out, WV.out, rfl, ?_⟩
        · simp [results, Tryz.results13, go_sem, e0, e1, e2, e3, e4, h0, h1, h2, h3, h4]
        · repeat (first | with_reducible exact B6 | with_reducible refine Below.drew ?_ | with_reducible refine Below.setCell ?_ (by simp) _))
    · have q0 : ((n : Int) == 0) = false := by simp; omega
      have q1 : ((n : Int) == 1) = false := by simp; omega
      have hs3 := S3.out.lt
      have hp3 := P3.out.lt
      have hq3 := Q3.out.lt
      have hc3 := C3.out.lt
      go_wp2_with fail
      go_region_held3 (fun w' => w'.cell? ⟨w2.heap.size, 0, none⟩ = some (.int .i64 p0) ∧ w'.cell? ⟨w2.heap.size, 1, none⟩ = some (.int .i64 p1) ∧ w'.cell? ⟨w2.heap.size, 2, none⟩ = some (.int .i64 p2) ∧ w'.cell? ⟨w2.heap.size, 3, none⟩ = some (.int .i64 p3) ∧ w'.cell? ⟨w2.heap.size, 4, none⟩ = some (.int .i64 p4))
        (((refine ⟨?_, ?_, ?_, ?_, ?_⟩ <;> (repeat (first | with_reducible assumption | with_reducible refine drew_keep ?_ | with_reducible refine set_keep5 ?_ (by simp; omega))))))
        ((go_at_call 33; refine (anyRc_draw _ c A len cap hlen (C3.out.grown (grown_drew5 _))).mono ?_; rintro e w4 ⟨q0, q1, q2, q3, q4, hwq, rfl, hc4, g4⟩; (have S4 := (Blk.grown (w := w3.drew) S3.out g4 (by simp; omega))); (have k0 : w4.cell? ⟨w2.heap.size, 0, none⟩ = some (.int .i64 p0) := by (rw [S4.cell]; rfl)); (have k1 : w4.cell? ⟨w2.heap.size, 1, none⟩ = some (.int .i64 p1) := by (rw [S4.cell]; rfl)); (have k2 : w4.cell? ⟨w2.heap.size, 2, none⟩ = some (.int .i64 p2) := by (rw [S4.cell]; rfl)); (have k3 : w4.cell? ⟨w2.heap.size, 3, none⟩ = some (.int .i64 p3) := by (rw [S4.cell]; rfl)); (have k4 : w4.cell? ⟨w2.heap.size, 4, none⟩ = some (.int .i64 p4) := by (rw [S4.cell]; rfl)); (have P4 := (Blk.grown (w := w3.drew) P3.out g4 (by simp; omega))); (have Q4 := (Blk.grown (w := w3.drew) Q3.out g4 (by simp; omega))); (have B4 := (B3.out.drew).grown g4 B3.out.size hck); (have e0 : w4.cell? ⟨w.heap.size, 0, none⟩ = some (.int .i64 0) := by (rw [P4.cell]; rfl)); (have e1 : w4.cell? ⟨w.heap.size, 1, none⟩ = some (.int .i64 0) := by (rw [P4.cell]; rfl)); (have e2 : w4.cell? ⟨w.heap.size, 2, none⟩ = some (.int .i64 0) := by (rw [P4.cell]; rfl)); (have e3 : w4.cell? ⟨w.heap.size, 3, none⟩ = some (.int .i64 0) := by (rw [P4.cell]; rfl)); (have e4 : w4.cell? ⟨w.heap.size, 4, none⟩ = some (.int .i64 0) := by (rw [P4.cell]; rfl)); (have f0 := P4.frozen 0); (have f1 := P4.frozen 1); (have f2 := P4.frozen 2); (have f3 := P4.frozen 3); (have f4 := P4.frozen 4); (have h0 : w4.cell? ⟨w.heap.size + 1, 0, none⟩ = some (.int .i64 0) := by (rw [Q4.cell]; rfl)); (have h1 : w4.cell? ⟨w.heap.size + 1, 1, none⟩ = some (.int .i64 0) := by (rw [Q4.cell]; rfl)); (have h2 : w4.cell? ⟨w.heap.size + 1, 2, none⟩ = some (.int .i64 0) := by (rw [Q4.cell]; rfl)); (have h3 : w4.cell? ⟨w.heap.size + 1, 3, none⟩ = some (.int .i64 0) := by (rw [Q4.cell]; rfl)); (have h4 : w4.cell? ⟨w.heap.size + 1, 4, none⟩ = some (.int .i64 0) := by (rw [Q4.cell]; rfl)); (have j0 := Q4.frozen 0); (have j1 := Q4.frozen 1); (have j2 := Q4.frozen 2); (have j3 := Q4.frozen 3); (have j4 := Q4.frozen 4)))
      all_goals (
        go_wp2_with fail
        refine bodyPost_ret (v := .tuple #[.agg #[.int .i64 p0, .int .i64 p1, .int .i64 p2, .int .i64 p3, .int .i64 p4], .agg #[.int .i64 q0, .int .i64 q1, .int .i64 q2, .int .i64 q3, .int .i64 q4]]) ?_ rfl ⟨p0, p1, p2, p3, p4, q0, q1, q2, q3, q4, WF.out, hwq, rfl, ?_⟩
        · simp [results, Tryz.results13, go_sem, e0, e1, e2, e3, e4, h0, h1, h2, h3, h4]
        · repeat (first | with_reducible exact B4 | with_reducible refine Below.drew ?_ | with_reducible refine Below.setCell ?_ (by simp) _))

/-- How the draw of OfEpoch's arguments ends. -/
def RlDrawI (w : World) (e : Ending) (w' : World) : Prop := ∃ A n c zs x, e = .returned (.tuple #[.slice A n c, .int .i64 x]) ∧ RTab w' A n c zs ∧ Below w.heap.size w w'

set_option maxRecDepth 100000 in
theorem drawOfEp_any (w : World) (A : Option Addr) (len cap : Nat) (hlen : len ≤ 2097152) (hcame : Came w A len) :
    Calls Tryz.prog 14 #[.slice A len cap] w (RlDrawI w) := by
  have HC := Lib.hid hcame
  clear hcame
  go_enter Tryz.func14, Tryz.ntmps14
  go_wp2_with fail
  refine (new_any w A len cap hlen HC.out).mono ?_
  rintro e w1 ⟨c, rfl, hcw, hcur, hb1⟩
  have hck : ∀ k, some c = some k → w.heap.size ≤ k := fun k hk => by simp at hk; omega
  have C1 := Lib.hid hcur
  have B1 := Lib.hid hb1
  have hcl := hcur.lt
  clear hcur hb1 HC
  go_wp2_with fail
  refine (listRc_draw w1 c A len cap hlen C1.out).mono ?_
  rintro e w2 ⟨n, zs, v, hn, hl, hw, rfl, ho, hc2, g2⟩
  have C2 := Lib.hid hc2
  have O2 := Lib.hid ho
  have W2 := Lib.hid hw
  have B2 := Lib.hid (B1.out.grown g2 B1.out.size hck)
  clear ho hc2 g2 hw C1 B1
  go_wp2_with fail
  refine (below_any 6 (by omega) (by omega) w2 c A len cap hlen C2.out).mono ?_
  rintro e w3 ⟨x, hx, rfl, hc3, g3⟩
  obtain ⟨A2, n2, c2, rfl, ht⟩ := RTab.of_own (own_kept_c O2.out g3 hcl) hn W2.out
  have T3 := Lib.hid ht
  have B3 := Lib.hid (B2.out.grown g3 B2.out.size hck)
  have hwr : IntKind.i64.wrap ((x : Int) - 1) = (x : Int) - 1 := IntWalk.i64_in _ (by omega)
  clear hc3 g3 ht O2 C2 B2
  go_wp2_with fail
  exact bodyPost_ret (v := .tuple #[.slice A2 n2 c2, .int .i64 ((x : Int) - 1)]) (by simp [results, Tryz.results14, go_sem]) rfl ⟨_, _, _, _, _, rfl, T3.out, B3.out⟩

end Go.Proofs.YtdmbkjebagnloaaGreatDoor.hexes

