/-
  Chapter 9's draws.
-/
import Derived.Test.YtlmjmhdmhpkkkaaDrawCe
import Derived.Test.YtlmjmhdmhpkkkaaOwnSet
namespace Go.Proofs.Ytlmjmhdmhpkkkaa.hexes
open Go.RowKit

/-- A list of cells as the drawn law holds it. -/
structure ETab (w : World) (A : Option Addr) (n c : Nat) (zs : List Ce) : Prop where
  few : n ≤ 64
  len : zs.length = n
  nil : A = none → c = 0
  cap : n ≤ c
  ces : Ces w A zs
theorem ETab.below {w w' : World} {A : Option Addr} {n c : Nat} {zs : List Ce} (h : ETab w A n c zs) (hb : Below w.heap.size w w') : ETab w' A n c zs := ⟨h.few, h.len, h.nil, h.cap, h.ces.below hb⟩
theorem ETab.of_own {w : World} {B n c : Nat} {A : Option Addr} {zs : List Ce} (h : w.ownsRow B 26 4 (.slice A n c) n (ceCells zs)) (hn : n ≤ 64) : ETab w A n c zs := by
  obtain ⟨A', c', he, hl, hs⟩ := Ces.of_own h
  simp only [Value.slice.injEq, true_and] at he
  obtain ⟨rfl, rfl⟩ := he
  exact ⟨hn, hl, own_nil h, own_capS h, hs⟩

/-- How a draw of a list and a cell ends. -/
def DPut (w : World) (e : Ending) (w' : World) : Prop :=
  ∃ (A1 : Option Addr) (m c1 : Nat) (zs : List Ce) (x0 x1 x2 x3 : Int), e = .returned (.tuple #[.slice A1 m c1, .agg #[.int .i64 x0, .int .i64 x1, .int .i64 x2, .int .i64 x3]]) ∧ m ≤ 10 ∧ ETab w' A1 m c1 zs ∧ Below w.heap.size w w'

set_option maxRecDepth 100000 in
set_option maxHeartbeats 4000000 in
theorem drawPut_any (w : World) (A : Option Addr) (len cap : Nat) (hlen : len ≤ 2097152) (hcame : Came w A len) :
    Calls Try.prog 18 #[.slice A len cap] w (DPut w) := by
  have HC := Lib.hid hcame
  clear hcame
  go_enter Try.func18, Try.ntmps18
  go_wp2_with fail
  generalize hW : w.alloc _ = W
  have bW : Below w.heap.size w W := by rw [← hW]; exact (Below.refl _ _).alloc (Nat.le_refl _) _
  have r0 : Blk W w.heap.size 26 #[.int .i64 0, .int .i64 0, .int .i64 0, .int .i64 0] := by rw [← hW]; exact Blk.new _ _ _
  have hrl := r0.lt
  refine (new_any W A len cap hlen (HC.out.below bW)).mono ?_
  rintro e w1 ⟨c, rfl, hcw, hcur, hb1⟩
  have hck : ∀ k, some c = some k → w.heap.size ≤ k := fun k hk => by simp at hk; omega
  have R1 := Lib.hid (r0.below hb1)
  have C1 := Lib.hid hcur
  have B1 := Lib.hid (below_chain bW hb1)
  have hrs : w.heap.size + 1 ≤ w1.heap.size := by have := hb1.size; omega
  have hcl : c < w1.heap.size := hcur.lt
  clear hcur hb1 bW r0 hW HC
  go_wp2_with fail
  refine (ces_draw w1 c A len cap hlen C1.out).mono ?_
  rintro e w2 ⟨A1, m, c1, zs, hm, rfl, hS⟩
  have S2 := Lib.hid hS
  have B2 := Lib.hid (B1.out.grown hS.gr B1.out.size hck)
  have R2 := Lib.hid (R1.out.grown hS.gr (by simp; omega))
  have hs2 := hS.gr.size
  clear hS R1 B1 C1
  go_wp2_with fail
  refine (cell_draw w2 c A len cap hlen S2.out.cur).mono ?_
  rintro e w3 ⟨x0, x1, x2, x3, rfl, hc3, g3⟩
  have S4 := Lib.hid (S2.out.draw hc3 g3)
  have B4 := Lib.hid (B2.out.grown g3 B2.out.size hck)
  have R3 := Lib.hid (R2.out.grown g3 (by simp; omega))
  clear hc3 g3 S2 B2 R2
  have e0 : w3.cell? ⟨w.heap.size, 0, none⟩ = some (.int .i64 0) := by rw [R3.out.cell]; rfl
  have e1 : w3.cell? ⟨w.heap.size, 1, none⟩ = some (.int .i64 0) := by rw [R3.out.cell]; rfl
  have e2 : w3.cell? ⟨w.heap.size, 2, none⟩ = some (.int .i64 0) := by rw [R3.out.cell]; rfl
  have e3 : w3.cell? ⟨w.heap.size, 3, none⟩ = some (.int .i64 0) := by rw [R3.out.cell]; rfl
  have f0 := R3.out.frozen 0
  have f1 := R3.out.frozen 1
  have f2 := R3.out.frozen 2
  have f3 := R3.out.frozen 3
  go_wp2_with fail
  generalize hWf : (((w3.setCell _ _).setCell _ _).setCell _ _).setCell _ _ = Wf
  have bf : Blk Wf w.heap.size 26 #[.int .i64 x0, .int .i64 x1, .int .i64 x2, .int .i64 x3] := by rw [← hWf]; exact ((((R3.out.put 0 _).put 1 _).put 2 _).put 3 _)
  have hb : Below w.heap.size w Wf := by rw [← hWf]; exact ((((B4.out.setCell (by simp) _).setCell (by simp) _).setCell (by simp) _).setCell (by simp) _)
  have of := (show Wf.ownsRow w1.heap.size 26 4 (.slice A1 m c1) m (ceCells zs) by rw [← hWf]; exact own_set (own_set (own_set (own_set S4.out.row _ (by simp; omega)) _ (by simp; omega)) _ (by simp; omega)) _ (by simp; omega))
  have r0 : Wf.cell? ⟨w.heap.size, 0, none⟩ = some (.int .i64 x0) := by rw [bf.cell]; rfl
  have r1 : Wf.cell? ⟨w.heap.size, 1, none⟩ = some (.int .i64 x1) := by rw [bf.cell]; rfl
  have r2 : Wf.cell? ⟨w.heap.size, 2, none⟩ = some (.int .i64 x2) := by rw [bf.cell]; rfl
  have r3 : Wf.cell? ⟨w.heap.size, 3, none⟩ = some (.int .i64 x3) := by rw [bf.cell]; rfl
  exact bodyPost_ret (v := .tuple #[.slice A1 m c1, .agg #[.int .i64 x0, .int .i64 x1, .int .i64 x2, .int .i64 x3]]) (by simp [results, Try.results18, go_sem, r0, r1, r2, r3]) rfl ⟨A1, m, c1, zs, x0, x1, x2, x3, rfl, hm, ETab.of_own of (by omega), hb⟩

/-- How Recall's draw ends. -/
def DRec (w : World) (e : Ending) (w' : World) : Prop :=
  ∃ (kd : Int) (A1 : Option Addr) (m c1 : Nat) (zs : List Ce) (x0 x1 x2 x3 : Int), e = .returned (.tuple #[.int .i64 kd, .slice A1 m c1, .agg #[.int .i64 x0, .int .i64 x1, .int .i64 x2, .int .i64 x3]]) ∧ m ≤ 10 ∧ ETab w' A1 m c1 zs ∧ Below w.heap.size w w'

set_option maxRecDepth 100000 in
set_option maxHeartbeats 4000000 in
theorem drawRec_any (w : World) (A : Option Addr) (len cap : Nat) (hlen : len ≤ 2097152) (hcame : Came w A len) :
    Calls Try.prog 12 #[.slice A len cap] w (DRec w) := by
  have HC := Lib.hid hcame
  clear hcame
  go_enter Try.func12, Try.ntmps12
  go_wp2_with fail
  generalize hW : w.alloc _ = W
  have bW : Below w.heap.size w W := by rw [← hW]; exact (Below.refl _ _).alloc (Nat.le_refl _) _
  have r0 : Blk W w.heap.size 26 #[.int .i64 0, .int .i64 0, .int .i64 0, .int .i64 0] := by rw [← hW]; exact Blk.new _ _ _
  have hrl := r0.lt
  refine (new_any W A len cap hlen (HC.out.below bW)).mono ?_
  rintro e w1 ⟨c, rfl, hcw, hcur, hb1⟩
  have hck : ∀ k, some c = some k → w.heap.size ≤ k := fun k hk => by simp at hk; omega
  have R1 := Lib.hid (r0.below hb1)
  have C1 := Lib.hid hcur
  have B1 := Lib.hid (below_chain bW hb1)
  have hrs : w.heap.size + 1 ≤ w1.heap.size := by have := hb1.size; omega
  have hcl : c < w1.heap.size := hcur.lt
  clear hcur hb1 bW r0 hW HC
  go_wp2_with fail
  generalize hW2 : w1.alloc _ = W2
  have bW2 : Below w1.heap.size w1 W2 := by rw [← hW2]; exact (Below.refl _ _).alloc (Nat.le_refl _) _
  have pb : Blk W2 w1.heap.size 3 (([5, 6, 8, 5, 6, 2, 0] : List Int).map fun n => Value.int .i64 n).toArray := by rw [← hW2]; exact Blk.new _ _ _
  have CW := Lib.hid (C1.out.belowD bW2)
  have BW := Lib.hid (below_chain B1.out bW2)
  have RW := Lib.hid (R1.out.below bW2)
  clear bW2 hW2 C1 B1 R1
  refine (pickInt_any W2 c w1.heap.size A len cap 7 [5, 6, 8, 5, 6, 2, 0] rfl (by omega) (by omega) hlen CW.out (by omega) pb).mono ?_
  rintro e w1' ⟨kd, _, rfl, hc1, g1⟩
  have C1 := Lib.hid hc1
  have B1 := Lib.hid (BW.out.grown g1 BW.out.size hck)
  have R1 := Lib.hid (RW.out.grown g1 (by simp; omega))
  have hrs2 : w.heap.size + 1 ≤ w1'.heap.size := by have := BW.out.size; have := g1.size; have := RW.out.lt; omega
  clear hc1 g1 CW BW RW pb
  go_wp2_with fail
  refine (ces_draw w1' c A len cap hlen C1.out).mono ?_
  rintro e w2 ⟨A1, m, c1, zs, hm, rfl, hS⟩
  have S2 := Lib.hid hS
  have B2 := Lib.hid (B1.out.grown hS.gr B1.out.size hck)
  have R2 := Lib.hid (R1.out.grown hS.gr (by simp; omega))
  have hs2 := hS.gr.size
  clear hS R1 B1 C1
  go_wp2_with fail
  refine (cell_draw w2 c A len cap hlen S2.out.cur).mono ?_
  rintro e w3 ⟨x0, x1, x2, x3, rfl, hc3, g3⟩
  have S4 := Lib.hid (S2.out.draw hc3 g3)
  have B4 := Lib.hid (B2.out.grown g3 B2.out.size hck)
  have R3 := Lib.hid (R2.out.grown g3 (by simp; omega))
  clear hc3 g3 S2 B2 R2
  have e0 : w3.cell? ⟨w.heap.size, 0, none⟩ = some (.int .i64 0) := by rw [R3.out.cell]; rfl
  have e1 : w3.cell? ⟨w.heap.size, 1, none⟩ = some (.int .i64 0) := by rw [R3.out.cell]; rfl
  have e2 : w3.cell? ⟨w.heap.size, 2, none⟩ = some (.int .i64 0) := by rw [R3.out.cell]; rfl
  have e3 : w3.cell? ⟨w.heap.size, 3, none⟩ = some (.int .i64 0) := by rw [R3.out.cell]; rfl
  have f0 := R3.out.frozen 0
  have f1 := R3.out.frozen 1
  have f2 := R3.out.frozen 2
  have f3 := R3.out.frozen 3
  go_wp2_with fail
  generalize hWf : (((w3.setCell _ _).setCell _ _).setCell _ _).setCell _ _ = Wf
  have bf : Blk Wf w.heap.size 26 #[.int .i64 x0, .int .i64 x1, .int .i64 x2, .int .i64 x3] := by rw [← hWf]; exact ((((R3.out.put 0 _).put 1 _).put 2 _).put 3 _)
  have hb : Below w.heap.size w Wf := by rw [← hWf]; exact ((((B4.out.setCell (by simp) _).setCell (by simp) _).setCell (by simp) _).setCell (by simp) _)
  have of := (show Wf.ownsRow w1'.heap.size 26 4 (.slice A1 m c1) m (ceCells zs) by rw [← hWf]; exact own_set (own_set (own_set (own_set S4.out.row _ (by simp; omega)) _ (by simp; omega)) _ (by simp; omega)) _ (by simp; omega))
  have r0 : Wf.cell? ⟨w.heap.size, 0, none⟩ = some (.int .i64 x0) := by rw [bf.cell]; rfl
  have r1 : Wf.cell? ⟨w.heap.size, 1, none⟩ = some (.int .i64 x1) := by rw [bf.cell]; rfl
  have r2 : Wf.cell? ⟨w.heap.size, 2, none⟩ = some (.int .i64 x2) := by rw [bf.cell]; rfl
  have r3 : Wf.cell? ⟨w.heap.size, 3, none⟩ = some (.int .i64 x3) := by rw [bf.cell]; rfl
  exact bodyPost_ret (v := .tuple #[.int .i64 kd, .slice A1 m c1, .agg #[.int .i64 x0, .int .i64 x1, .int .i64 x2, .int .i64 x3]]) (by simp [results, Try.results12, go_sem, r0, r1, r2, r3]) rfl ⟨kd, A1, m, c1, zs, x0, x1, x2, x3, rfl, hm, ETab.of_own of (by omega), hb⟩

/-- How LeastOf's draw ends. -/
def DLeast (w : World) (e : Ending) (w' : World) : Prop :=
  ∃ (A1 : Option Addr) (m c1 : Nat) (zs : List Ce) (k0 k1 k2 : Int), e = .returned (.tuple #[.slice A1 m c1, .int .i64 k0, .int .i64 k1, .int .i64 k2]) ∧ m ≤ 10 ∧ ETab w' A1 m c1 zs ∧ Below w.heap.size w w'

set_option maxRecDepth 100000 in
set_option maxHeartbeats 4000000 in
theorem drawLeast_any (w : World) (A : Option Addr) (len cap : Nat) (hlen : len ≤ 2097152) (hcame : Came w A len) :
    Calls Try.prog 20 #[.slice A len cap] w (DLeast w) := by
  have HC := Lib.hid hcame
  clear hcame
  go_enter Try.func20, Try.ntmps20
  go_wp2_with fail
  have bW : Below w.heap.size w w := Below.refl _ _
  refine (new_any w A len cap hlen HC.out).mono ?_
  rintro e w1 ⟨c, rfl, hcw, hcur, hb1⟩
  have hck : ∀ k, some c = some k → w.heap.size ≤ k := fun k hk => by simp at hk; omega
  have C1 := Lib.hid hcur
  have B1 := Lib.hid (below_chain bW hb1)
  have hrs : w.heap.size ≤ w1.heap.size := by have := hb1.size; omega
  have hcl : c < w1.heap.size := hcur.lt
  clear hcur hb1 bW HC
  go_wp2_with fail
  refine (ces_draw w1 c A len cap hlen C1.out).mono ?_
  rintro e w2 ⟨A1, m, c1, zs, hm, rfl, hS⟩
  have S2 := Lib.hid hS
  have B2 := Lib.hid (B1.out.grown hS.gr B1.out.size hck)
  clear hS B1 C1
  go_wp2_with fail
  refine (below_any 3 (by omega) (by omega) w2 c A len cap hlen S2.out.cur).mono ?_
  rintro e w3 ⟨k0, hk0, rfl, hc, g⟩
  have S3 := Lib.hid (S2.out.draw hc g)
  have B3 := Lib.hid (B2.out.grown g B2.out.size hck)
  clear hc g S2 B2
  go_wp2_with fail
  refine (below_any 2 (by omega) (by omega) w3 c A len cap hlen S3.out.cur).mono ?_
  rintro e w4 ⟨k1, hk1, rfl, hc, g⟩
  have S4 := Lib.hid (S3.out.draw hc g)
  have B4 := Lib.hid (B3.out.grown g B3.out.size hck)
  clear hc g S3 B3
  go_wp2_with fail
  refine (below_any 4 (by omega) (by omega) w4 c A len cap hlen S4.out.cur).mono ?_
  rintro e w5 ⟨k2, hk2, rfl, hc, g⟩
  have S5 := Lib.hid (S4.out.draw hc g)
  have B5 := Lib.hid (B4.out.grown g B4.out.size hck)
  clear hc g S4 B4
  go_wp2
  exact bodyPost_ret (v := .tuple #[.slice A1 m c1, .int .i64 (k0 : Int), .int .i64 (k1 : Int), .int .i64 (k2 : Int)]) (by simp [results, Try.results20, go_sem]) rfl ⟨A1, m, c1, zs, _, _, _, rfl, hm, ETab.of_own S5.out.row (by omega), B5.out⟩

/-- How CellsOf's draw ends. -/
def DOf (w : World) (e : Ending) (w' : World) : Prop :=
  ∃ (A1 : Option Addr) (m c1 : Nat) (zs : List Ce) (k0 k1 : Int), e = .returned (.tuple #[.slice A1 m c1, .int .i64 k0, .int .i64 k1]) ∧ m ≤ 10 ∧ ETab w' A1 m c1 zs ∧ Below w.heap.size w w'

set_option maxRecDepth 100000 in
set_option maxHeartbeats 4000000 in
theorem drawOf_any (w : World) (A : Option Addr) (len cap : Nat) (hlen : len ≤ 2097152) (hcame : Came w A len) :
    Calls Try.prog 23 #[.slice A len cap] w (DOf w) := by
  have HC := Lib.hid hcame
  clear hcame
  go_enter Try.func23, Try.ntmps23
  go_wp2_with fail
  have bW : Below w.heap.size w w := Below.refl _ _
  refine (new_any w A len cap hlen HC.out).mono ?_
  rintro e w1 ⟨c, rfl, hcw, hcur, hb1⟩
  have hck : ∀ k, some c = some k → w.heap.size ≤ k := fun k hk => by simp at hk; omega
  have C1 := Lib.hid hcur
  have B1 := Lib.hid (below_chain bW hb1)
  have hrs : w.heap.size ≤ w1.heap.size := by have := hb1.size; omega
  have hcl : c < w1.heap.size := hcur.lt
  clear hcur hb1 bW HC
  go_wp2_with fail
  refine (ces_draw w1 c A len cap hlen C1.out).mono ?_
  rintro e w2 ⟨A1, m, c1, zs, hm, rfl, hS⟩
  have S2 := Lib.hid hS
  have B2 := Lib.hid (B1.out.grown hS.gr B1.out.size hck)
  clear hS B1 C1
  go_wp2_with fail
  refine (below_any 4 (by omega) (by omega) w2 c A len cap hlen S2.out.cur).mono ?_
  rintro e w3 ⟨k0, hk0, rfl, hc, g⟩
  have S3 := Lib.hid (S2.out.draw hc g)
  have B3 := Lib.hid (B2.out.grown g B2.out.size hck)
  clear hc g S2 B2
  have q0 : IntKind.i64.wrap ((k0 : Int) - 1) = (k0 : Int) - 1 := IntWalk.i64_in _ (by omega)
  go_wp2_with fail
  refine (below_any 3 (by omega) (by omega) w3 c A len cap hlen S3.out.cur).mono ?_
  rintro e w4 ⟨k1, hk1, rfl, hc, g⟩
  have S4 := Lib.hid (S3.out.draw hc g)
  have B4 := Lib.hid (B3.out.grown g B3.out.size hck)
  clear hc g S3 B3
  have q1 : IntKind.i64.wrap ((k1 : Int) - 1) = (k1 : Int) - 1 := IntWalk.i64_in _ (by omega)
  go_wp2
  exact bodyPost_ret (v := .tuple #[.slice A1 m c1, .int .i64 ((k0 : Int) - 1), .int .i64 ((k1 : Int) - 1)]) (by simp [results, Try.results23, go_sem]) rfl ⟨A1, m, c1, zs, _, _, rfl, hm, ETab.of_own S4.out.row (by omega), B4.out⟩

/-- How a draw of two cells ends. -/
def DOrd (w : World) (e : Ending) (w' : World) : Prop :=
  ∃ (x0 x1 x2 x3 y0 y1 y2 y3 : Int), e = .returned (.tuple #[.agg #[.int .i64 x0, .int .i64 x1, .int .i64 x2, .int .i64 x3], .agg #[.int .i64 y0, .int .i64 y1, .int .i64 y2, .int .i64 y3]]) ∧ Below w.heap.size w w'

set_option maxRecDepth 100000 in
set_option maxHeartbeats 4000000 in
theorem drawOrd_any (w : World) (A : Option Addr) (len cap : Nat) (hlen : len ≤ 2097152) (hcame : Came w A len) :
    Calls Try.prog 24 #[.slice A len cap] w (DOrd w) := by
  have HC := Lib.hid hcame
  clear hcame
  go_enter Try.func24, Try.ntmps24
  go_wp2_with fail
  generalize hW : (w.alloc _).alloc _ = W
  have bW : Below w.heap.size w W := by rw [← hW]; exact ((Below.refl _ _).alloc (by simp) _).alloc (by simp) _
  have r0 : Blk W w.heap.size 26 #[.int .i64 0, .int .i64 0, .int .i64 0, .int .i64 0] := by rw [← hW]; exact (Below.heap_alloc _ _ _ (by simp)).trans (Blk.new _ _ _)
  have q0 : Blk W (w.heap.size + 1) 26 #[.int .i64 0, .int .i64 0, .int .i64 0, .int .i64 0] := by rw [← hW]; exact (show w.heap.size + 1 = (w.alloc _).heap.size by simp) ▸ Blk.new _ _ _
  have hrl := q0.lt
  refine (new_any W A len cap hlen (HC.out.below bW)).mono ?_
  rintro e w1 ⟨c, rfl, hcw, hcur, hb1⟩
  have hck : ∀ k, some c = some k → w.heap.size ≤ k := fun k hk => by simp at hk; omega
  have R1 := Lib.hid (r0.below hb1)
  have Q1 := Lib.hid (q0.below hb1)
  have C1 := Lib.hid hcur
  have B1 := Lib.hid (below_chain bW hb1)
  have hrs : w.heap.size + 2 ≤ w1.heap.size := by have := hb1.size; omega
  have hcl : c < w1.heap.size := hcur.lt
  clear hcur hb1 bW r0 q0 hW HC
  go_wp2_with fail
  refine (cell_draw w1 c A len cap hlen C1.out).mono ?_
  rintro e w2 ⟨x0, x1, x2, x3, rfl, hc2, g2⟩
  have C2 := Lib.hid hc2
  have B2 := Lib.hid (B1.out.grown g2 B1.out.size hck)
  have R2 := Lib.hid (R1.out.grown g2 (by simp; omega))
  have Q2 := Lib.hid (Q1.out.grown g2 (by simp; omega))
  clear hc2 g2 C1 B1 R1 Q1
  go_wp2_with fail
  refine (cell_draw w2 c A len cap hlen C2.out).mono ?_
  rintro e w3 ⟨y0, y1, y2, y3, rfl, hc3, g3⟩
  have B3 := Lib.hid (B2.out.grown g3 B2.out.size hck)
  have R3 := Lib.hid (R2.out.grown g3 (by simp; omega))
  have Q3 := Lib.hid (Q2.out.grown g3 (by simp; omega))
  clear hc3 g3 C2 B2 R2 Q2
  have e0 : w3.cell? ⟨w.heap.size, 0, none⟩ = some (.int .i64 0) := by rw [R3.out.cell]; rfl
  have e1 : w3.cell? ⟨w.heap.size, 1, none⟩ = some (.int .i64 0) := by rw [R3.out.cell]; rfl
  have e2 : w3.cell? ⟨w.heap.size, 2, none⟩ = some (.int .i64 0) := by rw [R3.out.cell]; rfl
  have e3 : w3.cell? ⟨w.heap.size, 3, none⟩ = some (.int .i64 0) := by rw [R3.out.cell]; rfl
  have f0 := R3.out.frozen 0
  have f1 := R3.out.frozen 1
  have f2 := R3.out.frozen 2
  have f3 := R3.out.frozen 3
  have g0 : w3.cell? ⟨w.heap.size + 1, 0, none⟩ = some (.int .i64 0) := by rw [Q3.out.cell]; rfl
  have g1 : w3.cell? ⟨w.heap.size + 1, 1, none⟩ = some (.int .i64 0) := by rw [Q3.out.cell]; rfl
  have g2 : w3.cell? ⟨w.heap.size + 1, 2, none⟩ = some (.int .i64 0) := by rw [Q3.out.cell]; rfl
  have g3 : w3.cell? ⟨w.heap.size + 1, 3, none⟩ = some (.int .i64 0) := by rw [Q3.out.cell]; rfl
  have h0 := Q3.out.frozen 0
  have h1 := Q3.out.frozen 1
  have h2 := Q3.out.frozen 2
  have h3 := Q3.out.frozen 3
  go_wp2_with fail
  generalize hWf : (((((((w3.setCell _ _).setCell _ _).setCell _ _).setCell _ _).setCell _ _).setCell _ _).setCell _ _).setCell _ _ = Wf
  have bf : Blk Wf w.heap.size 26 #[.int .i64 x0, .int .i64 x1, .int .i64 x2, .int .i64 x3] := by rw [← hWf]; exact ((((((((R3.out.put 0 _).put 1 _).put 2 _).put 3 _).other (by simp) _).other (by simp) _).other (by simp) _).other (by simp) _)
  have cf : Blk Wf (w.heap.size + 1) 26 #[.int .i64 y0, .int .i64 y1, .int .i64 y2, .int .i64 y3] := by rw [← hWf]; exact ((((((((Q3.out.other (by simp) _).other (by simp) _).other (by simp) _).other (by simp) _).put 0 _).put 1 _).put 2 _).put 3 _)
  have hb : Below w.heap.size w Wf := by rw [← hWf]; exact ((((((((B3.out.setCell (by simp) _).setCell (by simp) _).setCell (by simp) _).setCell (by simp) _).setCell (by simp) _).setCell (by simp) _).setCell (by simp) _).setCell (by simp) _)
  have r0 : Wf.cell? ⟨w.heap.size, 0, none⟩ = some (.int .i64 x0) := by rw [bf.cell]; rfl
  have r1 : Wf.cell? ⟨w.heap.size, 1, none⟩ = some (.int .i64 x1) := by rw [bf.cell]; rfl
  have r2 : Wf.cell? ⟨w.heap.size, 2, none⟩ = some (.int .i64 x2) := by rw [bf.cell]; rfl
  have r3 : Wf.cell? ⟨w.heap.size, 3, none⟩ = some (.int .i64 x3) := by rw [bf.cell]; rfl
  have s0 : Wf.cell? ⟨w.heap.size + 1, 0, none⟩ = some (.int .i64 y0) := by rw [cf.cell]; rfl
  have s1 : Wf.cell? ⟨w.heap.size + 1, 1, none⟩ = some (.int .i64 y1) := by rw [cf.cell]; rfl
  have s2 : Wf.cell? ⟨w.heap.size + 1, 2, none⟩ = some (.int .i64 y2) := by rw [cf.cell]; rfl
  have s3 : Wf.cell? ⟨w.heap.size + 1, 3, none⟩ = some (.int .i64 y3) := by rw [cf.cell]; rfl
  exact bodyPost_ret (v := .tuple #[.agg #[.int .i64 x0, .int .i64 x1, .int .i64 x2, .int .i64 x3], .agg #[.int .i64 y0, .int .i64 y1, .int .i64 y2, .int .i64 y3]]) (by simp [results, Try.results24, go_sem, r0, r1, r2, r3, s0, s1, s2, s3]) rfl ⟨x0, x1, x2, x3, y0, y1, y2, y3, rfl, hb⟩
end Go.Proofs.Ytlmjmhdmhpkkkaa.hexes
