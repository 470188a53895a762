/-
  Links: the contracts of the laws' own functions on them.
-/
import Derived.Test.YtidpjpakodndhaaRcKit
import Derived.Test.YtidpjpakodndhaaDrawBlk
namespace Go.Proofs.Ytidpjpakodndhaa.hexes
open Go.RowKit

theorem grown_set (w : World) (p : Addr) (u : Value) : w.grownBy (w.setCell p u) (some p.block) :=
  ⟨rfl, rfl, rfl, by simp [World.setCell], fun i _ hne => Below.heap_setCell w p u i (by rintro rfl; exact hne rfl)⟩
theorem own_set {w : World} {B e size n : Nat} {v : Value} {xs : List Value} (h : w.ownsRow B e size v n xs) {p : Addr} (u : Value) (hp : p.block < B) : (w.setCell p u).ownsRow B e size v n xs := by
  refine h.kept (grown_set w p u) ?_
  cases hv : v.ownBlock with
  | none => exact .inl rfl
  | some g =>
    refine .inr fun e => ?_
    have h1 := own_ge h g hv
    obtain rfl : g = p.block := Option.some.inj e
    omega
theorem rcs_set {w : World} {A : Option Addr} {zs : List Rc} (h : Rcs w A zs) {p : Addr} (u : Value) (hp : ∀ b off, A = some ⟨b, off, none⟩ → b ≠ p.block) : Rcs (w.setCell p u) A zs := fun hl => by
  obtain ⟨b, off, hA, hlt, hz⟩ := h hl
  have hb := Below.heap_setCell w p u b (hp b off hA)
  refine ⟨b, off, hA, by simpa [World.setCell] using hlt, fun j hj => ?_⟩
  have key : ∀ i, (w.setCell p u).cell? ⟨b, i, none⟩ = w.cell? ⟨b, i, none⟩ := fun i => World.cell?_of_block hb
  simpa only [key] using hz j hj
theorem rcs_alloc {w : World} {A : Option Addr} {zs : List Rc} (h : Rcs w A zs) (o : Obj) : Rcs (w.alloc o) A zs := h.below ((Below.refl _ _).alloc (Nat.le_refl _) _)
/-- The block that is written lies where the list does not. -/
theorem rcs_put {w : World} {A : Option Addr} {zs : List Rc} {B : Nat} (h : Rcs w A zs) (hB : ∀ b off, 0 < zs.length → A = some ⟨b, off, none⟩ → b < B) {p : Addr} (u : Value) (hp : B ≤ p.block) : Rcs (w.setCell p u) A zs := fun hl => by
  exact rcs_set h u (fun b off hA => by have := hB b off hl hA; omega) hl
theorem rcs_lt {w : World} {A : Option Addr} {zs : List Rc} (h : Rcs w A zs) : ∀ b off, 0 < zs.length → A = some ⟨b, off, none⟩ → b < w.heap.size := fun b off hl hA => by
  obtain ⟨b', off', hA', hlt, _⟩ := h hl
  rw [hA] at hA'
  simp only [Option.some.injEq, Addr.mk.injEq, and_true] at hA'
  omega

set_option maxRecDepth 100000 in
theorem szLk_over (A : Option Addr) (n c : Nat) (p a b s g left : Int) (h0 : 0 ≤ left) (h1 : left ≤ 1048576) (hn : n ≤ maxLen) (h : left < (n : Int)) (w : World) :
    Calls Try.prog 36 #[.agg #[.int .i64 p, .slice A n c, .int .i64 a, .int .i64 b, .int .i64 s, .int .i64 g], .int .i64 left] w fun e w' => e = .returned (.int .i64 (-1)) ∧ Below w.heap.size w w' := by
  have E := Lib.hid (fun W => szRc_over A n c left h0 h1 hn h W)
  have hd : decide (left - (n : Int) < 0) = true := by simp; omega
  clear h
  go_enter Try.func36, Try.ntmps36
  go_wp2_with fail
  refine (E.out _).mono ?_
  rintro e w1 ⟨rfl, rfl⟩
  go_wp2
  go_ret
  exact ⟨rfl, (Below.refl _ _).alloc (Nat.le_refl _) _⟩

set_option maxRecDepth 100000 in
theorem szLk_in (A : Option Addr) (n c : Nat) (p a b s g left : Int) (h0 : 0 ≤ left) (h1 : left ≤ 1048576) (hn : n ≤ maxLen) (h : ¬left < (n : Int)) (w : World) :
    Calls Try.prog 36 #[.agg #[.int .i64 p, .slice A n c, .int .i64 a, .int .i64 b, .int .i64 s, .int .i64 g], .int .i64 left] w fun e w' => e = .returned (.int .i64 (left - n)) ∧ Below w.heap.size w w' := by
  have E := Lib.hid (fun W => szRc_in A n c left h0 h1 hn h W)
  have hd : decide (left - (n : Int) < 0) = false := by simp; omega
  clear h
  go_enter Try.func36, Try.ntmps36
  go_wp2_with fail
  refine (E.out _).mono ?_
  rintro e w1 ⟨rfl, rfl⟩
  go_wp2
  go_ret
  exact ⟨rfl, (Below.refl _ _).alloc (Nat.le_refl _) _⟩

set_option maxRecDepth 100000 in
theorem toLk_row (A : Option Addr) (n c : Nat) (zs : List Rc) (hz : zs.length = n) (p a b s g : Int) (w : World) (h1 : Rcs w A zs) (hn : n ≤ 1048576) :
    Calls Try.prog 37 #[.agg #[.int .i64 p, .slice A n c, .int .i64 a, .int .i64 b, .int .i64 s, .int .i64 g]] w fun e w' => ∃ A1 c1, e = .returned (.agg #[.int .i64 p, .slice A1 n c1, .int .i64 a, .int .i64 b, .int .i64 s, .int .i64 g]) ∧ Row w' w.heap.size w'.heap.size 30 5 A1 n c1 (rcCells zs) ∧ Below w.heap.size w w' := by
  have H1 := Lib.hid h1
  have HZ := Lib.hid hz
  clear h1 hz
  go_enter Try.func37, Try.ntmps37
  go_wp2_with fail
  generalize hW : ((w.alloc _).alloc _).alloc _ = W
  have bW : Below w.heap.size w W := by rw [← hW]; exact ((((Below.refl _ _).alloc (by first | (simp; done) | (simp; omega) | omega) _).alloc (by first | (simp; done) | (simp; omega) | omega) _).alloc (by first | (simp; done) | (simp; omega) | omega) _)
  have hs : W.heap.size = w.heap.size + 3 := by rw [← hW]; simp
  have c0 : Blk W w.heap.size 52 #[.int .i64 p, .slice A n c, .int .i64 a, .int .i64 b, .int .i64 s, .int .i64 g] := by rw [← hW]; exact (Below.heap_alloc _ _ _ (by simp; omega)).trans ((Below.heap_alloc _ _ _ (by simp)).trans (Blk.new _ _ _))
  have r0 : Blk W (w.heap.size + 1) 26 #[.int .i64 0, .slice none 0 0, .int .i64 0, .int .i64 0, .int .i64 0, .int .i64 0] := by rw [← hW]; exact (Below.heap_alloc _ _ _ (by simp)).trans ((show w.heap.size + 1 = (w.alloc _).heap.size by simp) ▸ Blk.new _ _ _)
  have s0 : Blk W (w.heap.size + 2) 26 #[.int .i64 p, .slice none 0 0, .int .i64 0, .int .i64 0, .int .i64 0, .int .i64 0] := by rw [← hW]; exact (show w.heap.size + 2 = ((w.alloc _).alloc _).heap.size by simp) ▸ Blk.new _ _ _
  clear hW
  refine (toRcS_row n zs HZ.out A c W (H1.out.below bW) hn).mono ?_
  rintro e w1 ⟨A1, c1, rfl, row1, hb⟩
  have B1 := Lib.hid (below_chain bW hb)
  have q1 := c0.below hb
  have r1 := r0.below hb
  have s1 := s0.below hb
  have cc0 : w1.cell? ⟨w.heap.size, 0, none⟩ = some (.int .i64 p) := by rw [q1.cell]; rfl
  have cc1 : w1.cell? ⟨w.heap.size, 1, none⟩ = some (.slice A n c) := by rw [q1.cell]; rfl
  have cc2 : w1.cell? ⟨w.heap.size, 2, none⟩ = some (.int .i64 a) := by rw [q1.cell]; rfl
  have cc3 : w1.cell? ⟨w.heap.size, 3, none⟩ = some (.int .i64 b) := by rw [q1.cell]; rfl
  have cc4 : w1.cell? ⟨w.heap.size, 4, none⟩ = some (.int .i64 s) := by rw [q1.cell]; rfl
  have cc5 : w1.cell? ⟨w.heap.size, 5, none⟩ = some (.int .i64 g) := by rw [q1.cell]; rfl
  have d0 : w1.cell? ⟨w.heap.size + 2, 0, none⟩ = some (.int .i64 p) := by rw [s1.cell]; rfl
  have d1 : w1.cell? ⟨w.heap.size + 2, 1, none⟩ = some (.slice none 0 0) := by rw [s1.cell]; rfl
  have d2 : w1.cell? ⟨w.heap.size + 2, 2, none⟩ = some (.int .i64 0) := by rw [s1.cell]; rfl
  have d3 : w1.cell? ⟨w.heap.size + 2, 3, none⟩ = some (.int .i64 0) := by rw [s1.cell]; rfl
  have d4 : w1.cell? ⟨w.heap.size + 2, 4, none⟩ = some (.int .i64 0) := by rw [s1.cell]; rfl
  have d5 : w1.cell? ⟨w.heap.size + 2, 5, none⟩ = some (.int .i64 0) := by rw [s1.cell]; rfl
  have k0 : w1.cell? ⟨w.heap.size + 1, 0, none⟩ = some (.int .i64 0) := by rw [r1.cell]; rfl
  have k1 : w1.cell? ⟨w.heap.size + 1, 1, none⟩ = some (.slice none 0 0) := by rw [r1.cell]; rfl
  have k2 : w1.cell? ⟨w.heap.size + 1, 2, none⟩ = some (.int .i64 0) := by rw [r1.cell]; rfl
  have k3 : w1.cell? ⟨w.heap.size + 1, 3, none⟩ = some (.int .i64 0) := by rw [r1.cell]; rfl
  have k4 : w1.cell? ⟨w.heap.size + 1, 4, none⟩ = some (.int .i64 0) := by rw [r1.cell]; rfl
  have k5 : w1.cell? ⟨w.heap.size + 1, 5, none⟩ = some (.int .i64 0) := by rw [r1.cell]; rfl
  have f0 := s1.frozen 0
  have g0 := r1.frozen 0
  have f1 := s1.frozen 1
  have g1 := r1.frozen 1
  have f2 := s1.frozen 2
  have g2 := r1.frozen 2
  have f3 := s1.frozen 3
  have g3 := r1.frozen 3
  have f4 := s1.frozen 4
  have g4 := r1.frozen 4
  have f5 := s1.frozen 5
  have g5 := r1.frozen 5
  have R1 := Lib.hid r1
  have O1 := Lib.hid row1
  have HS := Lib.hid hs
  clear hb bW r0 s0 r1 s1 c0 q1 row1 hs
  go_wp2_with fail
  generalize hWf : (((((((((((w1.setCell _ _).setCell _ _).setCell _ _).setCell _ _).setCell _ _).setCell _ _).setCell _ _).setCell _ _).setCell _ _).setCell _ _).setCell _ _) = Wf
  have bf : Blk Wf (w.heap.size + 1) 26 #[.int .i64 p, .slice A1 n c1, .int .i64 a, .int .i64 b, .int .i64 s, .int .i64 g] := by
    rw [← hWf]
    exact (((((((((((R1.out.other (by first | (simp; done) | (simp; omega) | omega) _).other (by first | (simp; done) | (simp; omega) | omega) _).other (by first | (simp; done) | (simp; omega) | omega) _).other (by first | (simp; done) | (simp; omega) | omega) _).other (by first | (simp; done) | (simp; omega) | omega) _).put 0 _).put 1 _).put 2 _).put 3 _).put 4 _).put 5 _)
  have hb : Below w.heap.size w Wf := by
    rw [← hWf]
    exact (((((((((((B1.out.setCell (by first | (simp; done) | (simp; omega) | omega) _).setCell (by first | (simp; done) | (simp; omega) | omega) _).setCell (by first | (simp; done) | (simp; omega) | omega) _).setCell (by first | (simp; done) | (simp; omega) | omega) _).setCell (by first | (simp; done) | (simp; omega) | omega) _).setCell (by first | (simp; done) | (simp; omega) | omega) _).setCell (by first | (simp; done) | (simp; omega) | omega) _).setCell (by first | (simp; done) | (simp; omega) | omega) _).setCell (by first | (simp; done) | (simp; omega) | omega) _).setCell (by first | (simp; done) | (simp; omega) | omega) _).setCell (by first | (simp; done) | (simp; omega) | omega) _)
  have ho : Wf.ownsRow w.heap.size 30 5 (.slice A1 n c1) n (rcCells zs) := by
    have hs := HS.out
    rw [← hWf]
    exact own_base ((own_set (own_set (own_set (own_set (own_set (own_set (own_set (own_set (own_set (own_set (own_set O1.out.own _ (by first | (simp; done) | (simp; omega) | omega)) _ (by first | (simp; done) | (simp; omega) | omega)) _ (by first | (simp; done) | (simp; omega) | omega)) _ (by first | (simp; done) | (simp; omega) | omega)) _ (by first | (simp; done) | (simp; omega) | omega)) _ (by first | (simp; done) | (simp; omega) | omega)) _ (by first | (simp; done) | (simp; omega) | omega)) _ (by first | (simp; done) | (simp; omega) | omega)) _ (by first | (simp; done) | (simp; omega) | omega)) _ (by first | (simp; done) | (simp; omega) | omega)) _ (by first | (simp; done) | (simp; omega) | omega))) (by omega)
  have e0 : Wf.cell? ⟨w.heap.size + 1, 0, none⟩ = some (.int .i64 p) := by rw [bf.cell]; rfl
  have e1 : Wf.cell? ⟨w.heap.size + 1, 1, none⟩ = some (.slice A1 n c1) := by rw [bf.cell]; rfl
  have e2 : Wf.cell? ⟨w.heap.size + 1, 2, none⟩ = some (.int .i64 a) := by rw [bf.cell]; rfl
  have e3 : Wf.cell? ⟨w.heap.size + 1, 3, none⟩ = some (.int .i64 b) := by rw [bf.cell]; rfl
  have e4 : Wf.cell? ⟨w.heap.size + 1, 4, none⟩ = some (.int .i64 s) := by rw [bf.cell]; rfl
  have e5 : Wf.cell? ⟨w.heap.size + 1, 5, none⟩ = some (.int .i64 g) := by rw [bf.cell]; rfl
  obtain ⟨A2, c2, he, hr⟩ := row_of ho
  simp only [Value.slice.injEq, true_and] at he
  obtain ⟨rfl, rfl⟩ := he
  exact bodyPost_ret (v := .agg #[.int .i64 p, .slice A1 n c1, .int .i64 a, .int .i64 b, .int .i64 s, .int .i64 g]) (by simp [results, Try.results37, go_sem, e0, e1, e2, e3, e4, e5]) rfl ⟨A1, c1, rfl, hr, hb⟩

set_option maxRecDepth 100000 in
theorem eqLk_row {w : World} {lo1 hi1 lo2 hi2 n c1 c2 : Nat} {A1 A2 : Option Addr} {zs : List Rc} (p a b s g : Int) (h1 : Row w lo1 hi1 30 5 A1 n c1 (rcCells zs)) (h2 : Row w lo2 hi2 30 5 A2 n c2 (rcCells zs)) (hn : n ≤ 4194304) :
    Calls Try.prog 33 #[.agg #[.int .i64 p, .slice A1 n c1, .int .i64 a, .int .i64 b, .int .i64 s, .int .i64 g], .agg #[.int .i64 p, .slice A2 n c2, .int .i64 a, .int .i64 b, .int .i64 s, .int .i64 g]] w fun e w' => e = .returned (.bool true) ∧ Below w.heap.size w w' := by
  have np : (p != p) = false := by simp
  have na : (a != a) = false := by simp
  have nb : (b != b) = false := by simp
  have ns : (s != s) = false := by simp
  have ng : (g != g) = false := by simp
  have H1 := Lib.hid h1
  have H2 := Lib.hid h2
  clear h1 h2
  go_enter Try.func33, Try.ntmps33
  go_wp2_with fail
  generalize hW : (w.alloc _).alloc _ = W
  have bW : Below w.heap.size w W := by rw [← hW]; exact (((Below.refl _ _).alloc (by first | (simp; done) | (simp; omega) | omega) _).alloc (by first | (simp; done) | (simp; omega) | omega) _)
  have c0 : Blk W w.heap.size 26 #[.int .i64 p, .slice A1 n c1, .int .i64 a, .int .i64 b, .int .i64 s, .int .i64 g] := by rw [← hW]; exact (Below.heap_alloc _ _ _ (by simp)).trans (Blk.new _ _ _)
  have d0 : Blk W (w.heap.size + 1) 26 #[.int .i64 p, .slice A2 n c2, .int .i64 a, .int .i64 b, .int .i64 s, .int .i64 g] := by rw [← hW]; exact (show w.heap.size + 1 = (w.alloc _).heap.size by simp) ▸ Blk.new _ _ _
  clear hW
  refine (eqRcS_row (H1.out.below bW) (H2.out.below bW) hn).mono ?_
  rintro e w1 ⟨rfl, hb⟩
  have B1 := Lib.hid (below_chain bW hb)
  have c1' := c0.below hb
  have d1' := d0.below hb
  have cc0 : w1.cell? ⟨w.heap.size, 0, none⟩ = some (.int .i64 p) := by rw [c1'.cell]; rfl
  have cc1 : w1.cell? ⟨w.heap.size, 1, none⟩ = some (.slice A1 n c1) := by rw [c1'.cell]; rfl
  have cc2 : w1.cell? ⟨w.heap.size, 2, none⟩ = some (.int .i64 a) := by rw [c1'.cell]; rfl
  have cc3 : w1.cell? ⟨w.heap.size, 3, none⟩ = some (.int .i64 b) := by rw [c1'.cell]; rfl
  have cc4 : w1.cell? ⟨w.heap.size, 4, none⟩ = some (.int .i64 s) := by rw [c1'.cell]; rfl
  have cc5 : w1.cell? ⟨w.heap.size, 5, none⟩ = some (.int .i64 g) := by rw [c1'.cell]; rfl
  have dd0 : w1.cell? ⟨w.heap.size + 1, 0, none⟩ = some (.int .i64 p) := by rw [d1'.cell]; rfl
  have dd1 : w1.cell? ⟨w.heap.size + 1, 1, none⟩ = some (.slice A2 n c2) := by rw [d1'.cell]; rfl
  have dd2 : w1.cell? ⟨w.heap.size + 1, 2, none⟩ = some (.int .i64 a) := by rw [d1'.cell]; rfl
  have dd3 : w1.cell? ⟨w.heap.size + 1, 3, none⟩ = some (.int .i64 b) := by rw [d1'.cell]; rfl
  have dd4 : w1.cell? ⟨w.heap.size + 1, 4, none⟩ = some (.int .i64 s) := by rw [d1'.cell]; rfl
  have dd5 : w1.cell? ⟨w.heap.size + 1, 5, none⟩ = some (.int .i64 g) := by rw [d1'.cell]; rfl
  clear hb bW c0 d0 c1' d1'
  go_wp2
  go_ret
  exact ⟨rfl, B1.out⟩

set_option maxRecDepth 100000 in
theorem markLk_row {w : World} {lo hi n c : Nat} {A : Option Addr} {zs : List Rc} (k0 : Nat) (p a b s g : Int) (h : Row w lo hi 30 5 A n c (rcCells zs)) (hn : n ≤ 4194304) (hk1 : k0 ≤ 4194304) :
    Calls Try.prog 34 #[.agg #[.int .i64 p, .slice A n c, .int .i64 a, .int .i64 b, .int .i64 s, .int .i64 g], .int .i64 (k0 : Int)] w fun e w' => e = .returned (.int .i64 ((k0 + 5 * n : Nat) : Int)) ∧ Row w' lo hi 30 5 A n c (rcCells (rcMarks k0 n)) ∧ Wrote w w' lo hi := by
  have H := Lib.hid h
  clear h
  go_enter Try.func34, Try.ntmps34
  go_wp2_with fail
  generalize hW : w.alloc _ = W
  have gW : ∀ row, w.grownBy W row := fun row => by rw [← hW]; exact World.grownBy_alloc _ _ row
  have bW : Below w.heap.size w W := by rw [← hW]; exact (Below.refl _ _).alloc (Nat.le_refl _) _
  clear hW
  refine (markRcS_row k0 (H.out.below bW) hn (by omega)).mono ?_
  rintro e w1 ⟨rfl, hr, row, hg, hrow⟩
  have R1 := Lib.hid hr
  have W1 := Lib.hid (show Wrote w w1 lo hi from ⟨row, grown_trans (gW row) hg, hrow⟩)
  clear hr hg hrow gW bW
  go_wp2
  go_ret
  exact ⟨rfl, R1.out, W1.out⟩

set_option maxRecDepth 100000 in
theorem heldLk_row {w : World} {lo hi n c : Nat} {A : Option Addr} (k0 : Nat) (p a b s g : Int) (h : Row w lo hi 30 5 A n c (rcCells (rcMarks k0 n))) (hn : n ≤ 4194304) (hk1 : k0 ≤ 4194304) :
    Calls Try.prog 35 #[.agg #[.int .i64 p, .slice A n c, .int .i64 a, .int .i64 b, .int .i64 s, .int .i64 g], .int .i64 (k0 : Int)] w fun e w' => e = .returned (.int .i64 ((k0 + 5 * n : Nat) : Int)) ∧ Below w.heap.size w w' := by
  have H := Lib.hid h
  have hd : decide (((k0 + 5 * n : Nat) : Int) < 0) = false := by simp; omega
  clear h
  go_enter Try.func35, Try.ntmps35
  go_wp2_with fail
  generalize hW : w.alloc _ = W
  have bW : Below w.heap.size w W := by rw [← hW]; exact (Below.refl _ _).alloc (Nat.le_refl _) _
  clear hW
  refine (heldRcS_row k0 (H.out.below bW) hn (by omega)).mono ?_
  rintro e w1 ⟨rfl, rfl⟩
  have B1 := Lib.hid bW
  clear bW
  go_wp2
  go_ret
  exact ⟨rfl, B1.out⟩

end Go.Proofs.Ytidpjpakodndhaa.hexes
