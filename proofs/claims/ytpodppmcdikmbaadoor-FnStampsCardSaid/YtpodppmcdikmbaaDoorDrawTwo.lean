/-
  Two drawn stamps: the contract of spec.l02Two and of the draws that call it.
-/
import Derived.Test.YtpodppmcdikmbaaDoorDrawStamps
import Derived.Deep.RegionHeld3
namespace Go.Proofs.YtpodppmcdikmbaaDoor.hexes
open Go.RowKit

theorem set_keep {w : World} {p a : Addr} {u v : Value} (h : w.cell? a = some v) (hne : a.block ≠ p.block) : (w.setCell p u).cell? a = some v :=
  (World.cell?_of_block (w := w) (Below.heap_setCell w p u a.block hne)).trans h

theorem grown_drew (w : World) : w.grownBy w.drew none := ⟨rfl, rfl, rfl, Nat.le_refl _, fun _ _ _ => rfl⟩

/-- How a draw of two stamps ends. -/
def TwoEnd (w : World) (e : Ending) (w' : World) : Prop :=
  ∃ x y u v : Int, In64 x ∧ In64 y ∧ In64 u ∧ In64 v ∧ e = .returned (.tuple #[.agg #[.int .i64 x, .int .i64 y], .agg #[.int .i64 u, .int .i64 v]]) ∧ Below w.heap.size w w'

set_option maxRecDepth 100000 in
set_option maxHeartbeats 1000000 in
theorem two_draw (w : World) (A : Option Addr) (len cap : Nat) (hlen : len ≤ 2097152) (hcame : Came w A len) :
    Calls Tryd.prog 18 #[.slice A len cap] w (TwoEnd w) := by
  have HC := Lib.hid hcame
  clear hcame
  go_enter Tryd.func18, Tryd.ntmps18
  go_wp2_with fail
  generalize hW : (w.alloc _).alloc _ = W
  have bW : Below w.heap.size w W := by rw [← hW]; exact ((Below.refl _ _).alloc (by simp) _).alloc (by simp) _
  have p0 : Blk W w.heap.size 25 #[.int .i64 0, .int .i64 0] := by rw [← hW]; exact (Below.heap_alloc _ _ _ (by simp)).trans (Blk.new _ _ _)
  have q0 : Blk W (w.heap.size + 1) 25 #[.int .i64 0, .int .i64 0] := by rw [← hW]; exact (show w.heap.size + 1 = (w.alloc _).heap.size by simp) ▸ Blk.new _ _ _
  have hsz := q0.lt
  refine (new_any W A len cap hlen (HC.out.below bW)).mono ?_
  rintro e w1 ⟨c, rfl, hcw, hcur, hb1⟩
  have hck : ∀ k, some c = some k → w.heap.size ≤ k := fun k hk => by simp at hk; omega
  have P1 := Lib.hid (p0.below hb1)
  have Q1 := Lib.hid (q0.below hb1)
  have C1 := Lib.hid hcur
  have B1 := Lib.hid (below_chain bW hb1)
  clear hcur hb1 p0 q0 bW hW HC
  go_wp2_with fail
  refine (any_draw w1 c A len cap hlen C1.out).mono ?_
  rintro e w2 ⟨x, y, hx, hy, rfl, hc2, g2⟩
  have P2 := Lib.hid (P1.out.grown g2 (by simp; omega))
  have Q2 := Lib.hid (Q1.out.grown g2 (by simp; omega))
  have C2 := Lib.hid hc2
  have B2 := Lib.hid (B1.out.grown g2 B1.out.size hck)
  clear hc2 g2 P1 Q1 C1 B1
  go_wp2_with fail
  generalize hW2 : w2.alloc _ = W2
  have g2 : w2.grownBy W2 none := by rw [← hW2]; exact World.grownBy_alloc w2 _ none
  have s2 : Blk W2 w2.heap.size 25 #[.int .i64 x, .int .i64 y] := by rw [← hW2]; exact Blk.new _ _ _
  have hp2 := P2.out.lt
  have hq2 := Q2.out.lt
  have hc2 := C2.out.lt
  refine (once_any 4 (by omega) (by omega) W2 c A len cap hlen (C2.out.grown g2)).mono ?_
  rintro e w3 ⟨b, rfl, hc3, g3⟩
  have S3 := Lib.hid (s2.grown g3 (by simp; omega))
  have P3 := Lib.hid ((P2.out.grown g2 (by simp)).grown g3 (by simp; omega))
  have Q3 := Lib.hid ((Q2.out.grown g2 (by simp)).grown g3 (by simp; omega))
  have C3 := Lib.hid hc3
  have B3 := Lib.hid ((B2.out.grown g2 B2.out.size (fun k hk => by simp at hk)).grown g3 (Nat.le_trans B2.out.size g2.size) hck)
  clear hc3 g3 g2 s2 hW2 P2 Q2 C2 B2
  have d0 : w3.cell? ⟨w2.heap.size, 0, none⟩ = some (.int .i64 x) := by rw [S3.out.cell]; rfl
  have d1 : w3.cell? ⟨w2.heap.size, 1, none⟩ = some (.int .i64 y) := by rw [S3.out.cell]; rfl
  cases b with
  | true =>
    have d2 : w3.cell? ⟨w.heap.size, 0, none⟩ = some (.int .i64 0) := by rw [P3.out.cell]; rfl
    have d3 : w3.cell? ⟨w.heap.size, 1, none⟩ = some (.int .i64 0) := by rw [P3.out.cell]; rfl
    have d4 : w3.cell? ⟨w.heap.size + 1, 0, none⟩ = some (.int .i64 0) := by rw [Q3.out.cell]; rfl
    have d5 : w3.cell? ⟨w.heap.size + 1, 1, none⟩ = some (.int .i64 0) := by rw [Q3.out.cell]; rfl
    have f2 := P3.out.frozen 0
    have f3 := P3.out.frozen 1
    have f4 := Q3.out.frozen 0
    have f5 := Q3.out.frozen 1
    have n1 : ¬w2.heap.size = w.heap.size := by omega
    have n2 : ¬w2.heap.size = w.heap.size + 1 := by omega
    go_wp2_with fail
    go_region_held3 (fun w' => w'.cell? ⟨w2.heap.size, 0, none⟩ = some (.int .i64 x) ∧ w'.cell? ⟨w2.heap.size, 1, none⟩ = some (.int .i64 y))
      ((refine ⟨?_, ?_⟩ <;> (repeat (first | with_reducible assumption | with_reducible refine drew_keep ?_ | with_reducible refine set_keep ?_ (by simp; omega)))))
      (fail)
    all_goals (
      go_wp2_with fail
      refine bodyPost_ret (v := .tuple #[.agg #[.int .i64 x, .int .i64 y], .agg #[.int .i64 x, .int .i64 y]]) ?_ rfl ⟨x, y, x, y, hx, hy, hx, hy, rfl, ?_⟩
      · simp [results, Tryd.results18, go_sem, d2, d3, d4, d5]
      · repeat (first | with_reducible exact B3.out | with_reducible refine Below.drew ?_ | with_reducible refine Below.setCell ?_ (by simp) _))
  | false =>
    have n1 : w2.heap.size ≠ c := by omega
    go_wp2_with fail
    go_region_held3 (fun w' => w'.cell? ⟨w2.heap.size, 0, none⟩ = some (.int .i64 x) ∧ w'.cell? ⟨w2.heap.size, 1, none⟩ = some (.int .i64 y))
      ((refine ⟨?_, ?_⟩ <;> (repeat (first | with_reducible assumption | with_reducible refine drew_keep ?_ | with_reducible refine set_keep ?_ (by simp; omega)))))
      ((go_at_call 23; refine (any_draw _ c A len cap hlen (C3.out.grown (grown_drew _))).mono ?_; rintro e w4 ⟨u, v, hu, hv, rfl, hc4, g4⟩; (have k0 : w4.cell? ⟨w2.heap.size, 0, none⟩ = some (.int .i64 x) := by (rw [(Blk.grown (w := w3.drew) S3.out g4 (by simp; omega)).cell]; rfl)); (have k1 : w4.cell? ⟨w2.heap.size, 1, none⟩ = some (.int .i64 y) := by (rw [(Blk.grown (w := w3.drew) S3.out g4 (by simp; omega)).cell]; rfl)); (have P4 := (Blk.grown (w := w3.drew) P3.out g4 (by simp; omega))); (have Q4 := (Blk.grown (w := w3.drew) Q3.out g4 (by simp; omega))); (have B4 := (B3.out.drew).grown g4 B3.out.size hck); (have d2 : w4.cell? ⟨w.heap.size, 0, none⟩ = some (.int .i64 0) := by (rw [P4.cell]; rfl)); (have d3 : w4.cell? ⟨w.heap.size, 1, none⟩ = some (.int .i64 0) := by (rw [P4.cell]; rfl)); (have d4 : w4.cell? ⟨w.heap.size + 1, 0, none⟩ = some (.int .i64 0) := by (rw [Q4.cell]; rfl)); (have d5 : w4.cell? ⟨w.heap.size + 1, 1, none⟩ = some (.int .i64 0) := by (rw [Q4.cell]; rfl)); (have f2 := P4.frozen 0); (have f3 := P4.frozen 1); (have f4 := Q4.frozen 0); (have f5 := Q4.frozen 1)))
    all_goals (
      go_wp2_with fail
      refine bodyPost_ret (v := .tuple #[.agg #[.int .i64 x, .int .i64 y], .agg #[.int .i64 u, .int .i64 v]]) ?_ rfl ⟨x, y, u, v, hx, hy, hu, hv, rfl, ?_⟩
      · simp [results, Tryd.results18, go_sem, d2, d3, d4, d5]
      · repeat (first | with_reducible exact B4 | with_reducible refine Below.drew ?_ | with_reducible refine Below.setCell ?_ (by simp) _))

set_option maxRecDepth 100000 in
theorem drawLeq_any (w : World) (A : Option Addr) (len cap : Nat) (hlen : len ≤ 2097152) (hcame : Came w A len) :
    Calls Tryd.prog 6 #[.slice A len cap] w (TwoEnd w) := by
  have HC := Lib.hid hcame
  clear hcame
  go_enter Tryd.func6, Tryd.ntmps6
  go_wp2_with fail
  generalize hW : (w.alloc _).alloc _ = W
  have bW : Below w.heap.size w W := by rw [← hW]; exact ((Below.refl _ _).alloc (by simp) _).alloc (by simp) _
  have p0 : Blk W w.heap.size 25 #[.int .i64 0, .int .i64 0] := by rw [← hW]; exact (Below.heap_alloc _ _ _ (by simp)).trans (Blk.new _ _ _)
  have q0 : Blk W (w.heap.size + 1) 25 #[.int .i64 0, .int .i64 0] := by rw [← hW]; exact (show w.heap.size + 1 = (w.alloc _).heap.size by simp) ▸ Blk.new _ _ _
  refine (two_draw W A len cap hlen (HC.out.below bW)).mono ?_
  rintro e w1 ⟨x, y, u, v, hx, hy, hu, hv, rfl, hb1⟩
  have P1 := p0.below hb1
  have Q1 := q0.below hb1
  have B1 := Lib.hid (below_chain bW hb1)
  have d2 : w1.cell? ⟨w.heap.size, 0, none⟩ = some (.int .i64 0) := by rw [P1.cell]; rfl
  have d3 : w1.cell? ⟨w.heap.size, 1, none⟩ = some (.int .i64 0) := by rw [P1.cell]; rfl
  have d4 : w1.cell? ⟨w.heap.size + 1, 0, none⟩ = some (.int .i64 0) := by rw [Q1.cell]; rfl
  have d5 : w1.cell? ⟨w.heap.size + 1, 1, none⟩ = some (.int .i64 0) := by rw [Q1.cell]; rfl
  have f2 := P1.frozen 0
  have f3 := P1.frozen 1
  have f4 := Q1.frozen 0
  have f5 := Q1.frozen 1
  clear hb1 p0 q0 bW hW HC P1 Q1
  go_wp2_with fail
  refine bodyPost_ret (v := .tuple #[.agg #[.int .i64 x, .int .i64 y], .agg #[.int .i64 u, .int .i64 v]]) ?_ rfl ⟨x, y, u, v, hx, hy, hu, hv, rfl, ?_⟩
  · simp [results, Tryd.results6, go_sem, d2, d3, d4, d5]
  · repeat (first | with_reducible exact B1.out | with_reducible refine Below.drew ?_ | with_reducible refine Below.setCell ?_ (by simp) _)

end Go.Proofs.YtpodppmcdikmbaaDoor.hexes
