/-
  Lists of nodes compared; graphs.
-/
import Derived.Test.YtbbagpnjjjohpaaJ11
import Derived.Deep.RegionHeld3

namespace Go.Proofs.Ytbbagpnjjjohpaa.hexes
open Go.RowKit

theorem ints_drewR {w : World} {A : Option Addr} {zs : List Int} (h : Ints w A zs) : Ints w.drew A zs := h

set_option maxRecDepth 100000 in
theorem eqNd_is (A1 A2 : Option Addr) (n c1 c2 : Nat) (zs : List Int) (hz : zs.length = n) (hn : n ≤ 4194304) (k a b : Int) (w : World) (h1 : Ints w A1 zs) (h2 : Ints w A2 zs) :
    Calls Try.prog 96 #[.agg #[.int .i64 k, .int .i64 a, .int .i64 b, .slice A1 n c1], .agg #[.int .i64 k, .int .i64 a, .int .i64 b, .slice A2 n c2]] w fun e w' => e = .returned (.bool true) ∧ Below w.heap.size w w' := by
  have nk : (k != k) = false := by simp
  have na : (a != a) = false := by simp
  have nb : (b != b) = false := by simp
  have H1 := Lib.hid h1
  have H2 := Lib.hid h2
  have HZ := Lib.hid hz
  clear h1 h2 hz
  go_enter Try.func96, Try.ntmps96
  go_wp2_with fail
  generalize hW : (w.alloc _).alloc _ = W
  have bW : Below w.heap.size w W := by rw [← hW]; exact ((Below.refl _ _).alloc (by first | (simp; done) | (simp; omega) | omega) _).alloc (by first | (simp; done) | (simp; omega) | omega) _
  clear hW
  refine (eqIsS_any n n zs zs HZ.out HZ.out A1 A2 c1 c2 W (H1.out.below bW) (H2.out.below bW) hn).mono ?_
  rintro e w1 ⟨rfl, hb⟩
  rw [decide_eq_true rfl]
  have B1 := Lib.hid (below_chain bW hb)
  clear hb bW
  go_wp2
  go_ret
  exact ⟨rfl, B1.out⟩

set_option maxRecDepth 100000 in
set_option maxHeartbeats 1000000 in
theorem eqNds_is (n : Nat) (gs : List Nd) (hl : gs.length = n) (A1 A2 : Option Addr) (c1 c2 : Nat) (w : World) (h1 : Nds w A1 gs) (h2 : Nds w A2 gs) (hn : n ≤ 1048576) (hs : ∀ x ∈ gs, x.2.2.2.length ≤ 1048576) :
    Calls Try.prog 68 #[.slice A1 n c1, .slice A2 n c2] w fun e w' => e = .returned (.bool true) ∧ Below w.heap.size w w' := by
  have H1 := Lib.hid h1
  have H2 := Lib.hid h2
  have HL := Lib.hid hl
  have HS := Lib.hid hs
  clear h1 h2 hl hs
  go_enter Try.func68, Try.ntmps68
  go_wp2
  go_loopw [5] (fun i wr => ∃ k : Nat, k ≤ n ∧ i = .int .i64 (k : Int) ∧ Below w.heap.size w wr) (fun i _ => n - (intOf i).toNat)
  case atStart => exact ⟨0, Nat.zero_le _, rfl, Below.refl _ _⟩
  case round =>
    obtain ⟨k, hk, rfl, hb⟩ := hrel
    have HB := Lib.hid hb
    by_cases hlt : k < n
    · have l1 : k < gs.length := by rw [HL.out]; exact hlt
      obtain ⟨b1, o1, kd, a, bb, zs, A3, n1, c3, rfl, x1, hz, _, j1, e0, e1, e2, e3⟩ := (H1.out.below hb).at l1
      obtain ⟨b2, o2, kd', a', bb', zs', A4, n2, c4, rfl, x2, hz', _, j2, f0, f1, f2, f3⟩ := (H2.out.below hb).at l1
      rw [x1] at x2
      simp only [Prod.mk.injEq] at x2
      obtain ⟨rfl, rfl, rfl, rfl⟩ := x2
      obtain rfl : n1 = n2 := by rw [← hz, ← hz']
      have hn1 : n1 ≤ 4194304 := by have := HS.out _ (List.getElem_mem l1); rw [x1] at this; rw [← hz]; exact Nat.le_trans this (by omega)
      have E := Lib.hid (fun W (h1 : Ints W A3 zs) (h2 : Ints W A4 zs) => eqNd_is A3 A4 n1 c3 c4 zs hz hn1 kd a bb W h1 h2)
      have i0 : (0 : Int) ≤ (k : Int) := by omega
      have i1 : (k : Int) < (n : Int) := by omega
      clear hb x1 hz hz' l1 hn1
      go_wp2_with fail
      go_region_held3 (fun w' => w'.cell? ⟨b1, o1 + k * 4, none⟩ = some (.int .i64 kd) ∧ w'.cell? ⟨b1, o1 + k * 4 + 1, none⟩ = some (.int .i64 a) ∧ w'.cell? ⟨b1, o1 + k * 4 + 2, none⟩ = some (.int .i64 bb) ∧ w'.cell? ⟨b1, o1 + k * 4 + 3, none⟩ = some (.slice A3 n1 c3) ∧ w'.cell? ⟨b2, o2 + k * 4, none⟩ = some (.int .i64 kd) ∧ w'.cell? ⟨b2, o2 + k * 4 + 1, none⟩ = some (.int .i64 a) ∧ w'.cell? ⟨b2, o2 + k * 4 + 2, none⟩ = some (.int .i64 bb) ∧ w'.cell? ⟨b2, o2 + k * 4 + 3, none⟩ = some (.slice A4 n1 c4) ∧ Ints w' A3 zs ∧ Ints w' A4 zs)
        (((try go_split_ands); refine ⟨?_, ?_, ?_, ?_, ?_, ?_, ?_, ?_, ?_, ?_⟩ <;> (repeat (first | with_reducible assumption | with_reducible refine drew_keep ?_ | with_reducible refine below_keep hbd ?_ | with_reducible refine ints_drewR ?_ | with_reducible refine Ints.below ?_ hbd))))
        (first | (go_at_call 96; (try go_split_ands); (with_reducible refine (E.out _ (by assumption) (by assumption)).mono ?_); rintro e w5 ⟨rfl, hbd⟩))
      have B5 := below_chain HB.out.drew hbd
      clear hbd
      go_wp2
      go_roundw
      case rel => exact ⟨k + 1, by omega, by go_num, B5⟩
      case measure => simp [intOf]; omega
    · have hkn : k = n := by omega
      clear hb hkn
      go_wp2
      go_ret
      exact ⟨rfl, HB.out⟩

end Go.Proofs.Ytbbagpnjjjohpaa.hexes

