/-
  Lists of nodes compared; graphs.
  The laws' own functions on graphs.
-/
import Derived.Test.YtbbagpnjjjohpaaJ7
import Derived.Deep.RegionHeld3

namespace Go.Proofs.Ytbbagpnjjjohpaa.hexes
open Go.RowKit

theorem ints_drewR {w : World} {A : Option Addr} {zs : List Int} (h : Ints w A zs) : Ints w.drew A zs := h

set_option maxRecDepth 100000 in
theorem eqNd_is (A1 A2 : Option Addr) (n c1 c2 : Nat) (zs : List Int) (hz : zs.length = n) (hn : n ≤ 4194304) (k a b : Int) (w : World) (h1 : Ints w A1 zs) (h2 : Ints w A2 zs) :
    Calls Try.prog 96 #[.agg #[.int .i64 k, .int .i64 a, .int .i64 b, .slice A1 n c1], .agg #[.int .i64 k, .int .i64 a, .int .i64 b, .slice A2 n c2]] w fun e w' => e = .returned (.bool true) ∧ Below w.heap.size w w' := by
  have nk : (k != k) = false := by simp
  have na : (a != a) = false := by simp
  have nb : (b != b) = false := by simp
  have H1 := Lib.hid h1
  have H2 := Lib.hid h2
  have HZ := Lib.hid hz
  clear h1 h2 hz
  go_enter Try.func96, Try.ntmps96
  go_wp2_with fail
  generalize hW : (w.alloc _).alloc _ = W
  have bW : Below w.heap.size w W := by rw [← hW]; exact ((Below.refl _ _).alloc (by first | (simp; done) | (simp; omega) | omega) _).alloc (by first | (simp; done) | (simp; omega) | omega) _
  clear hW
  refine (eqIsS_any n n zs zs HZ.out HZ.out A1 A2 c1 c2 W (H1.out.below bW) (H2.out.below bW) hn).mono ?_
  rintro e w1 ⟨rfl, hb⟩
  rw [decide_eq_true rfl]
  have B1 := Lib.hid (below_chain bW hb)
  clear hb bW
  go_wp2
  go_ret
  exact ⟨rfl, B1.out⟩

set_option maxRecDepth 100000 in
set_option maxHeartbeats 1000000 in
theorem eqNds_is (n : Nat) (gs : List Nd) (hl : gs.length = n) (A1 A2 : Option Addr) (c1 c2 : Nat) (w : World) (h1 : Nds w A1 gs) (h2 : Nds w A2 gs) (hn : n ≤ 1048576) (hs : ∀ x ∈ gs, x.2.2.2.length ≤ 1048576) :
    Calls Try.prog 68 #[.slice A1 n c1, .slice A2 n c2] w fun e w' => e = .returned (.bool true) ∧ Below w.heap.size w w' := by
  have H1 := Lib.hid h1
  have H2 := Lib.hid h2
  have HL := Lib.hid hl
  have HS := Lib.hid hs
  clear h1 h2 hl hs
  go_enter Try.func68, Try.ntmps68
  go_wp2
  go_loopw [5] (fun i wr => ∃ k : Nat, k ≤ n ∧ i = .int .i64 (k : Int) ∧ Below w.heap.size w wr) (fun i _ => n - (intOf i).toNat)
  case atStart => exact ⟨0, Nat.zero_le _, rfl, Below.refl _ _⟩
  case round =>
    obtain ⟨k, hk, rfl, hb⟩ := hrel
    have HB := Lib.hid hb
    by_cases hlt : k < n
    · have l1 : k < gs.length := by rw [HL.out]; exact hlt
      obtain ⟨b1, o1, kd, a, bb, zs, A3, n1, c3, rfl, x1, hz, _, j1, e0, e1, e2, e3⟩ := (H1.out.below hb).at l1
      obtain ⟨b2, o2, kd', a', bb', zs', A4, n2, c4, rfl, x2, hz', _, j2, f0, f1, f2, f3⟩ := (H2.out.below hb).at l1
      rw [x1] at x2
      simp only [Prod.mk.injEq] at x2
      obtain ⟨rfl, rfl, rfl, rfl⟩ := x2
      obtain rfl : n1 = n2 := by rw [← hz, ← hz']
      have hn1 : n1 ≤ 4194304 := by have := HS.out _ (List.getElem_mem l1); rw [x1] at this; rw [← hz]; exact Nat.le_trans this (by omega)
      have E := Lib.hid (fun W (h1 : Ints W A3 zs) (h2 : Ints W A4 zs) => eqNd_is A3 A4 n1 c3 c4 zs hz hn1 kd a bb W h1 h2)
      have i0 : (0 : Int) ≤ (k : Int) := by omega
      have i1 : (k : Int) < (n : Int) := by omega
      clear hb x1 hz hz' l1 hn1
      go_wp2_with fail
      go_region_held3 (fun w' => w'.cell? ⟨b1, o1 + k * 4, none⟩ = some (.int .i64 kd) ∧ w'.cell? ⟨b1, o1 + k * 4 + 1, none⟩ = some (.int .i64 a) ∧ w'.cell? ⟨b1, o1 + k * 4 + 2, none⟩ = some (.int .i64 bb) ∧ w'.cell? ⟨b1, o1 + k * 4 + 3, none⟩ = some (.slice A3 n1 c3) ∧ w'.cell? ⟨b2, o2 + k * 4, none⟩ = some (.int .i64 kd) ∧ w'.cell? ⟨b2, o2 + k * 4 + 1, none⟩ = some (.int .i64 a) ∧ w'.cell? ⟨b2, o2 + k * 4 + 2, none⟩ = some (.int .i64 bb) ∧ w'.cell? ⟨b2, o2 + k * 4 + 3, none⟩ = some (.slice A4 n1 c4) ∧ Ints w' A3 zs ∧ Ints w' A4 zs)
        (((try go_split_ands); refine ⟨?_, ?_, ?_, ?_, ?_, ?_, ?_, ?_, ?_, ?_⟩ <;> (repeat (first | with_reducible assumption | with_reducible refine drew_keep ?_ | with_reducible refine below_keep hbd ?_ | with_reducible refine ints_drewR ?_ | with_reducible refine Ints.below ?_ hbd))))
        (first | (go_at_call 96; (try go_split_ands); (with_reducible refine (E.out _ (by assumption) (by assumption)).mono ?_); rintro e w5 ⟨rfl, hbd⟩))
      have B5 := below_chain HB.out.drew hbd
      clear hbd
      go_wp2
      go_roundw
      case rel => exact ⟨k + 1, by omega, by go_num, B5⟩
      case measure => simp [intOf]; omega
    · have hkn : k = n := by omega
      clear hb hkn
      go_wp2
      go_ret
      exact ⟨rfl, HB.out⟩

end Go.Proofs.Ytbbagpnjjjohpaa.hexes

namespace Go.Proofs.Ytbbagpnjjjohpaa.hexes
open Go.RowKit

theorem GrRows.set {w : World} {lo hi n c : Nat} {A : Option Addr} {gs : List Nd} {vs : List Nv} {f : Nat → Nat} (h : GrRows w lo hi A n c gs vs f) {p : Addr} (u : Value) (hp : p.block < lo) : GrRows (w.setCell p u) lo hi A n c gs vs f := by
  refine ⟨h.gl, h.vl, ⟨own_set h.nodes.own u hp, h.nodes.lt⟩, h.fits, fun i h1 h2 => ?_, h.mono, h.top, h.base⟩
  have hf := mono_le h.mono 0 i (Nat.zero_le _) (by have := h.vl; omega)
  exact ⟨own_set (h.inner i h1 h2).own u (Nat.lt_of_lt_of_le hp (Nat.le_trans h.base hf)), (h.inner i h1 h2).lt⟩

theorem GrRows.widen {w : World} {lo lo' hi hi' n c : Nat} {A : Option Addr} {gs : List Nd} {vs : List Nv} {f : Nat → Nat} (h : GrRows w lo hi A n c gs vs f) (hl : lo' ≤ lo) (hh : hi ≤ hi') : GrRows w lo' hi' A n c gs vs f :=
  ⟨h.gl, h.vl, ⟨own_base h.nodes.own hl, h.nodes.lt⟩, h.fits, h.inner, h.mono, Nat.le_trans h.top hh, Nat.le_trans hl h.base⟩

set_option maxRecDepth 100000 in
theorem szGr_any (A : Option Addr) (n c : Nat) (gs : List Nd) (hl : gs.length = n) (wk cp : Int) (left : Int) (h0 : 0 ≤ left) (h1 : left ≤ 1048576) (hn : n ≤ maxLen) (hs : ∀ x ∈ gs, x.2.2.2.length ≤ maxLen) {r : Int} (hr : (if left < ((n + outSum gs : Nat) : Int) then -1 else left - ((n + outSum gs : Nat) : Int)) = r) (w : World) (h : Nds w A gs) :
    Calls Try.prog 32 #[.agg #[.slice A n c, .int .i64 wk, .int .i64 cp], .int .i64 left] w fun e w' => e = .returned (.int .i64 r) ∧ Below w.heap.size w w' := by
  have E := Lib.hid (fun W => szNds_any A n c gs hl left h0 h1 hn hs hr W)
  have H := Lib.hid h
  have RD : r = -1 ∨ ∃ k : Nat, r = (k : Int) := by
    rw [← hr]
    split
    · exact .inl rfl
    · exact .inr ⟨(left - ((n + outSum gs : Nat) : Int)).toNat, by omega⟩
  clear hr hs hl h
  go_enter Try.func32, Try.ntmps32
  go_wp2_with fail
  generalize hW : w.alloc _ = W
  have bW : Below w.heap.size w W := by rw [← hW]; exact (Below.refl _ _).alloc (Nat.le_refl _) _
  clear hW
  refine (E.out W (H.out.below bW)).mono ?_
  rintro e w1 ⟨rfl, hb⟩
  have B1 := Lib.hid (below_chain bW hb)
  clear hb bW
  rcases RD with rfl | ⟨k, rfl⟩
  · go_wp2
    go_ret
    exact ⟨rfl, B1.out⟩
  · go_wp2
    go_ret
    exact ⟨rfl, B1.out⟩

set_option maxRecDepth 100000 in
theorem eqGr_is (n : Nat) (gs : List Nd) (hl : gs.length = n) (A1 A2 : Option Addr) (c1 c2 : Nat) (wk cp : Int) (w : World) (h1 : Nds w A1 gs) (h2 : Nds w A2 gs) (hn : n ≤ 1048576) (hs : ∀ x ∈ gs, x.2.2.2.length ≤ 1048576) :
    Calls Try.prog 38 #[.agg #[.slice A1 n c1, .int .i64 wk, .int .i64 cp], .agg #[.slice A2 n c2, .int .i64 wk, .int .i64 cp]] w fun e w' => e = .returned (.bool true) ∧ Below w.heap.size w w' := by
  have nk : (wk != wk) = false := by simp
  have na : (cp != cp) = false := by simp
  have E := Lib.hid (fun W q1 q2 => eqNds_is n gs hl A1 A2 c1 c2 W q1 q2 hn hs)
  have H1 := Lib.hid h1
  have H2 := Lib.hid h2
  clear h1 h2 hl hs
  go_enter Try.func38, Try.ntmps38
  go_wp2_with fail
  generalize hW : (w.alloc _).alloc _ = W
  have bW : Below w.heap.size w W := by rw [← hW]; exact ((Below.refl _ _).alloc (by first | (simp; done) | (simp; omega) | omega) _).alloc (by first | (simp; done) | (simp; omega) | omega) _
  have q0 : Blk W w.heap.size 26 #[.slice A1 n c1, .int .i64 wk, .int .i64 cp] := by rw [← hW]; exact (Below.heap_alloc _ _ _ (by simp)).trans (Blk.new _ _ _)
  have r0 : Blk W (w.heap.size + 1) 26 #[.slice A2 n c2, .int .i64 wk, .int .i64 cp] := by rw [← hW]; exact (show w.heap.size + 1 = (w.alloc _).heap.size by simp) ▸ Blk.new _ _ _
  clear hW
  refine (E.out W (H1.out.below bW) (H2.out.below bW)).mono ?_
  rintro e w1 ⟨rfl, hb⟩
  have B1 := Lib.hid (below_chain bW hb)
  have q1 := q0.below hb
  have r1 := r0.below hb
  have cc1 : w1.cell? ⟨w.heap.size, 1, none⟩ = some (.int .i64 wk) := by rw [q1.cell]; rfl
  have cc2 : w1.cell? ⟨w.heap.size, 2, none⟩ = some (.int .i64 cp) := by rw [q1.cell]; rfl
  have d1 : w1.cell? ⟨w.heap.size + 1, 1, none⟩ = some (.int .i64 wk) := by rw [r1.cell]; rfl
  have d2 : w1.cell? ⟨w.heap.size + 1, 2, none⟩ = some (.int .i64 cp) := by rw [r1.cell]; rfl
  clear hb bW q0 r0 q1 r1
  go_wp2
  go_ret
  exact ⟨rfl, B1.out⟩

set_option maxRecDepth 100000 in
theorem toGr_row (n : Nat) (gs : List Nd) (hl : gs.length = n) (A : Option Addr) (c : Nat) (wk cp : Int) (w : World) (h : Nds w A gs) (hn : n ≤ 1048576) (hs : ∀ x ∈ gs, x.2.2.2.length ≤ 1048576) :
    Calls Try.prog 34 #[.agg #[.slice A n c, .int .i64 wk, .int .i64 cp]] w fun e w' => ∃ A1 c1 vs f, e = .returned (.agg #[.slice A1 n c1, .int .i64 wk, .int .i64 cp]) ∧ GrRows w' w.heap.size w'.heap.size A1 n c1 gs vs f ∧ Below w.heap.size w w' := by
  have E := Lib.hid (fun W q => toNds_row n gs hl A c W q hn hs)
  have H := Lib.hid h
  clear h hl hs
  go_enter Try.func34, Try.ntmps34
  go_wp2_with fail
  generalize hW : ((w.alloc _).alloc _).alloc _ = W
  have bW : Below w.heap.size w W := by rw [← hW]; exact ((((Below.refl _ _).alloc (by first | (simp; done) | (simp; omega) | omega) _).alloc (by first | (simp; done) | (simp; omega) | omega) _).alloc (by first | (simp; done) | (simp; omega) | omega) _)
  have hs : W.heap.size = w.heap.size + 3 := by rw [← hW]; simp
  have c0 : Blk W w.heap.size 57 #[.slice A n c, .int .i64 wk, .int .i64 cp] := by rw [← hW]; exact (Below.heap_alloc _ _ _ (by simp; omega)).trans ((Below.heap_alloc _ _ _ (by simp)).trans (Blk.new _ _ _))
  have r0 : Blk W (w.heap.size + 1) 26 #[.slice none 0 0, .int .i64 0, .int .i64 0] := by rw [← hW]; exact (Below.heap_alloc _ _ _ (by simp)).trans ((show w.heap.size + 1 = (w.alloc _).heap.size by simp) ▸ Blk.new _ _ _)
  have s0 : Blk W (w.heap.size + 2) 26 #[.slice none 0 0, .int .i64 0, .int .i64 0] := by rw [← hW]; exact (show w.heap.size + 2 = ((w.alloc _).alloc _).heap.size by simp) ▸ Blk.new _ _ _
  clear hW
  refine (E.out W (H.out.below bW)).mono ?_
  rintro e w1 ⟨A1, c1, vs, f, rfl, row1, hb⟩
  have B1 := Lib.hid (below_chain bW hb)
  have q1 := c0.below hb
  have r1 := r0.below hb
  have s1 := s0.below hb
  have cc1 : w1.cell? ⟨w.heap.size, 1, none⟩ = some (.int .i64 wk) := by rw [q1.cell]; rfl
  have cc2 : w1.cell? ⟨w.heap.size, 2, none⟩ = some (.int .i64 cp) := by rw [q1.cell]; rfl
  have d0 : w1.cell? ⟨w.heap.size + 2, 0, none⟩ = some (.slice none 0 0) := by rw [s1.cell]; rfl
  have d1 : w1.cell? ⟨w.heap.size + 2, 1, none⟩ = some (.int .i64 0) := by rw [s1.cell]; rfl
  have d2 : w1.cell? ⟨w.heap.size + 2, 2, none⟩ = some (.int .i64 0) := by rw [s1.cell]; rfl
  have j0 : w1.cell? ⟨w.heap.size + 1, 0, none⟩ = some (.slice none 0 0) := by rw [r1.cell]; rfl
  have j1 : w1.cell? ⟨w.heap.size + 1, 1, none⟩ = some (.int .i64 0) := by rw [r1.cell]; rfl
  have j2 : w1.cell? ⟨w.heap.size + 1, 2, none⟩ = some (.int .i64 0) := by rw [r1.cell]; rfl
  have f0 := s1.frozen 0
  have g0 := r1.frozen 0
  have f1 := s1.frozen 1
  have g1 := r1.frozen 1
  have f2 := s1.frozen 2
  have g2 := r1.frozen 2
  have R1 := Lib.hid r1
  have O1 := Lib.hid row1
  have HS := Lib.hid hs
  clear hb bW r0 s0 r1 s1 c0 q1 row1 hs
  go_wp2_with fail
  generalize hWf : (((((w1.setCell _ _).setCell _ _).setCell _ _).setCell _ _).setCell _ _).setCell _ _ = Wf
  have bf : Blk Wf (w.heap.size + 1) 26 #[.slice A1 n c1, .int .i64 wk, .int .i64 cp] := by
    rw [← hWf]
    exact ((((((R1.out.other (by first | (simp; done) | (simp; omega) | omega) _).other (by first | (simp; done) | (simp; omega) | omega) _).other (by first | (simp; done) | (simp; omega) | omega) _).put 0 _).put 1 _).put 2 _)
  have hb : Below w.heap.size w Wf := by
    rw [← hWf]
    exact ((((((B1.out.setCell (by first | (simp; done) | (simp; omega) | omega) _).setCell (by first | (simp; done) | (simp; omega) | omega) _).setCell (by first | (simp; done) | (simp; omega) | omega) _).setCell (by first | (simp; done) | (simp; omega) | omega) _).setCell (by first | (simp; done) | (simp; omega) | omega) _).setCell (by first | (simp; done) | (simp; omega) | omega) _)
  have hr : GrRows Wf w.heap.size Wf.heap.size A1 n c1 gs vs f := by
    have hs := HS.out
    rw [← hWf]
    exact ((((((O1.out.set _ (by first | (simp; done) | (simp; omega) | omega)).set _ (by first | (simp; done) | (simp; omega) | omega)).set _ (by first | (simp; done) | (simp; omega) | omega)).set _ (by first | (simp; done) | (simp; omega) | omega)).set _ (by first | (simp; done) | (simp; omega) | omega)).set _ (by first | (simp; done) | (simp; omega) | omega)).widen (by omega) (by simp [World.setCell])
  have e0 : Wf.cell? ⟨w.heap.size + 1, 0, none⟩ = some (.slice A1 n c1) := by rw [bf.cell]; rfl
  have e1 : Wf.cell? ⟨w.heap.size + 1, 1, none⟩ = some (.int .i64 wk) := by rw [bf.cell]; rfl
  have e2 : Wf.cell? ⟨w.heap.size + 1, 2, none⟩ = some (.int .i64 cp) := by rw [bf.cell]; rfl
  exact bodyPost_ret (v := .agg #[.slice A1 n c1, .int .i64 wk, .int .i64 cp]) (by simp [results, Try.results34, go_sem, e0, e1, e2]) rfl ⟨A1, c1, vs, f, rfl, hr, hb⟩

end Go.Proofs.Ytbbagpnjjjohpaa.hexes

