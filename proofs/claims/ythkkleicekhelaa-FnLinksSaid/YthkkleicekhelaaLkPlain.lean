/-
  LinkNew, InFlight and SameLink on both sides.
-/
import Derived.Test.YthkkleicekhelaaLkCopy
import Derived.Test.YthkkleicekhelaaImplOfEp
import Derived.Test.YthkkleicekhelaaSpecRc1
import Derived.Test.YthkkleicekhelaaRcEqual
import Derived.Test.YthkkleicekhelaaBrought
namespace Go.Proofs.Ythkkleicekhelaa.hexes
open Go.RowKit

theorem specBrought_any (n least most : Int) (w : World) :
    Calls Try.prog 83 #[.int .i64 n, .int .i64 least, .int .i64 most] w fun e w' => e = .returned (.int .i64 (brought n least most)) ∧ w = w' := by
  by_cases h1 : most < least
  · have E := Lib.hid (show brought n least most = least from if_pos (.inl h1))
    by_cases h2 : n < least
    all_goals
      go_enter Try.func83, Try.ntmps83
      go_wp2
      go_ret
      exact ⟨ret_int E.out, rfl⟩
  · by_cases h2 : n < least
    · have E := Lib.hid (show brought n least most = least from if_pos (.inr h2))
      go_enter Try.func83, Try.ntmps83
      go_wp2
      go_ret
      exact ⟨ret_int E.out, rfl⟩
    · by_cases h3 : most < n
      · have E := Lib.hid (show brought n least most = most by unfold brought; rw [if_neg (by omega), if_pos h3])
        go_enter Try.func83, Try.ntmps83
        go_wp2
        go_ret
        exact ⟨ret_int E.out, rfl⟩
      · have E := Lib.hid (show brought n least most = n by unfold brought; rw [if_neg (by omega), if_neg h3])
        go_enter Try.func83, Try.ntmps83
        go_wp2
        go_ret
        exact ⟨ret_int E.out, rfl⟩

set_option maxRecDepth 100000 in
theorem specNew_any (k : Int) (w : World) :
    Calls Try.prog 80 #[.int .i64 k] w fun e w' => e = .returned (.agg #[.int .i64 (brought k 1 4), .slice none 0 0, .int .i64 (brought k 1 4), .int .i64 0, .int .i64 0, .int .i64 0]) ∧ Below w.heap.size w w' := by
  obtain ⟨q, hq⟩ : ∃ q, brought k 1 4 = q := ⟨_, rfl⟩
  have HQ := Lib.hid hq
  rw [hq]
  clear hq
  go_enter Try.func80, Try.ntmps80
  go_wp2_with fail
  generalize hW : (w.alloc _) = W
  have B0 := Lib.hid (show Below w.heap.size w W by rw [← hW]; exact ((Below.refl _ _).alloc (by first | (simp; done) | (simp; omega) | omega) _))
  have HS := Lib.hid (show W.heap.size = w.heap.size + 1 by rw [← hW]; simp)
  have K0_0 := Lib.hid (show Blk W (w.heap.size) 26 #[.int .i64 0, .slice none 0 0, .int .i64 0, .int .i64 0, .int .i64 0, .int .i64 0] by rw [← hW]; exact (Blk.new _ _ _))
  clear hW
  refine (specBrought_any k 1 4 W).mono ?_
  rintro e w1 ⟨rfl, rfl⟩
  rw [HQ.out]
  have x0_0 : W.cell? ⟨w.heap.size, 0, none⟩ = some (.int .i64 0) := by rw [K0_0.out.cell]; rfl
  have y0_0 := K0_0.out.frozen 0
  have x0_1 : W.cell? ⟨w.heap.size, 1, none⟩ = some (.slice none 0 0) := by rw [K0_0.out.cell]; rfl
  have y0_1 := K0_0.out.frozen 1
  have x0_2 : W.cell? ⟨w.heap.size, 2, none⟩ = some (.int .i64 0) := by rw [K0_0.out.cell]; rfl
  have y0_2 := K0_0.out.frozen 2
  have x0_3 : W.cell? ⟨w.heap.size, 3, none⟩ = some (.int .i64 0) := by rw [K0_0.out.cell]; rfl
  have y0_3 := K0_0.out.frozen 3
  have x0_4 : W.cell? ⟨w.heap.size, 4, none⟩ = some (.int .i64 0) := by rw [K0_0.out.cell]; rfl
  have y0_4 := K0_0.out.frozen 4
  have x0_5 : W.cell? ⟨w.heap.size, 5, none⟩ = some (.int .i64 0) := by rw [K0_0.out.cell]; rfl
  have y0_5 := K0_0.out.frozen 5
  go_wp2_with fail
  clear x0_0 y0_0 x0_1 y0_1 x0_2 y0_2 x0_3 y0_3 x0_4 y0_4 x0_5 y0_5
  generalize hV : ((((((W.setCell _ _).setCell _ _).setCell _ _).setCell _ _).setCell _ _).setCell _ _) = Wf
  have B1 := Lib.hid (show Below w.heap.size w Wf by rw [← hV]; exact ((((((B0.out.setCell (by first | (simp; done) | (simp; omega) | omega) _).setCell (by first | (simp; done) | (simp; omega) | omega) _).setCell (by first | (simp; done) | (simp; omega) | omega) _).setCell (by first | (simp; done) | (simp; omega) | omega) _).setCell (by first | (simp; done) | (simp; omega) | omega) _).setCell (by first | (simp; done) | (simp; omega) | omega) _))
  have K0_1 := Lib.hid (show Blk Wf (w.heap.size) 26 #[.int .i64 q, .slice none 0 0, .int .i64 q, .int .i64 0, .int .i64 0, .int .i64 0] by rw [← hV]; exact ((((((K0_0.out.put 0 _).put 1 _).put 2 _).put 3 _).put 4 _).put 5 _))
  clear hV B0 K0_0
  have r0_0 : Wf.cell? ⟨w.heap.size, 0, none⟩ = some (.int .i64 q) := by rw [K0_1.out.cell]; rfl
  have r0_1 : Wf.cell? ⟨w.heap.size, 1, none⟩ = some (.slice none 0 0) := by rw [K0_1.out.cell]; rfl
  have r0_2 : Wf.cell? ⟨w.heap.size, 2, none⟩ = some (.int .i64 q) := by rw [K0_1.out.cell]; rfl
  have r0_3 : Wf.cell? ⟨w.heap.size, 3, none⟩ = some (.int .i64 0) := by rw [K0_1.out.cell]; rfl
  have r0_4 : Wf.cell? ⟨w.heap.size, 4, none⟩ = some (.int .i64 0) := by rw [K0_1.out.cell]; rfl
  have r0_5 : Wf.cell? ⟨w.heap.size, 5, none⟩ = some (.int .i64 0) := by rw [K0_1.out.cell]; rfl
  exact bodyPost_ret (v := .agg #[.int .i64 q, .slice none 0 0, .int .i64 q, .int .i64 0, .int .i64 0, .int .i64 0]) (by simp [results, Try.results80, go_sem, r0_0, r0_1, r0_2, r0_3, r0_4, r0_5]) rfl ⟨rfl, B1.out⟩

set_option maxRecDepth 100000 in
theorem specFlight_any (n : Nat) (zs : List Rc) (hz : zs.length = n) (A : Option Addr) (c : Nat) (p a b s g x : Int) (w : World) (h1 : Rcs w A zs) (hn : n ≤ 1048576) :
    Calls Try.prog 26 #[.agg #[.int .i64 p, .slice A n c, .int .i64 a, .int .i64 b, .int .i64 s, .int .i64 g], .int .i64 x] w fun e w' => e = .returned (.int .i64 ((ofEpR zs x).length : Int)) ∧ Below w.heap.size w w' := by
  have H1 := Lib.hid h1
  have HZ := Lib.hid hz
  clear h1 hz
  go_enter Try.func26, Try.ntmps26
  go_wp2_with fail
  generalize hW : w.alloc _ = W
  have BW := Lib.hid (show Below w.heap.size w W by rw [← hW]; exact (Below.refl _ _).alloc (Nat.le_refl _) _)
  clear hW
  refine (specOfEp_any n zs HZ.out A c x W (H1.out.below BW.out) hn).mono ?_
  rintro e w1 ⟨v, rfl, own, hb⟩
  obtain ⟨A8, c8, rfl, _⟩ := own_slice own
  have B1 := Lib.hid (below_chain BW.out hb)
  clear own hb
  go_wp2
  go_ret
  exact ⟨rfl, B1.out⟩

set_option maxRecDepth 100000 in
theorem implNew_any (k : Int) (w : World) :
    Calls Try.prog 24 #[.int .i64 k] w fun e w' => e = .returned (.agg #[.int .i64 (brought k 1 4), .slice none 0 0, .int .i64 (brought k 1 4), .int .i64 0, .int .i64 0, .int .i64 0]) ∧ Below w.heap.size w w' := by
  obtain ⟨q, hq⟩ : ∃ q, brought k 1 4 = q := ⟨_, rfl⟩
  have HQ := Lib.hid hq
  rw [hq]
  clear hq
  go_enter Try.func24, Try.ntmps24
  go_wp2_with fail
  generalize hW : (w.alloc _) = W
  have B0 := Lib.hid (show Below w.heap.size w W by rw [← hW]; exact ((Below.refl _ _).alloc (by first | (simp; done) | (simp; omega) | omega) _))
  have HS := Lib.hid (show W.heap.size = w.heap.size + 1 by rw [← hW]; simp)
  have K0_0 := Lib.hid (show Blk W (w.heap.size) 26 #[.int .i64 0, .slice none 0 0, .int .i64 0, .int .i64 0, .int .i64 0, .int .i64 0] by rw [← hW]; exact (Blk.new _ _ _))
  clear hW
  refine (brought_any k 1 4 W).mono ?_
  rintro e w1 ⟨rfl, rfl⟩
  rw [HQ.out]
  have x0_0 : W.cell? ⟨w.heap.size, 0, none⟩ = some (.int .i64 0) := by rw [K0_0.out.cell]; rfl
  have y0_0 := K0_0.out.frozen 0
  have x0_1 : W.cell? ⟨w.heap.size, 1, none⟩ = some (.slice none 0 0) := by rw [K0_0.out.cell]; rfl
  have y0_1 := K0_0.out.frozen 1
  have x0_2 : W.cell? ⟨w.heap.size, 2, none⟩ = some (.int .i64 0) := by rw [K0_0.out.cell]; rfl
  have y0_2 := K0_0.out.frozen 2
  have x0_3 : W.cell? ⟨w.heap.size, 3, none⟩ = some (.int .i64 0) := by rw [K0_0.out.cell]; rfl
  have y0_3 := K0_0.out.frozen 3
  have x0_4 : W.cell? ⟨w.heap.size, 4, none⟩ = some (.int .i64 0) := by rw [K0_0.out.cell]; rfl
  have y0_4 := K0_0.out.frozen 4
  have x0_5 : W.cell? ⟨w.heap.size, 5, none⟩ = some (.int .i64 0) := by rw [K0_0.out.cell]; rfl
  have y0_5 := K0_0.out.frozen 5
  go_wp2_with fail
  clear x0_0 y0_0 x0_1 y0_1 x0_2 y0_2 x0_3 y0_3 x0_4 y0_4 x0_5 y0_5
  generalize hV : ((((((W.setCell _ _).setCell _ _).setCell _ _).setCell _ _).setCell _ _).setCell _ _) = Wf
  have B1 := Lib.hid (show Below w.heap.size w Wf by rw [← hV]; exact ((((((B0.out.setCell (by first | (simp; done) | (simp; omega) | omega) _).setCell (by first | (simp; done) | (simp; omega) | omega) _).setCell (by first | (simp; done) | (simp; omega) | omega) _).setCell (by first | (simp; done) | (simp; omega) | omega) _).setCell (by first | (simp; done) | (simp; omega) | omega) _).setCell (by first | (simp; done) | (simp; omega) | omega) _))
  have K0_1 := Lib.hid (show Blk Wf (w.heap.size) 26 #[.int .i64 q, .slice none 0 0, .int .i64 q, .int .i64 0, .int .i64 0, .int .i64 0] by rw [← hV]; exact ((((((K0_0.out.put 0 _).put 1 _).put 2 _).put 3 _).put 4 _).put 5 _))
  clear hV B0 K0_0
  have r0_0 : Wf.cell? ⟨w.heap.size, 0, none⟩ = some (.int .i64 q) := by rw [K0_1.out.cell]; rfl
  have r0_1 : Wf.cell? ⟨w.heap.size, 1, none⟩ = some (.slice none 0 0) := by rw [K0_1.out.cell]; rfl
  have r0_2 : Wf.cell? ⟨w.heap.size, 2, none⟩ = some (.int .i64 q) := by rw [K0_1.out.cell]; rfl
  have r0_3 : Wf.cell? ⟨w.heap.size, 3, none⟩ = some (.int .i64 0) := by rw [K0_1.out.cell]; rfl
  have r0_4 : Wf.cell? ⟨w.heap.size, 4, none⟩ = some (.int .i64 0) := by rw [K0_1.out.cell]; rfl
  have r0_5 : Wf.cell? ⟨w.heap.size, 5, none⟩ = some (.int .i64 0) := by rw [K0_1.out.cell]; rfl
  exact bodyPost_ret (v := .agg #[.int .i64 q, .slice none 0 0, .int .i64 q, .int .i64 0, .int .i64 0, .int .i64 0]) (by simp [results, Try.results24, go_sem, r0_0, r0_1, r0_2, r0_3, r0_4, r0_5]) rfl ⟨rfl, B1.out⟩

set_option maxRecDepth 100000 in
theorem implFlight_any (n : Nat) (zs : List Rc) (hz : zs.length = n) (A : Option Addr) (c : Nat) (p a b s g x : Int) (w : World) (h1 : Rcs w A zs) (hn : n ≤ 1048576) :
    Calls Try.prog 25 #[.agg #[.int .i64 p, .slice A n c, .int .i64 a, .int .i64 b, .int .i64 s, .int .i64 g], .int .i64 x] w fun e w' => e = .returned (.int .i64 ((ofEpR zs x).length : Int)) ∧ Below w.heap.size w w' := by
  have H1 := Lib.hid h1
  have HZ := Lib.hid hz
  clear h1 hz
  go_enter Try.func25, Try.ntmps25
  go_wp2_with fail
  generalize hW : w.alloc _ = W
  have BW := Lib.hid (show Below w.heap.size w W by rw [← hW]; exact (Below.refl _ _).alloc (Nat.le_refl _) _)
  clear hW
  refine (implOfEp_any n zs HZ.out A c x W (H1.out.below BW.out) hn).mono ?_
  rintro e w1 ⟨v, rfl, own, hb⟩
  obtain ⟨A8, c8, rfl, _⟩ := own_slice own
  have B1 := Lib.hid (below_chain BW.out hb)
  clear own hb
  go_wp2
  go_ret
  exact ⟨rfl, B1.out⟩

/-- What SameLink answers. -/
def sameLk (p a b s g p' a' b' s' g' : Int) (zs ys : List Rc) : Bool := decide (p = p') && decide (a = a') && decide (b = b') && decide (s = s') && decide (g = g') && decide (zs = ys)

set_option maxRecDepth 100000 in
theorem implSame_any (n n' : Nat) (zs ys : List Rc) (hz : zs.length = n) (hy : ys.length = n') (A A' : Option Addr) (c c' : Nat) (p a b s g p' a' b' s' g' : Int) (w : World) (h1 : Rcs w A zs) (h2 : Rcs w A' ys) (hn : n ≤ 4194304) :
    Calls Try.prog 27 #[.agg #[.int .i64 p, .slice A n c, .int .i64 a, .int .i64 b, .int .i64 s, .int .i64 g], .agg #[.int .i64 p', .slice A' n' c', .int .i64 a', .int .i64 b', .int .i64 s', .int .i64 g']] w fun e w' => e = .returned (.bool (sameLk p a b s g p' a' b' s' g' zs ys)) ∧ Below w.heap.size w w' := by
  have H1 := Lib.hid h1
  have H2 := Lib.hid h2
  have HZ := Lib.hid hz
  have HY := Lib.hid hy
  clear h1 h2 hz hy
  by_cases ep : ¬p = p'
  · have HF := Lib.hid (show sameLk p a b s g p' a' b' s' g' zs ys = false by unfold sameLk; rw [decide_eq_false ep]; simp)
    have tp : (p == p') = false := by simpa using ep
    clear ep
    go_enter Try.func27, Try.ntmps27
    go_wp2
    go_ret
    exact ⟨congrArg (fun b => Ending.returned (Value.bool b)) HF.out.symm, (((Below.refl _ _).alloc (by first | (simp; done) | (simp; omega) | omega) _).alloc (by first | (simp; done) | (simp; omega) | omega) _)⟩
  replace ep := Classical.not_not.1 ep
  have tp : (p == p') = true := by simpa using ep
  by_cases eq : ¬zs = ys
  · have HF := Lib.hid (show sameLk p a b s g p' a' b' s' g' zs ys = false by unfold sameLk; rw [decide_eq_false eq]; simp)
    have HQ := Lib.hid (decide_eq_false eq)
    clear ep eq
    go_enter Try.func27, Try.ntmps27
    go_wp2_with fail
    generalize hW : ((w.alloc _).alloc _) = W
    have B0 := Lib.hid (show Below w.heap.size w W by rw [← hW]; exact (((Below.refl _ _).alloc (by first | (simp; done) | (simp; omega) | omega) _).alloc (by first | (simp; done) | (simp; omega) | omega) _))
    have HS := Lib.hid (show W.heap.size = w.heap.size + 2 by rw [← hW]; simp)
    have K0_0 := Lib.hid (show Blk W (w.heap.size) 26 #[.int .i64 p, .slice A n c, .int .i64 a, .int .i64 b, .int .i64 s, .int .i64 g] by rw [← hW]; exact ((Below.heap_alloc _ _ _ (by first | (simp; done) | (simp; omega))).trans (Blk.new _ _ _)))
    have K1_0 := Lib.hid (show Blk W (w.heap.size + 1) 26 #[.int .i64 p', .slice A' n' c', .int .i64 a', .int .i64 b', .int .i64 s', .int .i64 g'] by rw [← hW]; exact ((show w.heap.size + 1 = ((w.alloc _)).heap.size by simp) ▸ Blk.new _ _ _))
    clear hW
    refine (rcEqual_any n n' zs ys HZ.out HY.out A A' c c' W (H1.out.below B0.out) (H2.out.below B0.out) hn).mono ?_
    rintro e w1 ⟨rfl, hb⟩
    rw [HQ.out]
    have B1 := Lib.hid (below_chain B0.out hb)
    have K0_1 := Lib.hid (K0_0.out.below hb)
    have K1_1 := Lib.hid (K1_0.out.below hb)
    clear hb B0 K0_0 K1_0
    have x0_0 : w1.cell? ⟨w.heap.size, 0, none⟩ = some (.int .i64 p) := by rw [K0_1.out.cell]; rfl
    have x0_1 : w1.cell? ⟨w.heap.size, 1, none⟩ = some (.slice A n c) := by rw [K0_1.out.cell]; rfl
    have x0_2 : w1.cell? ⟨w.heap.size, 2, none⟩ = some (.int .i64 a) := by rw [K0_1.out.cell]; rfl
    have x0_3 : w1.cell? ⟨w.heap.size, 3, none⟩ = some (.int .i64 b) := by rw [K0_1.out.cell]; rfl
    have x0_4 : w1.cell? ⟨w.heap.size, 4, none⟩ = some (.int .i64 s) := by rw [K0_1.out.cell]; rfl
    have x0_5 : w1.cell? ⟨w.heap.size, 5, none⟩ = some (.int .i64 g) := by rw [K0_1.out.cell]; rfl
    have x1_0 : w1.cell? ⟨w.heap.size + 1, 0, none⟩ = some (.int .i64 p') := by rw [K1_1.out.cell]; rfl
    have x1_1 : w1.cell? ⟨w.heap.size + 1, 1, none⟩ = some (.slice A' n' c') := by rw [K1_1.out.cell]; rfl
    have x1_2 : w1.cell? ⟨w.heap.size + 1, 2, none⟩ = some (.int .i64 a') := by rw [K1_1.out.cell]; rfl
    have x1_3 : w1.cell? ⟨w.heap.size + 1, 3, none⟩ = some (.int .i64 b') := by rw [K1_1.out.cell]; rfl
    have x1_4 : w1.cell? ⟨w.heap.size + 1, 4, none⟩ = some (.int .i64 s') := by rw [K1_1.out.cell]; rfl
    have x1_5 : w1.cell? ⟨w.heap.size + 1, 5, none⟩ = some (.int .i64 g') := by rw [K1_1.out.cell]; rfl
    go_wp2
    go_ret
    exact ⟨congrArg (fun b => Ending.returned (Value.bool b)) HF.out.symm, B1.out⟩
  replace eq := Classical.not_not.1 eq
  have HQ := Lib.hid (decide_eq_true eq)
  by_cases ea : ¬a = a'
  · have HF := Lib.hid (show sameLk p a b s g p' a' b' s' g' zs ys = false by unfold sameLk; rw [decide_eq_false ea]; simp)
    have ta : (a == a') = false := by simpa using ea
    clear ep eq ea
    go_enter Try.func27, Try.ntmps27
    go_wp2_with fail
    generalize hW : ((w.alloc _).alloc _) = W
    have B0 := Lib.hid (show Below w.heap.size w W by rw [← hW]; exact (((Below.refl _ _).alloc (by first | (simp; done) | (simp; omega) | omega) _).alloc (by first | (simp; done) | (simp; omega) | omega) _))
    have HS := Lib.hid (show W.heap.size = w.heap.size + 2 by rw [← hW]; simp)
    have K0_0 := Lib.hid (show Blk W (w.heap.size) 26 #[.int .i64 p, .slice A n c, .int .i64 a, .int .i64 b, .int .i64 s, .int .i64 g] by rw [← hW]; exact ((Below.heap_alloc _ _ _ (by first | (simp; done) | (simp; omega))).trans (Blk.new _ _ _)))
    have K1_0 := Lib.hid (show Blk W (w.heap.size + 1) 26 #[.int .i64 p', .slice A' n' c', .int .i64 a', .int .i64 b', .int .i64 s', .int .i64 g'] by rw [← hW]; exact ((show w.heap.size + 1 = ((w.alloc _)).heap.size by simp) ▸ Blk.new _ _ _))
    clear hW
    refine (rcEqual_any n n' zs ys HZ.out HY.out A A' c c' W (H1.out.below B0.out) (H2.out.below B0.out) hn).mono ?_
    rintro e w1 ⟨rfl, hb⟩
    rw [HQ.out]
    have B1 := Lib.hid (below_chain B0.out hb)
    have K0_1 := Lib.hid (K0_0.out.below hb)
    have K1_1 := Lib.hid (K1_0.out.below hb)
    clear hb B0 K0_0 K1_0
    have x0_0 : w1.cell? ⟨w.heap.size, 0, none⟩ = some (.int .i64 p) := by rw [K0_1.out.cell]; rfl
    have x0_1 : w1.cell? ⟨w.heap.size, 1, none⟩ = some (.slice A n c) := by rw [K0_1.out.cell]; rfl
    have x0_2 : w1.cell? ⟨w.heap.size, 2, none⟩ = some (.int .i64 a) := by rw [K0_1.out.cell]; rfl
    have x0_3 : w1.cell? ⟨w.heap.size, 3, none⟩ = some (.int .i64 b) := by rw [K0_1.out.cell]; rfl
    have x0_4 : w1.cell? ⟨w.heap.size, 4, none⟩ = some (.int .i64 s) := by rw [K0_1.out.cell]; rfl
    have x0_5 : w1.cell? ⟨w.heap.size, 5, none⟩ = some (.int .i64 g) := by rw [K0_1.out.cell]; rfl
    have x1_0 : w1.cell? ⟨w.heap.size + 1, 0, none⟩ = some (.int .i64 p') := by rw [K1_1.out.cell]; rfl
    have x1_1 : w1.cell? ⟨w.heap.size + 1, 1, none⟩ = some (.slice A' n' c') := by rw [K1_1.out.cell]; rfl
    have x1_2 : w1.cell? ⟨w.heap.size + 1, 2, none⟩ = some (.int .i64 a') := by rw [K1_1.out.cell]; rfl
    have x1_3 : w1.cell? ⟨w.heap.size + 1, 3, none⟩ = some (.int .i64 b') := by rw [K1_1.out.cell]; rfl
    have x1_4 : w1.cell? ⟨w.heap.size + 1, 4, none⟩ = some (.int .i64 s') := by rw [K1_1.out.cell]; rfl
    have x1_5 : w1.cell? ⟨w.heap.size + 1, 5, none⟩ = some (.int .i64 g') := by rw [K1_1.out.cell]; rfl
    go_wp2
    go_ret
    exact ⟨congrArg (fun b => Ending.returned (Value.bool b)) HF.out.symm, B1.out⟩
  replace ea := Classical.not_not.1 ea
  have ta : (a == a') = true := by simpa using ea
  by_cases eb : ¬b = b'
  · have HF := Lib.hid (show sameLk p a b s g p' a' b' s' g' zs ys = false by unfold sameLk; rw [decide_eq_false eb]; simp)
    have tb : (b == b') = false := by simpa using eb
    clear ep eq ea eb
    go_enter Try.func27, Try.ntmps27
    go_wp2_with fail
    generalize hW : ((w.alloc _).alloc _) = W
    have B0 := Lib.hid (show Below w.heap.size w W by rw [← hW]; exact (((Below.refl _ _).alloc (by first | (simp; done) | (simp; omega) | omega) _).alloc (by first | (simp; done) | (simp; omega) | omega) _))
    have HS := Lib.hid (show W.heap.size = w.heap.size + 2 by rw [← hW]; simp)
    have K0_0 := Lib.hid (show Blk W (w.heap.size) 26 #[.int .i64 p, .slice A n c, .int .i64 a, .int .i64 b, .int .i64 s, .int .i64 g] by rw [← hW]; exact ((Below.heap_alloc _ _ _ (by first | (simp; done) | (simp; omega))).trans (Blk.new _ _ _)))
    have K1_0 := Lib.hid (show Blk W (w.heap.size + 1) 26 #[.int .i64 p', .slice A' n' c', .int .i64 a', .int .i64 b', .int .i64 s', .int .i64 g'] by rw [← hW]; exact ((show w.heap.size + 1 = ((w.alloc _)).heap.size by simp) ▸ Blk.new _ _ _))
    clear hW
    refine (rcEqual_any n n' zs ys HZ.out HY.out A A' c c' W (H1.out.below B0.out) (H2.out.below B0.out) hn).mono ?_
    rintro e w1 ⟨rfl, hb⟩
    rw [HQ.out]
    have B1 := Lib.hid (below_chain B0.out hb)
    have K0_1 := Lib.hid (K0_0.out.below hb)
    have K1_1 := Lib.hid (K1_0.out.below hb)
    clear hb B0 K0_0 K1_0
    have x0_0 : w1.cell? ⟨w.heap.size, 0, none⟩ = some (.int .i64 p) := by rw [K0_1.out.cell]; rfl
    have x0_1 : w1.cell? ⟨w.heap.size, 1, none⟩ = some (.slice A n c) := by rw [K0_1.out.cell]; rfl
    have x0_2 : w1.cell? ⟨w.heap.size, 2, none⟩ = some (.int .i64 a) := by rw [K0_1.out.cell]; rfl
    have x0_3 : w1.cell? ⟨w.heap.size, 3, none⟩ = some (.int .i64 b) := by rw [K0_1.out.cell]; rfl
    have x0_4 : w1.cell? ⟨w.heap.size, 4, none⟩ = some (.int .i64 s) := by rw [K0_1.out.cell]; rfl
    have x0_5 : w1.cell? ⟨w.heap.size, 5, none⟩ = some (.int .i64 g) := by rw [K0_1.out.cell]; rfl
    have x1_0 : w1.cell? ⟨w.heap.size + 1, 0, none⟩ = some (.int .i64 p') := by rw [K1_1.out.cell]; rfl
    have x1_1 : w1.cell? ⟨w.heap.size + 1, 1, none⟩ = some (.slice A' n' c') := by rw [K1_1.out.cell]; rfl
    have x1_2 : w1.cell? ⟨w.heap.size + 1, 2, none⟩ = some (.int .i64 a') := by rw [K1_1.out.cell]; rfl
    have x1_3 : w1.cell? ⟨w.heap.size + 1, 3, none⟩ = some (.int .i64 b') := by rw [K1_1.out.cell]; rfl
    have x1_4 : w1.cell? ⟨w.heap.size + 1, 4, none⟩ = some (.int .i64 s') := by rw [K1_1.out.cell]; rfl
    have x1_5 : w1.cell? ⟨w.heap.size + 1, 5, none⟩ = some (.int .i64 g') := by rw [K1_1.out.cell]; rfl
    go_wp2
    go_ret
    exact ⟨congrArg (fun b => Ending.returned (Value.bool b)) HF.out.symm, B1.out⟩
  replace eb := Classical.not_not.1 eb
  have tb : (b == b') = true := by simpa using eb
  by_cases es : ¬s = s'
  · have HF := Lib.hid (show sameLk p a b s g p' a' b' s' g' zs ys = false by unfold sameLk; rw [decide_eq_false es]; simp)
    have ts : (s == s') = false := by simpa using es
    clear ep eq ea eb es
    go_enter Try.func27, Try.ntmps27
    go_wp2_with fail
    generalize hW : ((w.alloc _).alloc _) = W
    have B0 := Lib.hid (show Below w.heap.size w W by rw [← hW]; exact (((Below.refl _ _).alloc (by first | (simp; done) | (simp; omega) | omega) _).alloc (by first | (simp; done) | (simp; omega) | omega) _))
    have HS := Lib.hid (show W.heap.size = w.heap.size + 2 by rw [← hW]; simp)
    have K0_0 := Lib.hid (show Blk W (w.heap.size) 26 #[.int .i64 p, .slice A n c, .int .i64 a, .int .i64 b, .int .i64 s, .int .i64 g] by rw [← hW]; exact ((Below.heap_alloc _ _ _ (by first | (simp; done) | (simp; omega))).trans (Blk.new _ _ _)))
    have K1_0 := Lib.hid (show Blk W (w.heap.size + 1) 26 #[.int .i64 p', .slice A' n' c', .int .i64 a', .int .i64 b', .int .i64 s', .int .i64 g'] by rw [← hW]; exact ((show w.heap.size + 1 = ((w.alloc _)).heap.size by simp) ▸ Blk.new _ _ _))
    clear hW
    refine (rcEqual_any n n' zs ys HZ.out HY.out A A' c c' W (H1.out.below B0.out) (H2.out.below B0.out) hn).mono ?_
    rintro e w1 ⟨rfl, hb⟩
    rw [HQ.out]
    have B1 := Lib.hid (below_chain B0.out hb)
    have K0_1 := Lib.hid (K0_0.out.below hb)
    have K1_1 := Lib.hid (K1_0.out.below hb)
    clear hb B0 K0_0 K1_0
    have x0_0 : w1.cell? ⟨w.heap.size, 0, none⟩ = some (.int .i64 p) := by rw [K0_1.out.cell]; rfl
    have x0_1 : w1.cell? ⟨w.heap.size, 1, none⟩ = some (.slice A n c) := by rw [K0_1.out.cell]; rfl
    have x0_2 : w1.cell? ⟨w.heap.size, 2, none⟩ = some (.int .i64 a) := by rw [K0_1.out.cell]; rfl
    have x0_3 : w1.cell? ⟨w.heap.size, 3, none⟩ = some (.int .i64 b) := by rw [K0_1.out.cell]; rfl
    have x0_4 : w1.cell? ⟨w.heap.size, 4, none⟩ = some (.int .i64 s) := by rw [K0_1.out.cell]; rfl
    have x0_5 : w1.cell? ⟨w.heap.size, 5, none⟩ = some (.int .i64 g) := by rw [K0_1.out.cell]; rfl
    have x1_0 : w1.cell? ⟨w.heap.size + 1, 0, none⟩ = some (.int .i64 p') := by rw [K1_1.out.cell]; rfl
    have x1_1 : w1.cell? ⟨w.heap.size + 1, 1, none⟩ = some (.slice A' n' c') := by rw [K1_1.out.cell]; rfl
    have x1_2 : w1.cell? ⟨w.heap.size + 1, 2, none⟩ = some (.int .i64 a') := by rw [K1_1.out.cell]; rfl
    have x1_3 : w1.cell? ⟨w.heap.size + 1, 3, none⟩ = some (.int .i64 b') := by rw [K1_1.out.cell]; rfl
    have x1_4 : w1.cell? ⟨w.heap.size + 1, 4, none⟩ = some (.int .i64 s') := by rw [K1_1.out.cell]; rfl
    have x1_5 : w1.cell? ⟨w.heap.size + 1, 5, none⟩ = some (.int .i64 g') := by rw [K1_1.out.cell]; rfl
    go_wp2
    go_ret
    exact ⟨congrArg (fun b => Ending.returned (Value.bool b)) HF.out.symm, B1.out⟩
  replace es := Classical.not_not.1 es
  have ts : (s == s') = true := by simpa using es
  by_cases eg : ¬g = g'
  · have HF := Lib.hid (show sameLk p a b s g p' a' b' s' g' zs ys = false by unfold sameLk; rw [decide_eq_false eg]; simp)
    have tg : (g == g') = false := by simpa using eg
    clear ep eq ea eb es eg
    go_enter Try.func27, Try.ntmps27
    go_wp2_with fail
    generalize hW : ((w.alloc _).alloc _) = W
    have B0 := Lib.hid (show Below w.heap.size w W by rw [← hW]; exact (((Below.refl _ _).alloc (by first | (simp; done) | (simp; omega) | omega) _).alloc (by first | (simp; done) | (simp; omega) | omega) _))
    have HS := Lib.hid (show W.heap.size = w.heap.size + 2 by rw [← hW]; simp)
    have K0_0 := Lib.hid (show Blk W (w.heap.size) 26 #[.int .i64 p, .slice A n c, .int .i64 a, .int .i64 b, .int .i64 s, .int .i64 g] by rw [← hW]; exact ((Below.heap_alloc _ _ _ (by first | (simp; done) | (simp; omega))).trans (Blk.new _ _ _)))
    have K1_0 := Lib.hid (show Blk W (w.heap.size + 1) 26 #[.int .i64 p', .slice A' n' c', .int .i64 a', .int .i64 b', .int .i64 s', .int .i64 g'] by rw [← hW]; exact ((show w.heap.size + 1 = ((w.alloc _)).heap.size by simp) ▸ Blk.new _ _ _))
    clear hW
    refine (rcEqual_any n n' zs ys HZ.out HY.out A A' c c' W (H1.out.below B0.out) (H2.out.below B0.out) hn).mono ?_
    rintro e w1 ⟨rfl, hb⟩
    rw [HQ.out]
    have B1 := Lib.hid (below_chain B0.out hb)
    have K0_1 := Lib.hid (K0_0.out.below hb)
    have K1_1 := Lib.hid (K1_0.out.below hb)
    clear hb B0 K0_0 K1_0
    have x0_0 : w1.cell? ⟨w.heap.size, 0, none⟩ = some (.int .i64 p) := by rw [K0_1.out.cell]; rfl
    have x0_1 : w1.cell? ⟨w.heap.size, 1, none⟩ = some (.slice A n c) := by rw [K0_1.out.cell]; rfl
    have x0_2 : w1.cell? ⟨w.heap.size, 2, none⟩ = some (.int .i64 a) := by rw [K0_1.out.cell]; rfl
    have x0_3 : w1.cell? ⟨w.heap.size, 3, none⟩ = some (.int .i64 b) := by rw [K0_1.out.cell]; rfl
    have x0_4 : w1.cell? ⟨w.heap.size, 4, none⟩ = some (.int .i64 s) := by rw [K0_1.out.cell]; rfl
    have x0_5 : w1.cell? ⟨w.heap.size, 5, none⟩ = some (.int .i64 g) := by rw [K0_1.out.cell]; rfl
    have x1_0 : w1.cell? ⟨w.heap.size + 1, 0, none⟩ = some (.int .i64 p') := by rw [K1_1.out.cell]; rfl
    have x1_1 : w1.cell? ⟨w.heap.size + 1, 1, none⟩ = some (.slice A' n' c') := by rw [K1_1.out.cell]; rfl
    have x1_2 : w1.cell? ⟨w.heap.size + 1, 2, none⟩ = some (.int .i64 a') := by rw [K1_1.out.cell]; rfl
    have x1_3 : w1.cell? ⟨w.heap.size + 1, 3, none⟩ = some (.int .i64 b') := by rw [K1_1.out.cell]; rfl
    have x1_4 : w1.cell? ⟨w.heap.size + 1, 4, none⟩ = some (.int .i64 s') := by rw [K1_1.out.cell]; rfl
    have x1_5 : w1.cell? ⟨w.heap.size + 1, 5, none⟩ = some (.int .i64 g') := by rw [K1_1.out.cell]; rfl
    go_wp2
    go_ret
    exact ⟨congrArg (fun b => Ending.returned (Value.bool b)) HF.out.symm, B1.out⟩
  replace eg := Classical.not_not.1 eg
  have tg : (g == g') = true := by simpa using eg
  have HF := Lib.hid (show sameLk p a b s g p' a' b' s' g' zs ys = true by unfold sameLk; rw [decide_eq_true ep, decide_eq_true ea, decide_eq_true eb, decide_eq_true es, decide_eq_true eg, decide_eq_true eq]; rfl)
  clear ep eq ea eb es eg
  go_enter Try.func27, Try.ntmps27
  go_wp2_with fail
  generalize hW : ((w.alloc _).alloc _) = W
  have B0 := Lib.hid (show Below w.heap.size w W by rw [← hW]; exact (((Below.refl _ _).alloc (by first | (simp; done) | (simp; omega) | omega) _).alloc (by first | (simp; done) | (simp; omega) | omega) _))
  have HS := Lib.hid (show W.heap.size = w.heap.size + 2 by rw [← hW]; simp)
  have K0_0 := Lib.hid (show Blk W (w.heap.size) 26 #[.int .i64 p, .slice A n c, .int .i64 a, .int .i64 b, .int .i64 s, .int .i64 g] by rw [← hW]; exact ((Below.heap_alloc _ _ _ (by first | (simp; done) | (simp; omega))).trans (Blk.new _ _ _)))
  have K1_0 := Lib.hid (show Blk W (w.heap.size + 1) 26 #[.int .i64 p', .slice A' n' c', .int .i64 a', .int .i64 b', .int .i64 s', .int .i64 g'] by rw [← hW]; exact ((show w.heap.size + 1 = ((w.alloc _)).heap.size by simp) ▸ Blk.new _ _ _))
  clear hW
  refine (rcEqual_any n n' zs ys HZ.out HY.out A A' c c' W (H1.out.below B0.out) (H2.out.below B0.out) hn).mono ?_
  rintro e w1 ⟨rfl, hb⟩
  rw [HQ.out]
  have B1 := Lib.hid (below_chain B0.out hb)
  have K0_1 := Lib.hid (K0_0.out.below hb)
  have K1_1 := Lib.hid (K1_0.out.below hb)
  clear hb B0 K0_0 K1_0
  have x0_0 : w1.cell? ⟨w.heap.size, 0, none⟩ = some (.int .i64 p) := by rw [K0_1.out.cell]; rfl
  have x0_1 : w1.cell? ⟨w.heap.size, 1, none⟩ = some (.slice A n c) := by rw [K0_1.out.cell]; rfl
  have x0_2 : w1.cell? ⟨w.heap.size, 2, none⟩ = some (.int .i64 a) := by rw [K0_1.out.cell]; rfl
  have x0_3 : w1.cell? ⟨w.heap.size, 3, none⟩ = some (.int .i64 b) := by rw [K0_1.out.cell]; rfl
  have x0_4 : w1.cell? ⟨w.heap.size, 4, none⟩ = some (.int .i64 s) := by rw [K0_1.out.cell]; rfl
  have x0_5 : w1.cell? ⟨w.heap.size, 5, none⟩ = some (.int .i64 g) := by rw [K0_1.out.cell]; rfl
  have x1_0 : w1.cell? ⟨w.heap.size + 1, 0, none⟩ = some (.int .i64 p') := by rw [K1_1.out.cell]; rfl
  have x1_1 : w1.cell? ⟨w.heap.size + 1, 1, none⟩ = some (.slice A' n' c') := by rw [K1_1.out.cell]; rfl
  have x1_2 : w1.cell? ⟨w.heap.size + 1, 2, none⟩ = some (.int .i64 a') := by rw [K1_1.out.cell]; rfl
  have x1_3 : w1.cell? ⟨w.heap.size + 1, 3, none⟩ = some (.int .i64 b') := by rw [K1_1.out.cell]; rfl
  have x1_4 : w1.cell? ⟨w.heap.size + 1, 4, none⟩ = some (.int .i64 s') := by rw [K1_1.out.cell]; rfl
  have x1_5 : w1.cell? ⟨w.heap.size + 1, 5, none⟩ = some (.int .i64 g') := by rw [K1_1.out.cell]; rfl
  go_wp2
  go_ret
  exact ⟨congrArg (fun b => Ending.returned (Value.bool b)) HF.out.symm, B1.out⟩

end Go.Proofs.Ythkkleicekhelaa.hexes
