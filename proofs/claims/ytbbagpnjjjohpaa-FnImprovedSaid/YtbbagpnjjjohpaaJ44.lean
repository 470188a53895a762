/-
  What FnImproved and FnFixed ask of an improvement, on lists; the laws' own graph; sameCells at equal lists.
  The walk of FnImproved.
-/
import Derived.Test.YtbbagpnjjjohpaaJ9
import Derived.Test.YtbbagpnjjjohpaaJ41
import Derived.Test.YtbbagpnjjjohpaaJ14
import Derived.Test.YtbbagpnjjjohpaaJ1
import Derived.Test.YtbbagpnjjjohpaaJ4
import Derived.Test.YtbbagpnjjjohpaaJ6
import Derived.Test.YtbbagpnjjjohpaaJ32
import Derived.Test.YtbbagpnjjjohpaaJ43
import Derived.Test.YtbbagpnjjjohpaaJ19
import Derived.Test.YtbbagpnjjjohpaaJ5
import Derived.Deep.RegionHeld3
import Derived.Deep.DeepCutAuto
import Derived.WalkArith

namespace Go.Proofs.Ytbbagpnjjjohpaa.hexes
open Go.RowKit

theorem recL_least {zs : List Ce} {x : Ce} : (leastC (recL zs x).1 x.1 x.2.1 x.2.2.1).2 = true ∧ (leastC (recL zs x).1 x.1 x.2.1 x.2.2.1).1 ≤ x.2.2.2 := by
  cases hr : (recL zs x).2 with
  | true =>
    rw [(recL_yes hr).1]
    exact least_of (put_del_mem.2 (.inl rfl)) (keyC_me x)
  | false =>
    rw [recL_no hr]
    unfold recL at hr
    split at hr
    · assumption
    · cases hr
theorem imp_least {gs : List Nd} {wk cp : Int} {best us vs : List Ce} {x : Ce} (h : impG gs wk cp best x = (us, vs)) (hb : impB gs wk cp x = true) : (leastC us x.1 x.2.1 x.2.2.1).2 = true ∧ (leastC us x.1 x.2.1 x.2.2.1).1 ≤ x.2.2.2 := by
  have e : us = (recL best x).1 := by
    have h1 := congrArg Prod.fst h
    unfold impG at h1
    rw [hb, Bool.true_and] at h1
    cases hr : (recL best x).2 with
    | true => rw [hr, if_pos rfl] at h1; exact h1.symm
    | false => rw [hr, if_neg (by simp)] at h1; rw [recL_no hr]; exact h1.symm
  rw [e]
  exact recL_least
/-- A second time, nothing is improved. -/
theorem imp_again {gs : List Nd} {wk cp : Int} {best us vs : List Ce} {x : Ce} (h : impG gs wk cp best x = (us, vs)) : impG gs wk cp us x = (us, []) := by
  cases hb : impB gs wk cp x with
  | false => unfold impG; rw [hb]; rfl
  | true =>
    have h2 := imp_least h hb
    have h3 : (recL us x).2 = false := by unfold recL; rw [if_pos h2]
    unfold impG
    rw [h3, Bool.and_false]
    rfl
theorem imp_two : impG [(1, 0, 0, [1]), (8, 0, 0, [])] 1 1 [] (0, 0, 4, 0) = ([(0, 0, 4, 0)], [(1, 0, 4, 0)]) := by rfl
theorem impB_drawn {gs : List Nd} {wk cp x0 x1 x2 x3 : Int} (h : CeR x1 x2 x3) (hg : okGr gs dec1 wk cp = true) (h0 : 0 ≤ x0) (h1 : x0 < (gs.length : Int)) : impB gs wk cp (x0, x1, x2, x3) = true := by
  unfold CeR at h
  unfold impB okCe hasB
  simp only [Bool.and_eq_true, decide_eq_true_eq]
  exact ⟨⟨by omega, hg⟩, ⟨by omega, by omega⟩, by omega⟩
theorem sameCe2_is {w : World} {A A' : Option Addr} {n c c' : Nat} {zs : List Ce} (hz : zs.length = n) (hn : n ≤ 4194304) (h : Ces w A zs) (h' : Ces w A' zs) : Calls Try.prog 14 #[.slice A n c, .slice A' n c'] w fun e w' => e = .returned (.bool true) ∧ Below w.heap.size w w' := by
  have := ceSame_any n n zs zs hz hz A A' c c' w h h' hn
  rwa [decide_eq_true (rfl : zs = zs)] at this
/-- The laws' own graph as it lies in memory. -/
theorem two2_nds {w : World} {g1 g : Nat} (k1 : Blk w g1 3 #[.int .i64 1]) (k : Blk w g 46 #[.int .i64 1, .int .i64 0, .int .i64 0, .slice (some ⟨g1, 0, none⟩) 1 1, .int .i64 8, .int .i64 0, .int .i64 0, .slice none 0 0]) : Nds w (some ⟨g, 0, none⟩) [(1, 0, 0, [1]), (8, 0, 0, [])] := by
  refine fun _ => ⟨g, 0, rfl, k.lt, fun j hj => ?_⟩
  have hj3 : j = 0 ∨ j = 1 := by simp at hj; omega
  rcases hj3 with rfl | rfl
  · exact ⟨(1, 0, 0, some ⟨g1, 0, none⟩, 1, 1), ⟨rfl, rfl, rfl, rfl, Nat.le_refl _, fun _ => ⟨g1, 0, rfl, k1.lt, fun j hj => by
      obtain rfl : j = 0 := by simpa using hj
      rw [k1.cell]; rfl⟩, fun h => by cases h⟩, by rw [k.cell]; rfl, by rw [k.cell]; rfl, by rw [k.cell]; rfl, by rw [k.cell]; rfl⟩
  · exact ⟨(8, 0, 0, none, 0, 0), ⟨rfl, rfl, rfl, rfl, Nat.le_refl _, fun h => absurd h (by simp), fun _ => rfl⟩, by rw [k.cell]; rfl, by rw [k.cell]; rfl, by rw [k.cell]; rfl, by rw [k.cell]; rfl⟩
end Go.Proofs.Ytbbagpnjjjohpaa.hexes

namespace Go.Proofs.Ytbbagpnjjjohpaa.fnImproved
open Go.RowKit Go.Proofs.Ytbbagpnjjjohpaa.hexes

set_option maxRecDepth 1000000 in
set_option maxHeartbeats 16000000 in
theorem walk (a0 : Option Addr) (len0 cap0 : Nat) (z0 : List Int) (w : World) (w0 : IsRow .u8 w a0 len0 cap0 z0) :
    Calls Try.prog 4 #[.slice a0 len0 cap0] w fun e w' => e = .returned (.bool true) ∧ Below w.heap.size w w' := by
  have hcame := came_of_row w0
  have HG := Lib.hid (fun W => big_any a0 len0 cap0 W)
  by_cases h1 : 1048576 < len0
  · have hd : decide (1048576 < (len0 : Int)) = true := by simp; omega
    clear hcame w0
    go_enter Try.func4, Try.ntmps4
    go_wp2_with (go_at_call 11; refine (HG.out _).mono ?_; rintro e w1 ⟨rfl, rfl⟩)
    go_ret
    exact ⟨rfl, Below.refl _ _⟩
  have hd : decide (1048576 < (len0 : Int)) = false := by simp; omega
  have HC := Lib.hid hcame
  have hlen : len0 ≤ 2097152 := by omega
  clear hcame w0 h1
  go_enter Try.func4, Try.ntmps4
  go_wp2_with (go_at_call 11; refine (HG.out _).mono ?_; rintro e w1 ⟨rfl, rfl⟩)
  refine (drawIm_any _ a0 len0 cap0 hlen HC.out).mono ?_
  rintro e w1 ⟨A, n, c, wk, cp, gs, A2, n2, c2, ces, x0, x1, x2, x3, hR, hn9, hl, ho4, hn2, hl2, hA2, hc2, rfl, hD, hC, hb⟩
  have sz1 := hb.size
  have B1 := Lib.hid (hb)
  clear hb
  clear HG hd HC
  have L := Lib.hid hl
  have OU := Lib.hid (fun x hx => Nat.le_trans (ho4 x hx) (by omega : 4 ≤ 1048576))
  have L2 := Lib.hid hl2
  have RR := Lib.hid hR
  have HA2 := Lib.hid hA2
  have hn : n ≤ 1048576 := by omega
  have D_1 := Lib.hid hD
  have C_1 := Lib.hid hC
  clear hl ho4 hl2 hD hC hR hA2
  obtain ⟨⟨us, vs⟩, him⟩ : ∃ p, impG gs wk cp ces (x0, x1, x2, x3) = p := ⟨_, rfl⟩
  obtain ⟨m3, hm3⟩ : ∃ m, us.length = m := ⟨_, rfl⟩
  obtain ⟨m4, hm4⟩ : ∃ m, vs.length = m := ⟨_, rfl⟩
  have l3 : m3 ≤ 7 := by have h := impG_best gs wk cp ces (x0, x1, x2, x3); rw [him, L2.out] at h; rw [← hm3]; exact Nat.le_trans h (by omega)
  have l4 : m4 ≤ 2 := by have h := impG_more gs wk cp ces (x0, x1, x2, x3); rw [him] at h; rw [← hm4]; exact h
  have HIM := Lib.hid him
  have M3 := Lib.hid hm3
  have M4 := Lib.hid hm4
  have HAG := Lib.hid (imp_again him)
  clear him hm3 hm4
  obtain ⟨V1, hW⟩ : ∃ z, ((w1.alloc (.cells #[.slice A n c, .int .i64 wk, .int .i64 cp] 26)).alloc (.cells #[.int .i64 x0, .int .i64 x1, .int .i64 x2, .int .i64 x3] 38)) = z := ⟨_, rfl⟩
  have hb : Below w1.heap.size w1 V1 := by rw [← hW]; exact (((Below.refl _ _).alloc (by first | (simp; done) | (simp; omega) | omega) _).alloc (by first | (simp; done) | (simp; omega) | omega) _)
  have az : V1.heap.size = w1.heap.size + 2 := by rw [← hW]; simp
  have Ng3 := Lib.hid (show Blk V1 (w1.heap.size) 26 #[.slice A n c, .int .i64 wk, .int .i64 cp] by rw [← hW]; exact ((Below.heap_alloc _ _ _ (by first | (simp; done) | (simp; omega))).trans (Blk.new _ _ _)))
  have Nr5 := Lib.hid (show Blk V1 (w1.heap.size + 1) 38 #[.int .i64 x0, .int .i64 x1, .int .i64 x2, .int .i64 x3] by rw [← hW]; exact ((show w1.heap.size + 1 = ((w1.alloc _)).heap.size by simp) ▸ Blk.new _ _ _))
  have AZV1 := Lib.hid az
  clear az
  have sz2 := hb.size
  have B2 := Lib.hid (below_chain B1.out hb)
  have D_2 := Lib.hid (D_1.out.below hb)
  have C_2 := Lib.hid (C_1.out.below hb)
  clear hb B1 D_1 C_1
  have g3_2 := Ng3
  clear Ng3
  have ltg3 : w1.heap.size < V1.heap.size := g3_2.out.lt
  have r5_2 := Nr5
  clear Nr5
  have ltr5 : w1.heap.size + 1 < V1.heap.size := r5_2.out.lt
  have xg30 : V1.cell? ⟨w1.heap.size, 0, none⟩ = some (.slice A n c) := by rw [g3_2.out.cell]; rfl
  have xg31 : V1.cell? ⟨w1.heap.size, 1, none⟩ = some (.int .i64 wk) := by rw [g3_2.out.cell]; rfl
  have xg32 : V1.cell? ⟨w1.heap.size, 2, none⟩ = some (.int .i64 cp) := by rw [g3_2.out.cell]; rfl
  have xr50 : V1.cell? ⟨w1.heap.size + 1, 0, none⟩ = some (.int .i64 x0) := by rw [r5_2.out.cell]; rfl
  have xr51 : V1.cell? ⟨w1.heap.size + 1, 1, none⟩ = some (.int .i64 x1) := by rw [r5_2.out.cell]; rfl
  have xr52 : V1.cell? ⟨w1.heap.size + 1, 2, none⟩ = some (.int .i64 x2) := by rw [r5_2.out.cell]; rfl
  have xr53 : V1.cell? ⟨w1.heap.size + 1, 3, none⟩ = some (.int .i64 x3) := by rw [r5_2.out.cell]; rfl
  go_wp2_with fail
  clear hW xg30 xg31 xg32 xr50 xr51 xr52 xr53
  refine (implImp_rows HIM.out M3.out M4.out L.out OU.out hn L2.out HA2.out hc2 (by omega) _ D_2.out C_2.out (c := c)).mono ?_
  rintro e w2 ⟨A3, c3, A4, c4, rfl, r3, r4, _, hb⟩
  have sz3 := hb.size
  have B3 := Lib.hid (below_chain B2.out hb)
  have D_3 := Lib.hid (D_2.out.below hb)
  have C_3 := Lib.hid (C_2.out.below hb)
  have g3_3 := Lib.hid (g3_2.out.below hb)
  have r5_3 := Lib.hid (r5_2.out.below hb)
  clear hb B2 D_2 C_2 g3_2 r5_2
  have X3_3 := Lib.hid r3
  have X4_3 := Lib.hid r4
  clear r3 r4
  have xg30 : w2.cell? ⟨w1.heap.size, 0, none⟩ = some (.slice A n c) := by rw [g3_3.out.cell]; rfl
  have xg31 : w2.cell? ⟨w1.heap.size, 1, none⟩ = some (.int .i64 wk) := by rw [g3_3.out.cell]; rfl
  have xg32 : w2.cell? ⟨w1.heap.size, 2, none⟩ = some (.int .i64 cp) := by rw [g3_3.out.cell]; rfl
  have xr50 : w2.cell? ⟨w1.heap.size + 1, 0, none⟩ = some (.int .i64 x0) := by rw [r5_3.out.cell]; rfl
  have xr51 : w2.cell? ⟨w1.heap.size + 1, 1, none⟩ = some (.int .i64 x1) := by rw [r5_3.out.cell]; rfl
  have xr52 : w2.cell? ⟨w1.heap.size + 1, 2, none⟩ = some (.int .i64 x2) := by rw [r5_3.out.cell]; rfl
  have xr53 : w2.cell? ⟨w1.heap.size + 1, 3, none⟩ = some (.int .i64 x3) := by rw [r5_3.out.cell]; rfl
  go_wp2_with fail
  clear xg30 xg31 xg32 xr50 xr51 xr52 xr53
  refine (implImp_rows HAG.out M3.out (m4 := 0) rfl L.out OU.out hn M3.out X3_3.out.nil X3_3.out.cap (by omega) _ D_3.out X3_3.out.ce (c := c)).mono ?_
  rintro e w3 ⟨A5, c5, A6, c6, rfl, r5, r6, _, hb⟩
  have sz4 := hb.size
  have B4 := Lib.hid (below_chain B3.out hb)
  have D_4 := Lib.hid (D_3.out.below hb)
  have C_4 := Lib.hid (C_3.out.below hb)
  have X3_4 := Lib.hid (X3_3.out.below hb)
  have X4_4 := Lib.hid (X4_3.out.below hb)
  have g3_4 := Lib.hid (g3_3.out.below hb)
  have r5_4 := Lib.hid (r5_3.out.below hb)
  clear hb B3 D_3 C_3 X3_3 X4_3 g3_3 r5_3
  have X5_4 := Lib.hid r5
  clear r5 r6
  obtain ⟨U1, hU1⟩ : ∃ z, w3.alloc (.cells #[.int .i64 1] 3) = z := ⟨_, rfl⟩
  obtain ⟨U2, hU2⟩ : ∃ z, U1.alloc (.cells #[.int .i64 1, .int .i64 0, .int .i64 0, .slice (some ⟨w3.heap.size, 0, none⟩) 1 1, .int .i64 8, .int .i64 0, .int .i64 0, .slice none 0 0] 46) = z := ⟨_, rfl⟩
  obtain ⟨U3, hU3⟩ : ∃ z, U2.alloc (.cells #[.slice (some ⟨U1.heap.size, 0, none⟩) 2 2, .int .i64 1, .int .i64 1] 26) = z := ⟨_, rfl⟩
  have bU1 : Below w3.heap.size w3 U1 := by rw [← hU1]; exact (Below.refl _ _).alloc (Nat.le_refl _) _
  have bU2 : Below U1.heap.size U1 U2 := by rw [← hU2]; exact (Below.refl _ _).alloc (Nat.le_refl _) _
  have bU3 : Below U2.heap.size U2 U3 := by rw [← hU3]; exact (Below.refl _ _).alloc (Nat.le_refl _) _
  have k1 : Blk U1 w3.heap.size 3 #[.int .i64 1] := by rw [← hU1]; exact Blk.new _ _ _
  have k2 : Blk U2 U1.heap.size 46 #[.int .i64 1, .int .i64 0, .int .i64 0, .slice (some ⟨w3.heap.size, 0, none⟩) 1 1, .int .i64 8, .int .i64 0, .int .i64 0, .slice none 0 0] := by rw [← hU2]; exact Blk.new _ _ _
  have k3 : Blk U3 U2.heap.size 26 #[.slice (some ⟨U1.heap.size, 0, none⟩) 2 2, .int .i64 1, .int .i64 1] := by rw [← hU3]; exact Blk.new _ _ _
  have T0 := Lib.hid (two2_nds ((k1.below bU2).below bU3) (k2.below bU3))
  have K3 := Lib.hid k3
  have hb : Below w3.heap.size w3 U3 := below_chain (below_chain bU1 bU2) bU3
  clear k1 k2 k3 bU1 bU2 bU3
  have sz5 := hb.size
  have B5 := Lib.hid (below_chain B4.out hb)
  have D_5 := Lib.hid (D_4.out.below hb)
  have C_5 := Lib.hid (C_4.out.below hb)
  have X3_5 := Lib.hid (X3_4.out.below hb)
  have X4_5 := Lib.hid (X4_4.out.below hb)
  have X5_5 := Lib.hid (X5_4.out.below hb)
  have g3_5 := Lib.hid (g3_4.out.below hb)
  have r5_5 := Lib.hid (r5_4.out.below hb)
  clear hb B4 D_4 C_4 X3_4 X4_4 X5_4 g3_4 r5_4
  have T_5 := T0
  have g24_5 := K3
  clear T0 K3
  have xg240 : U3.cell? ⟨U2.heap.size, 0, none⟩ = some (.slice (some ⟨U1.heap.size, 0, none⟩) 2 2) := by rw [g24_5.out.cell]; rfl
  have xg241 : U3.cell? ⟨U2.heap.size, 1, none⟩ = some (.int .i64 1) := by rw [g24_5.out.cell]; rfl
  have xg242 : U3.cell? ⟨U2.heap.size, 2, none⟩ = some (.int .i64 1) := by rw [g24_5.out.cell]; rfl
  go_wp2_with fail
  clear hU1 hU2 hU3 xg240 xg241 xg242
  refine (implImp_rows imp_two (m3 := 1) (m4 := 1) rfl rfl (n := 2) rfl (by decide) (by omega) (n2 := 0) rfl (fun _ => rfl) (Nat.le_refl _) (by omega) _ T_5.out (A2 := none) (c2 := 0) (fun h => absurd h (by simp)) (c := 2)).mono ?_
  rintro e w5 ⟨A7, c7, A8, c8, rfl, r7, r8, _, hb⟩
  have sz6 := hb.size
  have B6 := Lib.hid (below_chain B5.out hb)
  have D_6 := Lib.hid (D_5.out.below hb)
  have C_6 := Lib.hid (C_5.out.below hb)
  have X3_6 := Lib.hid (X3_5.out.below hb)
  have X4_6 := Lib.hid (X4_5.out.below hb)
  have X5_6 := Lib.hid (X5_5.out.below hb)
  have T_6 := Lib.hid (T_5.out.below hb)
  have g3_6 := Lib.hid (g3_5.out.below hb)
  have r5_6 := Lib.hid (r5_5.out.below hb)
  have g24_6 := Lib.hid (g24_5.out.below hb)
  clear hb B5 D_5 C_5 X3_5 X4_5 X5_5 T_5 g3_5 r5_5 g24_5
  clear T_6
  clear g24_6
  have Z_6 := Lib.hid r8
  clear r7 r8
  obtain ⟨gk, hgk⟩ : ∃ q, okGr gs dec1 wk cp = q := ⟨_, rfl⟩
  have HGK := Lib.hid hgk
  clear hgk
  have xg30 : w5.cell? ⟨w1.heap.size, 0, none⟩ = some (.slice A n c) := by rw [g3_6.out.cell]; rfl
  have xg31 : w5.cell? ⟨w1.heap.size, 1, none⟩ = some (.int .i64 wk) := by rw [g3_6.out.cell]; rfl
  have xg32 : w5.cell? ⟨w1.heap.size, 2, none⟩ = some (.int .i64 cp) := by rw [g3_6.out.cell]; rfl
  go_wp2_with fail
  clear xg30 xg31 xg32
  refine (specGrOk_any gs wk cp A n c L.out OU.out hn HGK.out _ D_6.out).mono ?_
  rintro e w6 ⟨rfl, hb⟩
  have sz7 := hb.size
  have B7 := Lib.hid (below_chain B6.out hb)
  have D_7 := Lib.hid (D_6.out.below hb)
  have C_7 := Lib.hid (C_6.out.below hb)
  have X3_7 := Lib.hid (X3_6.out.below hb)
  have X4_7 := Lib.hid (X4_6.out.below hb)
  have X5_7 := Lib.hid (X5_6.out.below hb)
  have Z_7 := Lib.hid (Z_6.out.below hb)
  have g3_7 := Lib.hid (g3_6.out.below hb)
  have r5_7 := Lib.hid (r5_6.out.below hb)
  clear hb B6 D_6 C_6 X3_6 X4_6 X5_6 Z_6 g3_6 r5_6
  obtain ⟨l, lb, hlb⟩ : ∃ l b, leastC us x0 x1 x2 = (l, b) := ⟨_, _, rfl⟩
  have HLB := Lib.hid hlb
  clear hlb
  cases gk with
  | false =>
    have xr50 : w6.cell? ⟨w1.heap.size + 1, 0, none⟩ = some (.int .i64 x0) := by rw [r5_7.out.cell]; rfl
    have xr51 : w6.cell? ⟨w1.heap.size + 1, 1, none⟩ = some (.int .i64 x1) := by rw [r5_7.out.cell]; rfl
    have xr52 : w6.cell? ⟨w1.heap.size + 1, 2, none⟩ = some (.int .i64 x2) := by rw [r5_7.out.cell]; rfl
    have xr53 : w6.cell? ⟨w1.heap.size + 1, 3, none⟩ = some (.int .i64 x3) := by rw [r5_7.out.cell]; rfl
    have xg30 : w6.cell? ⟨w1.heap.size, 0, none⟩ = some (.slice A n c) := by rw [g3_7.out.cell]; rfl
    have xg31 : w6.cell? ⟨w1.heap.size, 1, none⟩ = some (.int .i64 wk) := by rw [g3_7.out.cell]; rfl
    have xg32 : w6.cell? ⟨w1.heap.size, 2, none⟩ = some (.int .i64 cp) := by rw [g3_7.out.cell]; rfl
    go_wp2_with fail
    clear xr50 xr51 xr52 xr53 xg30 xg31 xg32
    refine (specLeast_is M3.out HLB.out (by omega) _ X3_7.out.ce).mono ?_
    rintro e w7 ⟨rfl, hb⟩
    have sz8 := hb.size
    have B8 := Lib.hid (below_chain B7.out hb)
    have D_8 := Lib.hid (D_7.out.below hb)
    have C_8 := Lib.hid (C_7.out.below hb)
    have X3_8 := Lib.hid (X3_7.out.below hb)
    have X4_8 := Lib.hid (X4_7.out.below hb)
    have X5_8 := Lib.hid (X5_7.out.below hb)
    have Z_8 := Lib.hid (Z_7.out.below hb)
    have g3_8 := Lib.hid (g3_7.out.below hb)
    have r5_8 := Lib.hid (r5_7.out.below hb)
    clear hb B7 D_7 C_7 X3_7 X4_7 X5_7 Z_7 g3_7 r5_7
    go_wp2_with fail
    refine (sameCe2_is M3.out (by omega) X5_8.out.ce X3_8.out.ce).mono ?_
    rintro e w8 ⟨rfl, hb⟩
    have sz9 := hb.size
    have B9 := Lib.hid (below_chain B8.out hb)
    have D_9 := Lib.hid (D_8.out.below hb)
    have C_9 := Lib.hid (C_8.out.below hb)
    have X3_9 := Lib.hid (X3_8.out.below hb)
    have X4_9 := Lib.hid (X4_8.out.below hb)
    have X5_9 := Lib.hid (X5_8.out.below hb)
    have Z_9 := Lib.hid (Z_8.out.below hb)
    have g3_9 := Lib.hid (g3_8.out.below hb)
    have r5_9 := Lib.hid (r5_8.out.below hb)
    clear hb B8 D_8 C_8 X3_8 X4_8 X5_8 Z_8 g3_8 r5_8
    obtain ⟨bz, oz, p0, p1, p2, p3, rfl, hz, e0, e1, e2, e3⟩ := Z_9.out.ce.at (k := 0) (by simp)
    simp only [List.getElem_cons_zero, Prod.mk.injEq] at hz
    obtain ⟨rfl, rfl, rfl, rfl⟩ := hz
    simp only [Nat.zero_mul, Nat.add_zero] at e0 e1 e2 e3
    have k4 : decide ((m4 : Int) ≤ 2) = true := by simp; omega
    have xr50 : w8.cell? ⟨w1.heap.size + 1, 0, none⟩ = some (.int .i64 x0) := by rw [r5_9.out.cell]; rfl
    have xr51 : w8.cell? ⟨w1.heap.size + 1, 1, none⟩ = some (.int .i64 x1) := by rw [r5_9.out.cell]; rfl
    have xr52 : w8.cell? ⟨w1.heap.size + 1, 2, none⟩ = some (.int .i64 x2) := by rw [r5_9.out.cell]; rfl
    have xr53 : w8.cell? ⟨w1.heap.size + 1, 3, none⟩ = some (.int .i64 x3) := by rw [r5_9.out.cell]; rfl
    go_wp2_with fail
    go_ret
    exact ⟨rfl, B9.out⟩
  | true =>
    by_cases h0 : 0 ≤ x0
    rotate_left
    · skip
      have d0 : decide (0 ≤ x0) = false := by simpa using h0
      have d0' : decide (x0 ≥ 0) = false := by simpa using h0
      clear h0
      have xr50 : w6.cell? ⟨w1.heap.size + 1, 0, none⟩ = some (.int .i64 x0) := by rw [r5_7.out.cell]; rfl
      have xr51 : w6.cell? ⟨w1.heap.size + 1, 1, none⟩ = some (.int .i64 x1) := by rw [r5_7.out.cell]; rfl
      have xr52 : w6.cell? ⟨w1.heap.size + 1, 2, none⟩ = some (.int .i64 x2) := by rw [r5_7.out.cell]; rfl
      have xr53 : w6.cell? ⟨w1.heap.size + 1, 3, none⟩ = some (.int .i64 x3) := by rw [r5_7.out.cell]; rfl
      have xg30 : w6.cell? ⟨w1.heap.size, 0, none⟩ = some (.slice A n c) := by rw [g3_7.out.cell]; rfl
      have xg31 : w6.cell? ⟨w1.heap.size, 1, none⟩ = some (.int .i64 wk) := by rw [g3_7.out.cell]; rfl
      have xg32 : w6.cell? ⟨w1.heap.size, 2, none⟩ = some (.int .i64 cp) := by rw [g3_7.out.cell]; rfl
      go_wp2_with fail
      clear xr50 xr51 xr52 xr53 xg30 xg31 xg32
      refine (specLeast_is M3.out HLB.out (by omega) _ X3_7.out.ce).mono ?_
      rintro e w7 ⟨rfl, hb⟩
      have sz8 := hb.size
      have B8 := Lib.hid (below_chain B7.out hb)
      have D_8 := Lib.hid (D_7.out.below hb)
      have C_8 := Lib.hid (C_7.out.below hb)
      have X3_8 := Lib.hid (X3_7.out.below hb)
      have X4_8 := Lib.hid (X4_7.out.below hb)
      have X5_8 := Lib.hid (X5_7.out.below hb)
      have Z_8 := Lib.hid (Z_7.out.below hb)
      have g3_8 := Lib.hid (g3_7.out.below hb)
      have r5_8 := Lib.hid (r5_7.out.below hb)
      clear hb B7 D_7 C_7 X3_7 X4_7 X5_7 Z_7 g3_7 r5_7
      go_wp2_with fail
      refine (sameCe2_is M3.out (by omega) X5_8.out.ce X3_8.out.ce).mono ?_
      rintro e w8 ⟨rfl, hb⟩
      have sz9 := hb.size
      have B9 := Lib.hid (below_chain B8.out hb)
      have D_9 := Lib.hid (D_8.out.below hb)
      have C_9 := Lib.hid (C_8.out.below hb)
      have X3_9 := Lib.hid (X3_8.out.below hb)
      have X4_9 := Lib.hid (X4_8.out.below hb)
      have X5_9 := Lib.hid (X5_8.out.below hb)
      have Z_9 := Lib.hid (Z_8.out.below hb)
      have g3_9 := Lib.hid (g3_8.out.below hb)
      have r5_9 := Lib.hid (r5_8.out.below hb)
      clear hb B8 D_8 C_8 X3_8 X4_8 X5_8 Z_8 g3_8 r5_8
      obtain ⟨bz, oz, p0, p1, p2, p3, rfl, hz, e0, e1, e2, e3⟩ := Z_9.out.ce.at (k := 0) (by simp)
      simp only [List.getElem_cons_zero, Prod.mk.injEq] at hz
      obtain ⟨rfl, rfl, rfl, rfl⟩ := hz
      simp only [Nat.zero_mul, Nat.add_zero] at e0 e1 e2 e3
      have k4 : decide ((m4 : Int) ≤ 2) = true := by simp; omega
      have xr50 : w8.cell? ⟨w1.heap.size + 1, 0, none⟩ = some (.int .i64 x0) := by rw [r5_9.out.cell]; rfl
      have xr51 : w8.cell? ⟨w1.heap.size + 1, 1, none⟩ = some (.int .i64 x1) := by rw [r5_9.out.cell]; rfl
      have xr52 : w8.cell? ⟨w1.heap.size + 1, 2, none⟩ = some (.int .i64 x2) := by rw [r5_9.out.cell]; rfl
      have xr53 : w8.cell? ⟨w1.heap.size + 1, 3, none⟩ = some (.int .i64 x3) := by rw [r5_9.out.cell]; rfl
      go_wp2_with fail
      go_ret
      exact ⟨rfl, B9.out⟩
    have d0 : decide (0 ≤ x0) = true := by simpa using h0
    have d0' : decide (x0 ≥ 0) = true := by simpa using h0
    by_cases h1 : x0 < (n : Int)
    rotate_left
    · skip
      have d1 : decide (x0 < (n : Int)) = false := by simpa using h1
      clear h1
      have xr50 : w6.cell? ⟨w1.heap.size + 1, 0, none⟩ = some (.int .i64 x0) := by rw [r5_7.out.cell]; rfl
      have xr51 : w6.cell? ⟨w1.heap.size + 1, 1, none⟩ = some (.int .i64 x1) := by rw [r5_7.out.cell]; rfl
      have xr52 : w6.cell? ⟨w1.heap.size + 1, 2, none⟩ = some (.int .i64 x2) := by rw [r5_7.out.cell]; rfl
      have xr53 : w6.cell? ⟨w1.heap.size + 1, 3, none⟩ = some (.int .i64 x3) := by rw [r5_7.out.cell]; rfl
      have xg30 : w6.cell? ⟨w1.heap.size, 0, none⟩ = some (.slice A n c) := by rw [g3_7.out.cell]; rfl
      have xg31 : w6.cell? ⟨w1.heap.size, 1, none⟩ = some (.int .i64 wk) := by rw [g3_7.out.cell]; rfl
      have xg32 : w6.cell? ⟨w1.heap.size, 2, none⟩ = some (.int .i64 cp) := by rw [g3_7.out.cell]; rfl
      go_wp2_with fail
      clear xr50 xr51 xr52 xr53 xg30 xg31 xg32
      refine (specLeast_is M3.out HLB.out (by omega) _ X3_7.out.ce).mono ?_
      rintro e w7 ⟨rfl, hb⟩
      have sz8 := hb.size
      have B8 := Lib.hid (below_chain B7.out hb)
      have D_8 := Lib.hid (D_7.out.below hb)
      have C_8 := Lib.hid (C_7.out.below hb)
      have X3_8 := Lib.hid (X3_7.out.below hb)
      have X4_8 := Lib.hid (X4_7.out.below hb)
      have X5_8 := Lib.hid (X5_7.out.below hb)
      have Z_8 := Lib.hid (Z_7.out.below hb)
      have g3_8 := Lib.hid (g3_7.out.below hb)
      have r5_8 := Lib.hid (r5_7.out.below hb)
      clear hb B7 D_7 C_7 X3_7 X4_7 X5_7 Z_7 g3_7 r5_7
      go_wp2_with fail
      refine (sameCe2_is M3.out (by omega) X5_8.out.ce X3_8.out.ce).mono ?_
      rintro e w8 ⟨rfl, hb⟩
      have sz9 := hb.size
      have B9 := Lib.hid (below_chain B8.out hb)
      have D_9 := Lib.hid (D_8.out.below hb)
      have C_9 := Lib.hid (C_8.out.below hb)
      have X3_9 := Lib.hid (X3_8.out.below hb)
      have X4_9 := Lib.hid (X4_8.out.below hb)
      have X5_9 := Lib.hid (X5_8.out.below hb)
      have Z_9 := Lib.hid (Z_8.out.below hb)
      have g3_9 := Lib.hid (g3_8.out.below hb)
      have r5_9 := Lib.hid (r5_8.out.below hb)
      clear hb B8 D_8 C_8 X3_8 X4_8 X5_8 Z_8 g3_8 r5_8
      obtain ⟨bz, oz, p0, p1, p2, p3, rfl, hz, e0, e1, e2, e3⟩ := Z_9.out.ce.at (k := 0) (by simp)
      simp only [List.getElem_cons_zero, Prod.mk.injEq] at hz
      obtain ⟨rfl, rfl, rfl, rfl⟩ := hz
      simp only [Nat.zero_mul, Nat.add_zero] at e0 e1 e2 e3
      have k4 : decide ((m4 : Int) ≤ 2) = true := by simp; omega
      have xr50 : w8.cell? ⟨w1.heap.size + 1, 0, none⟩ = some (.int .i64 x0) := by rw [r5_9.out.cell]; rfl
      have xr51 : w8.cell? ⟨w1.heap.size + 1, 1, none⟩ = some (.int .i64 x1) := by rw [r5_9.out.cell]; rfl
      have xr52 : w8.cell? ⟨w1.heap.size + 1, 2, none⟩ = some (.int .i64 x2) := by rw [r5_9.out.cell]; rfl
      have xr53 : w8.cell? ⟨w1.heap.size + 1, 3, none⟩ = some (.int .i64 x3) := by rw [r5_9.out.cell]; rfl
      go_wp2_with fail
      go_ret
      exact ⟨rfl, B9.out⟩
    have d1 : decide (x0 < (n : Int)) = true := by simpa using h1
    have xr50 : w6.cell? ⟨w1.heap.size + 1, 0, none⟩ = some (.int .i64 x0) := by rw [r5_7.out.cell]; rfl
    have xr51 : w6.cell? ⟨w1.heap.size + 1, 1, none⟩ = some (.int .i64 x1) := by rw [r5_7.out.cell]; rfl
    have xr52 : w6.cell? ⟨w1.heap.size + 1, 2, none⟩ = some (.int .i64 x2) := by rw [r5_7.out.cell]; rfl
    have xr53 : w6.cell? ⟨w1.heap.size + 1, 3, none⟩ = some (.int .i64 x3) := by rw [r5_7.out.cell]; rfl
    have xg30 : w6.cell? ⟨w1.heap.size, 0, none⟩ = some (.slice A n c) := by rw [g3_7.out.cell]; rfl
    have xg31 : w6.cell? ⟨w1.heap.size, 1, none⟩ = some (.int .i64 wk) := by rw [g3_7.out.cell]; rfl
    have xg32 : w6.cell? ⟨w1.heap.size, 2, none⟩ = some (.int .i64 cp) := by rw [g3_7.out.cell]; rfl
    go_wp2_with fail
    clear xr50 xr51 xr52 xr53 xg30 xg31 xg32
    refine (specLeast_is M3.out HLB.out (by omega) _ X3_7.out.ce).mono ?_
    rintro e w7 ⟨rfl, hb⟩
    have sz8 := hb.size
    have B8 := Lib.hid (below_chain B7.out hb)
    have D_8 := Lib.hid (D_7.out.below hb)
    have C_8 := Lib.hid (C_7.out.below hb)
    have X3_8 := Lib.hid (X3_7.out.below hb)
    have X4_8 := Lib.hid (X4_7.out.below hb)
    have X5_8 := Lib.hid (X5_7.out.below hb)
    have Z_8 := Lib.hid (Z_7.out.below hb)
    have g3_8 := Lib.hid (g3_7.out.below hb)
    have r5_8 := Lib.hid (r5_7.out.below hb)
    clear hb B7 D_7 C_7 X3_7 X4_7 X5_7 Z_7 g3_7 r5_7
    go_wp2_with fail
    refine (sameCe2_is M3.out (by omega) X5_8.out.ce X3_8.out.ce).mono ?_
    rintro e w8 ⟨rfl, hb⟩
    have sz9 := hb.size
    have B9 := Lib.hid (below_chain B8.out hb)
    have D_9 := Lib.hid (D_8.out.below hb)
    have C_9 := Lib.hid (C_8.out.below hb)
    have X3_9 := Lib.hid (X3_8.out.below hb)
    have X4_9 := Lib.hid (X4_8.out.below hb)
    have X5_9 := Lib.hid (X5_8.out.below hb)
    have Z_9 := Lib.hid (Z_8.out.below hb)
    have g3_9 := Lib.hid (g3_8.out.below hb)
    have r5_9 := Lib.hid (r5_8.out.below hb)
    clear hb B8 D_8 C_8 X3_8 X4_8 X5_8 Z_8 g3_8 r5_8
    obtain ⟨bz, oz, p0, p1, p2, p3, rfl, hz, e0, e1, e2, e3⟩ := Z_9.out.ce.at (k := 0) (by simp)
    simp only [List.getElem_cons_zero, Prod.mk.injEq] at hz
    obtain ⟨rfl, rfl, rfl, rfl⟩ := hz
    simp only [Nat.zero_mul, Nat.add_zero] at e0 e1 e2 e3
    have k4 : decide ((m4 : Int) ≤ 2) = true := by simp; omega
    obtain ⟨rfl, hle⟩ : lb = true ∧ l ≤ x3 := by
      have h := imp_least HIM.out (impB_drawn RR.out HGK.out h0 (by rw [L.out]; exact h1))
      rw [show leastC us ((x0, x1, x2, x3) : Ce).1 ((x0, x1, x2, x3) : Ce).2.1 ((x0, x1, x2, x3) : Ce).2.2.1 = (l, lb) from HLB.out] at h
      exact h
    have k5 : decide (l ≤ x3) = true := by simpa using hle
    have xr50 : w8.cell? ⟨w1.heap.size + 1, 0, none⟩ = some (.int .i64 x0) := by rw [r5_9.out.cell]; rfl
    have xr51 : w8.cell? ⟨w1.heap.size + 1, 1, none⟩ = some (.int .i64 x1) := by rw [r5_9.out.cell]; rfl
    have xr52 : w8.cell? ⟨w1.heap.size + 1, 2, none⟩ = some (.int .i64 x2) := by rw [r5_9.out.cell]; rfl
    have xr53 : w8.cell? ⟨w1.heap.size + 1, 3, none⟩ = some (.int .i64 x3) := by rw [r5_9.out.cell]; rfl
    go_wp2_with fail
    go_ret
    exact ⟨rfl, B9.out⟩
end Go.Proofs.Ytbbagpnjjjohpaa.fnImproved

