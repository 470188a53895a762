/-
  spec.l08Graph.
-/
import Derived.Test.YtbbagpnjjjohpaaJ33
import Derived.Deep.CutBlock
import Derived.Deep.DeepCutAuto
import Derived.WalkArith

namespace Go.Proofs.Ytbbagpnjjjohpaa.hexes
open Go.RowKit

/-- How a drawn right graph ends. -/
def GdEnd (w : World) (c : Nat) (A : Option Addr) (len cap : Nat) (e : Ending) (w' : World) : Prop :=
  ∃ (A1 : Option Addr) (n c1 : Nat) (wk cp : Int) (vs : List Nv), 6 ≤ n ∧ n ≤ 7 ∧ vs.length = n ∧ e = .returned (.agg #[.slice A1 n c1, .int .i64 wk, .int .i64 cp]) ∧ w'.ownsRow w.heap.size 46 4 (.slice A1 n c1) n (nvCells vs) ∧ (∀ v ∈ vs, Inn w w' v) ∧ (∀ v ∈ vs, v.2.2.2.2.1 ≤ 2) ∧ (vs.filterMap ob).Nodup ∧ Cursor w' c A len cap ∧ w.grownBy w' (some c)

set_option maxRecDepth 100000 in
set_option maxHeartbeats 8000000 in
theorem graph_draw (w : World) (c : Nat) (A : Option Addr) (len cap : Nat) (hlen : len ≤ 2097152) (hcur : Cursor w c A len cap) :
    Calls Try.prog 52 #[.pointer (some ⟨c, 0, none⟩)] w (GdEnd w c A len cap) := by
  have hc := hcur.lt
  have HC := Lib.hid hcur
  clear hcur
  go_enter Try.func52, Try.ntmps52
  go_wp2_with fail
  generalize hW : (w.alloc _) = W
  have hb : Below w.heap.size w W := by rw [← hW]; exact ((Below.refl _ _).alloc (by first | (simp; done) | (simp; omega) | omega) _)
  have Nr := Lib.hid (show Blk W (w.heap.size) 26 #[.slice none 0 0, .int .i64 0, .int .i64 0] by rw [← hW]; exact (Blk.new _ _ _))
  have C_0 := Lib.hid (HC.out.belowD hb)
  have G_0 := Lib.hid (grown_below (grown_refl w (some c)) hb)
  have azW := hb.size
  have Kr_0 := Nr
  have ltr : w.heap.size < W.heap.size := Nr.out.lt
  clear Nr
  clear hW hb
  refine (below_any 3 (by omega) (by omega) W c A len cap hlen C_0.out).mono ?_
  rintro e w1 ⟨y1, hy1, rfl, hcn, gn⟩
  have azw1 := gn.size
  have Kr_1 := Lib.hid (Kr_0.out.grown gn (by simp; omega))
  have C_1 := Lib.hid (hcn)
  have G_1 := Lib.hid (grown_trans G_0.out gn)
  clear Kr_0 C_0 G_0
  clear hcn gn
  obtain ⟨wk, hqwk⟩ : ∃ q : Int, 1 + (y1 : Int) = q := ⟨_, rfl⟩
  have bdwk : 1 ≤ wk ∧ wk ≤ 3 := by omega
  have mwwk : IntKind.i64.wrap wk = wk := IntWalk.i64_in _ (by omega)
  go_wp2_with fail
  refine (below_any 3 (by omega) (by omega) w1 c A len cap hlen C_1.out).mono ?_
  rintro e w2 ⟨y2, hy2, rfl, hcn, gn⟩
  have azw2 := gn.size
  have Kr_2 := Lib.hid (Kr_1.out.grown gn (by simp; omega))
  have C_2 := Lib.hid (hcn)
  have G_2 := Lib.hid (grown_trans G_1.out gn)
  clear Kr_1 C_1 G_1
  clear hcn gn
  obtain ⟨cp, hqcp⟩ : ∃ q : Int, 1 + (y2 : Int) = q := ⟨_, rfl⟩
  have bdcp : 1 ≤ cp ∧ cp ≤ 3 := by omega
  have mwcp : IntKind.i64.wrap cp = cp := IntWalk.i64_in _ (by omega)
  go_wp2_with fail
  generalize hW : (((w2.alloc _).alloc _).alloc _) = w3
  have hb : Below w2.heap.size w2 w3 := by rw [← hW]; exact ((((Below.refl _ _).alloc (by first | (simp; done) | (simp; omega) | omega) _).alloc (by first | (simp; done) | (simp; omega) | omega) _).alloc (by first | (simp; done) | (simp; omega) | omega) _)
  have aww3 : w3.heap.size = w2.heap.size + 3 := by rw [← hW]; simp
  have AWw3 := Lib.hid aww3
  clear aww3
  have Nx := Lib.hid (show Blk w3 (w2.heap.size) 26 #[.slice none 0 0, .int .i64 wk, .int .i64 cp] by rw [← hW]; exact ((Below.heap_alloc _ _ _ (by first | (simp; done) | (simp; omega))).trans ((Below.heap_alloc _ _ _ (by first | (simp; done) | (simp; omega))).trans (Blk.new _ _ _))))
  have Nl1 := Lib.hid (show Blk w3 (w2.heap.size + 1) 3 #[.int .i64 2, .int .i64 5] by rw [← hW]; exact ((Below.heap_alloc _ _ _ (by first | (simp; done) | (simp; omega))).trans ((show w2.heap.size + 1 = ((w2.alloc _)).heap.size by simp) ▸ Blk.new _ _ _)))
  have Ngt := Lib.hid (show Blk w3 (w2.heap.size + 2) 46 #[.int .i64 5, .int .i64 0, .int .i64 0, .slice (some ⟨(w2.heap.size + 1), 0, none⟩) 2 2] by rw [← hW]; exact ((show w2.heap.size + 2 = (((w2.alloc _).alloc _)).heap.size by simp) ▸ Blk.new _ _ _))
  clear hW
  have azw3 := hb.size
  have Kr_3 := Lib.hid (Kr_2.out.below hb)
  have C_3 := Lib.hid (C_2.out.belowD hb)
  have G_3 := Lib.hid (grown_below G_2.out hb)
  clear Kr_2 C_2 G_2
  clear hb
  have Kx_3 := Nx
  have ltx : w2.heap.size < w3.heap.size := Nx.out.lt
  clear Nx
  have Kl1_3 := Nl1
  have ltl1 : w2.heap.size + 1 < w3.heap.size := Nl1.out.lt
  clear Nl1
  have Kgt_3 := Ngt
  have ltgt : w2.heap.size + 2 < w3.heap.size := Ngt.out.lt
  clear Ngt
  refine (once_any 3 (by omega) (by omega) w3 c A len cap hlen C_3.out).mono ?_
  rintro e w4 ⟨bq, rfl, hcn, gn⟩
  have azw4 := gn.size
  have Kr_4 := Lib.hid (Kr_3.out.grown gn (by simp; omega))
  have Kx_4 := Lib.hid (Kx_3.out.grown gn (by simp; omega))
  have Kl1_4 := Lib.hid (Kl1_3.out.grown gn (by simp; omega))
  have Kgt_4 := Lib.hid (Kgt_3.out.grown gn (by simp; omega))
  have C_4 := Lib.hid (hcn)
  have G_4 := Lib.hid (grown_trans G_3.out gn)
  clear Kr_3 Kx_3 Kl1_3 Kgt_3 C_3 G_3
  clear hcn gn
  cases bq with
  | true =>
    have xgt0 : w4.cell? ⟨w2.heap.size + 2, 0, none⟩ = some (.int .i64 5) := by rw [Kgt_4.out.cell]; rfl
    have fxgt0 := Kgt_4.out.frozen 0
    have xgt1 : w4.cell? ⟨w2.heap.size + 2, 1, none⟩ = some (.int .i64 0) := by rw [Kgt_4.out.cell]; rfl
    have fxgt1 := Kgt_4.out.frozen 1
    have xgt2 : w4.cell? ⟨w2.heap.size + 2, 2, none⟩ = some (.int .i64 0) := by rw [Kgt_4.out.cell]; rfl
    have fxgt2 := Kgt_4.out.frozen 2
    have xgt3 : w4.cell? ⟨w2.heap.size + 2, 3, none⟩ = some (.slice (some ⟨(w2.heap.size + 1), 0, none⟩) 2 2) := by rw [Kgt_4.out.cell]; rfl
    have fxgt3 := Kgt_4.out.frozen 3
    go_wp2_with fail
    clear xgt0 fxgt0 xgt1 fxgt1 xgt2 fxgt2 xgt3 fxgt3
    generalize hV : (w4.setCell _ _) = w5
    have azz : w5.heap.size = w4.heap.size := by rw [← hV]; simp [World.setCell]
    have Kr_5 := Lib.hid (show Blk w5 (w.heap.size) 26 #[.slice none 0 0, .int .i64 0, .int .i64 0] by rw [← hV]; exact (Kr_4.out.other (by first | (simp; done) | (simp; omega) | omega) _))
    have Kx_5 := Lib.hid (show Blk w5 (w2.heap.size) 26 #[.slice none 0 0, .int .i64 wk, .int .i64 cp] by rw [← hV]; exact (Kx_4.out.other (by first | (simp; done) | (simp; omega) | omega) _))
    have Kl1_5 := Lib.hid (show Blk w5 (w2.heap.size + 1) 3 #[.int .i64 2, .int .i64 5] by rw [← hV]; exact (Kl1_4.out.other (by first | (simp; done) | (simp; omega) | omega) _))
    have Kgt_5 := Lib.hid (show Blk w5 (w2.heap.size + 2) 46 #[.int .i64 6, .int .i64 0, .int .i64 0, .slice (some ⟨(w2.heap.size + 1), 0, none⟩) 2 2] by rw [← hV]; exact (Kgt_4.out.put 0 _))
    have G_5 := Lib.hid (show w.grownBy w5 (some c) by rw [← hV]; exact (grown_set_new G_4.out (p := ⟨w2.heap.size + 2, 0, none⟩) (by simp; omega) (.int .i64 6)))
    have C_5 := Lib.hid (HC.out.back C_4.out G_5.out (by rw [← hV]; exact (Below.heap_setCell _ _ _ c (by simp; omega))))
    clear hV Kr_4 Kx_4 Kl1_4 Kgt_4 C_4 G_4
    obtain ⟨kg, KG⟩ : ∃ kg : Int, Hid (Blk w5 (w2.heap.size + 1 + 1) 46 #[.int .i64 kg, .int .i64 0, .int .i64 0, .slice (some ⟨w2.heap.size + 1, 0, none⟩) 2 2]) := ⟨6, Kgt_5⟩
    clear Kgt_5
    have Kgt_5 := KG
    clear KG
    refine (below_any 3 (by omega) (by omega) w5 c A len cap hlen C_5.out).mono ?_
    rintro e w6 ⟨y3, hy3, rfl, hcn, gn⟩
    have azw6 := gn.size
    have Kr_6 := Lib.hid (Kr_5.out.grown gn (by simp; omega))
    have Kx_6 := Lib.hid (Kx_5.out.grown gn (by simp; omega))
    have Kl1_6 := Lib.hid (Kl1_5.out.grown gn (by simp; omega))
    have Kgt_6 := Lib.hid (Kgt_5.out.grown gn (by simp; omega))
    have C_6 := Lib.hid (hcn)
    have G_6 := Lib.hid (grown_trans G_5.out gn)
    clear Kr_5 Kx_5 Kl1_5 Kgt_5 C_5 G_5
    clear hcn gn
    obtain ⟨a2, hqa2⟩ : ∃ q : Int, 1 + (y3 : Int) = q := ⟨_, rfl⟩
    have bda2 : 1 ≤ a2 ∧ a2 ≤ 3 := by omega
    have mwa2 : IntKind.i64.wrap a2 = a2 := IntWalk.i64_in _ (by omega)
    go_wp2_with fail
    generalize hW : ((w6.alloc _).alloc _) = w7
    have hb : Below w6.heap.size w6 w7 := by rw [← hW]; exact (((Below.refl _ _).alloc (by first | (simp; done) | (simp; omega) | omega) _).alloc (by first | (simp; done) | (simp; omega) | omega) _)
    have aww7 : w7.heap.size = w6.heap.size + 2 := by rw [← hW]; simp
    have AWw7 := Lib.hid aww7
    clear aww7
    have Nl2 := Lib.hid (show Blk w7 (w6.heap.size) 3 #[.int .i64 3] by rw [← hW]; exact ((Below.heap_alloc _ _ _ (by first | (simp; done) | (simp; omega))).trans (Blk.new _ _ _)))
    have Nst := Lib.hid (show Blk w7 (w6.heap.size + 1) 46 #[.int .i64 4, .int .i64 a2, .int .i64 0, .slice (some ⟨w6.heap.size, 0, none⟩) 1 1] by rw [← hW]; exact ((show w6.heap.size + 1 = ((w6.alloc _)).heap.size by simp) ▸ Blk.new _ _ _))
    clear hW
    have azw7 := hb.size
    have Kr_7 := Lib.hid (Kr_6.out.below hb)
    have Kx_7 := Lib.hid (Kx_6.out.below hb)
    have Kl1_7 := Lib.hid (Kl1_6.out.below hb)
    have Kgt_7 := Lib.hid (Kgt_6.out.below hb)
    have C_7 := Lib.hid (C_6.out.belowD hb)
    have G_7 := Lib.hid (grown_below G_6.out hb)
    clear Kr_6 Kx_6 Kl1_6 Kgt_6 C_6 G_6
    clear hb
    have Kl2_7 := Nl2
    have ltl2 : w6.heap.size < w7.heap.size := Nl2.out.lt
    clear Nl2
    have Kst_7 := Nst
    have ltst : w6.heap.size + 1 < w7.heap.size := Nst.out.lt
    clear Nst
    refine (below_any 4 (by omega) (by omega) w7 c A len cap hlen C_7.out).mono ?_
    rintro e w8 ⟨y4, hy4, rfl, hcn, gn⟩
    have azw8 := gn.size
    have Kr_8 := Lib.hid (Kr_7.out.grown gn (by simp; omega))
    have Kx_8 := Lib.hid (Kx_7.out.grown gn (by simp; omega))
    have Kl1_8 := Lib.hid (Kl1_7.out.grown gn (by simp; omega))
    have Kgt_8 := Lib.hid (Kgt_7.out.grown gn (by simp; omega))
    have Kl2_8 := Lib.hid (Kl2_7.out.grown gn (by simp; omega))
    have Kst_8 := Lib.hid (Kst_7.out.grown gn (by simp; omega))
    have C_8 := Lib.hid (hcn)
    have G_8 := Lib.hid (grown_trans G_7.out gn)
    clear Kr_7 Kx_7 Kl1_7 Kgt_7 Kl2_7 Kst_7 C_7 G_7
    clear hcn gn
    go_wp2_with fail
    generalize hW : ((w8.alloc _).alloc _) = w9
    have hb : Below w8.heap.size w8 w9 := by rw [← hW]; exact (((Below.refl _ _).alloc (by first | (simp; done) | (simp; omega) | omega) _).alloc (by first | (simp; done) | (simp; omega) | omega) _)
    have aww9 : w9.heap.size = w8.heap.size + 2 := by rw [← hW]; simp
    have AWw9 := Lib.hid aww9
    clear aww9
    have Nl3 := Lib.hid (show Blk w9 (w8.heap.size) 3 #[.int .i64 4] by rw [← hW]; exact ((Below.heap_alloc _ _ _ (by first | (simp; done) | (simp; omega))).trans (Blk.new _ _ _)))
    have Nad := Lib.hid (show Blk w9 (w8.heap.size + 1) 46 #[.int .i64 2, .int .i64 (y4 : Int), .int .i64 0, .slice (some ⟨w8.heap.size, 0, none⟩) 1 1] by rw [← hW]; exact ((show w8.heap.size + 1 = ((w8.alloc _)).heap.size by simp) ▸ Blk.new _ _ _))
    clear hW
    have azw9 := hb.size
    have Kr_9 := Lib.hid (Kr_8.out.below hb)
    have Kx_9 := Lib.hid (Kx_8.out.below hb)
    have Kl1_9 := Lib.hid (Kl1_8.out.below hb)
    have Kgt_9 := Lib.hid (Kgt_8.out.below hb)
    have Kl2_9 := Lib.hid (Kl2_8.out.below hb)
    have Kst_9 := Lib.hid (Kst_8.out.below hb)
    have C_9 := Lib.hid (C_8.out.belowD hb)
    have G_9 := Lib.hid (grown_below G_8.out hb)
    clear Kr_8 Kx_8 Kl1_8 Kgt_8 Kl2_8 Kst_8 C_8 G_8
    clear hb
    have Kl3_9 := Nl3
    have ltl3 : w8.heap.size < w9.heap.size := Nl3.out.lt
    clear Nl3
    have Kad_9 := Nad
    have ltad : w8.heap.size + 1 < w9.heap.size := Nad.out.lt
    clear Nad
    refine (below_any 3 (by omega) (by omega) w9 c A len cap hlen C_9.out).mono ?_
    rintro e w10 ⟨y5, hy5, rfl, hcn, gn⟩
    have azw10 := gn.size
    have Kr_10 := Lib.hid (Kr_9.out.grown gn (by simp; omega))
    have Kx_10 := Lib.hid (Kx_9.out.grown gn (by simp; omega))
    have Kl1_10 := Lib.hid (Kl1_9.out.grown gn (by simp; omega))
    have Kgt_10 := Lib.hid (Kgt_9.out.grown gn (by simp; omega))
    have Kl2_10 := Lib.hid (Kl2_9.out.grown gn (by simp; omega))
    have Kst_10 := Lib.hid (Kst_9.out.grown gn (by simp; omega))
    have Kl3_10 := Lib.hid (Kl3_9.out.grown gn (by simp; omega))
    have Kad_10 := Lib.hid (Kad_9.out.grown gn (by simp; omega))
    have C_10 := Lib.hid (hcn)
    have G_10 := Lib.hid (grown_trans G_9.out gn)
    clear Kr_9 Kx_9 Kl1_9 Kgt_9 Kl2_9 Kst_9 Kl3_9 Kad_9 C_9 G_9
    clear hcn gn
    obtain ⟨a4, hqa4⟩ : ∃ q : Int, 1 + (y5 : Int) = q := ⟨_, rfl⟩
    have bda4 : 1 ≤ a4 ∧ a4 ≤ 3 := by omega
    have mwa4 : IntKind.i64.wrap a4 = a4 := IntWalk.i64_in _ (by omega)
    go_upto_region 10 with fail
    generalize hW : (((((w10.alloc _).alloc _).alloc _).alloc _).alloc _) = w11
    have hb : Below w10.heap.size w10 w11 := by rw [← hW]; exact ((((((Below.refl _ _).alloc (by first | (simp; done) | (simp; omega) | omega) _).alloc (by first | (simp; done) | (simp; omega) | omega) _).alloc (by first | (simp; done) | (simp; omega) | omega) _).alloc (by first | (simp; done) | (simp; omega) | omega) _).alloc (by first | (simp; done) | (simp; omega) | omega) _)
    have aww11 : w11.heap.size = w10.heap.size + 5 := by rw [← hW]; simp
    have AWw11 := Lib.hid aww11
    clear aww11
    have Nl4 := Lib.hid (show Blk w11 (w10.heap.size) 3 #[.int .i64 4] by rw [← hW]; exact ((Below.heap_alloc _ _ _ (by first | (simp; done) | (simp; omega))).trans ((Below.heap_alloc _ _ _ (by first | (simp; done) | (simp; omega))).trans ((Below.heap_alloc _ _ _ (by first | (simp; done) | (simp; omega))).trans ((Below.heap_alloc _ _ _ (by first | (simp; done) | (simp; omega))).trans (Blk.new _ _ _))))))
    have Nkp := Lib.hid (show Blk w11 (w10.heap.size + 1) 46 #[.int .i64 3, .int .i64 a4, .int .i64 0, .slice (some ⟨w10.heap.size, 0, none⟩) 1 1] by rw [← hW]; exact ((Below.heap_alloc _ _ _ (by first | (simp; done) | (simp; omega))).trans ((Below.heap_alloc _ _ _ (by first | (simp; done) | (simp; omega))).trans ((Below.heap_alloc _ _ _ (by first | (simp; done) | (simp; omega))).trans ((show w10.heap.size + 1 = ((w10.alloc _)).heap.size by simp) ▸ Blk.new _ _ _)))))
    have Nl5 := Lib.hid (show Blk w11 (w10.heap.size + 2) 3 #[.int .i64 1] by rw [← hW]; exact ((Below.heap_alloc _ _ _ (by first | (simp; done) | (simp; omega))).trans ((Below.heap_alloc _ _ _ (by first | (simp; done) | (simp; omega))).trans ((show w10.heap.size + 2 = (((w10.alloc _).alloc _)).heap.size by simp) ▸ Blk.new _ _ _))))
    have Nbk := Lib.hid (show Blk w11 (w10.heap.size + 3) 46 #[.int .i64 7, .int .i64 0, .int .i64 0, .slice (some ⟨(w10.heap.size + 2), 0, none⟩) 1 1] by rw [← hW]; exact ((Below.heap_alloc _ _ _ (by first | (simp; done) | (simp; omega))).trans ((show w10.heap.size + 3 = ((((w10.alloc _).alloc _).alloc _)).heap.size by simp) ▸ Blk.new _ _ _)))
    have Nou := Lib.hid (show Blk w11 (w10.heap.size + 4) 46 #[.int .i64 8, .int .i64 0, .int .i64 0, .slice none 0 0] by rw [← hW]; exact ((show w10.heap.size + 4 = (((((w10.alloc _).alloc _).alloc _).alloc _)).heap.size by simp) ▸ Blk.new _ _ _))
    clear hW
    have azw11 := hb.size
    have Kr_11 := Lib.hid (Kr_10.out.below hb)
    have Kx_11 := Lib.hid (Kx_10.out.below hb)
    have Kl1_11 := Lib.hid (Kl1_10.out.below hb)
    have Kgt_11 := Lib.hid (Kgt_10.out.below hb)
    have Kl2_11 := Lib.hid (Kl2_10.out.below hb)
    have Kst_11 := Lib.hid (Kst_10.out.below hb)
    have Kl3_11 := Lib.hid (Kl3_10.out.below hb)
    have Kad_11 := Lib.hid (Kad_10.out.below hb)
    have C_11 := Lib.hid (C_10.out.belowD hb)
    have G_11 := Lib.hid (grown_below G_10.out hb)
    clear Kr_10 Kx_10 Kl1_10 Kgt_10 Kl2_10 Kst_10 Kl3_10 Kad_10 C_10 G_10
    clear hb
    have Kl4_11 := Nl4
    have ltl4 : w10.heap.size < w11.heap.size := Nl4.out.lt
    clear Nl4
    have Kkp_11 := Nkp
    have ltkp : w10.heap.size + 1 < w11.heap.size := Nkp.out.lt
    clear Nkp
    have Kl5_11 := Nl5
    have ltl5 : w10.heap.size + 2 < w11.heap.size := Nl5.out.lt
    clear Nl5
    have Kbk_11 := Nbk
    have ltbk : w10.heap.size + 3 < w11.heap.size := Nbk.out.lt
    clear Nbk
    have Kou_11 := Nou
    have ltou : w10.heap.size + 4 < w11.heap.size := Nou.out.lt
    clear Nou
    obtain ⟨w12, hW⟩ : ∃ z, (w11.alloc (.cells #[.int .i64 1] 3)) = z := ⟨_, rfl⟩
    have hb : Below w11.heap.size w11 w12 := by rw [← hW]; exact ((Below.refl _ _).alloc (by first | (simp; done) | (simp; omega) | omega) _)
    have aww12 : w12.heap.size = w11.heap.size + 1 := by rw [← hW]; simp
    have AWw12 := Lib.hid aww12
    clear aww12
    have Nl6 := Lib.hid (show Blk w12 (w11.heap.size) 3 #[.int .i64 1] by rw [← hW]; exact (Blk.new _ _ _))
    have azw12 := hb.size
    have Kr_12 := Lib.hid (Kr_11.out.below hb)
    have Kx_12 := Lib.hid (Kx_11.out.below hb)
    have Kl1_12 := Lib.hid (Kl1_11.out.below hb)
    have Kgt_12 := Lib.hid (Kgt_11.out.below hb)
    have Kl2_12 := Lib.hid (Kl2_11.out.below hb)
    have Kst_12 := Lib.hid (Kst_11.out.below hb)
    have Kl3_12 := Lib.hid (Kl3_11.out.below hb)
    have Kad_12 := Lib.hid (Kad_11.out.below hb)
    have Kl4_12 := Lib.hid (Kl4_11.out.below hb)
    have Kkp_12 := Lib.hid (Kkp_11.out.below hb)
    have Kl5_12 := Lib.hid (Kl5_11.out.below hb)
    have Kbk_12 := Lib.hid (Kbk_11.out.below hb)
    have Kou_12 := Lib.hid (Kou_11.out.below hb)
    have C_12 := Lib.hid (C_11.out.belowD hb)
    have G_12 := Lib.hid (grown_below G_11.out hb)
    clear Kr_11 Kx_11 Kl1_11 Kgt_11 Kl2_11 Kst_11 Kl3_11 Kad_11 Kl4_11 Kkp_11 Kl5_11 Kbk_11 Kou_11 C_11 G_11
    clear hb
    have Kl6_12 := Nl6
    have ltl6 : w11.heap.size < w12.heap.size := Nl6.out.lt
    clear Nl6
    have hW12 := hW
    clear hW
    have xgt0 : w12.cell? ⟨w2.heap.size + 1 + 1, 0, none⟩ = some (.int .i64 kg) := by rw [Kgt_12.out.cell]; rfl
    have xgt1 : w12.cell? ⟨w2.heap.size + 1 + 1, 1, none⟩ = some (.int .i64 0) := by rw [Kgt_12.out.cell]; rfl
    have xgt2 : w12.cell? ⟨w2.heap.size + 1 + 1, 2, none⟩ = some (.int .i64 0) := by rw [Kgt_12.out.cell]; rfl
    have xgt3 : w12.cell? ⟨w2.heap.size + 1 + 1, 3, none⟩ = some (.slice (some ⟨w2.heap.size + 1, 0, none⟩) 2 2) := by rw [Kgt_12.out.cell]; rfl
    have xst0 : w12.cell? ⟨w6.heap.size + 1, 0, none⟩ = some (.int .i64 4) := by rw [Kst_12.out.cell]; rfl
    have xst1 : w12.cell? ⟨w6.heap.size + 1, 1, none⟩ = some (.int .i64 a2) := by rw [Kst_12.out.cell]; rfl
    have xst2 : w12.cell? ⟨w6.heap.size + 1, 2, none⟩ = some (.int .i64 0) := by rw [Kst_12.out.cell]; rfl
    have xst3 : w12.cell? ⟨w6.heap.size + 1, 3, none⟩ = some (.slice (some ⟨w6.heap.size, 0, none⟩) 1 1) := by rw [Kst_12.out.cell]; rfl
    have xad0 : w12.cell? ⟨w8.heap.size + 1, 0, none⟩ = some (.int .i64 2) := by rw [Kad_12.out.cell]; rfl
    have xad1 : w12.cell? ⟨w8.heap.size + 1, 1, none⟩ = some (.int .i64 (y4 : Int)) := by rw [Kad_12.out.cell]; rfl
    have xad2 : w12.cell? ⟨w8.heap.size + 1, 2, none⟩ = some (.int .i64 0) := by rw [Kad_12.out.cell]; rfl
    have xad3 : w12.cell? ⟨w8.heap.size + 1, 3, none⟩ = some (.slice (some ⟨w8.heap.size, 0, none⟩) 1 1) := by rw [Kad_12.out.cell]; rfl
    have xbk0 : w12.cell? ⟨w10.heap.size + 3, 0, none⟩ = some (.int .i64 7) := by rw [Kbk_12.out.cell]; rfl
    have xbk1 : w12.cell? ⟨w10.heap.size + 3, 1, none⟩ = some (.int .i64 0) := by rw [Kbk_12.out.cell]; rfl
    have xbk2 : w12.cell? ⟨w10.heap.size + 3, 2, none⟩ = some (.int .i64 0) := by rw [Kbk_12.out.cell]; rfl
    have xbk3 : w12.cell? ⟨w10.heap.size + 3, 3, none⟩ = some (.slice (some ⟨(w10.heap.size + 2), 0, none⟩) 1 1) := by rw [Kbk_12.out.cell]; rfl
    have xou0 : w12.cell? ⟨w10.heap.size + 4, 0, none⟩ = some (.int .i64 8) := by rw [Kou_12.out.cell]; rfl
    have xou1 : w12.cell? ⟨w10.heap.size + 4, 1, none⟩ = some (.int .i64 0) := by rw [Kou_12.out.cell]; rfl
    have xou2 : w12.cell? ⟨w10.heap.size + 4, 2, none⟩ = some (.int .i64 0) := by rw [Kou_12.out.cell]; rfl
    have xou3 : w12.cell? ⟨w10.heap.size + 4, 3, none⟩ = some (.slice none 0 0) := by rw [Kou_12.out.cell]; rfl
    obtain ⟨w13, hW⟩ : ∃ z, (w12.alloc (.cells #[.int .i64 1, .int .i64 0, .int .i64 0, .slice (some ⟨w11.heap.size, 0, none⟩) 1 1, .int .i64 kg, .int .i64 0, .int .i64 0, .slice (some ⟨w2.heap.size + 1, 0, none⟩) 2 2, .int .i64 4, .int .i64 a2, .int .i64 0, .slice (some ⟨w6.heap.size, 0, none⟩) 1 1, .int .i64 2, .int .i64 (y4 : Int), .int .i64 0, .slice (some ⟨w8.heap.size, 0, none⟩) 1 1, .int .i64 7, .int .i64 0, .int .i64 0, .slice (some ⟨(w10.heap.size + 2), 0, none⟩) 1 1, .int .i64 8, .int .i64 0, .int .i64 0, .slice none 0 0] 46)) = z := ⟨_, rfl⟩
    have hb : Below w12.heap.size w12 w13 := by rw [← hW]; exact ((Below.refl _ _).alloc (by first | (simp; done) | (simp; omega) | omega) _)
    have aww13 : w13.heap.size = w12.heap.size + 1 := by rw [← hW]; simp
    have AWw13 := Lib.hid aww13
    clear aww13
    have Nnd := Lib.hid (show Blk w13 (w12.heap.size) 46 #[.int .i64 1, .int .i64 0, .int .i64 0, .slice (some ⟨w11.heap.size, 0, none⟩) 1 1, .int .i64 kg, .int .i64 0, .int .i64 0, .slice (some ⟨w2.heap.size + 1, 0, none⟩) 2 2, .int .i64 4, .int .i64 a2, .int .i64 0, .slice (some ⟨w6.heap.size, 0, none⟩) 1 1, .int .i64 2, .int .i64 (y4 : Int), .int .i64 0, .slice (some ⟨w8.heap.size, 0, none⟩) 1 1, .int .i64 7, .int .i64 0, .int .i64 0, .slice (some ⟨(w10.heap.size + 2), 0, none⟩) 1 1, .int .i64 8, .int .i64 0, .int .i64 0, .slice none 0 0] by rw [← hW]; exact (Blk.new _ _ _))
    have azw13 := hb.size
    have Kr_13 := Lib.hid (Kr_12.out.below hb)
    have Kx_13 := Lib.hid (Kx_12.out.below hb)
    have Kl1_13 := Lib.hid (Kl1_12.out.below hb)
    have Kgt_13 := Lib.hid (Kgt_12.out.below hb)
    have Kl2_13 := Lib.hid (Kl2_12.out.below hb)
    have Kst_13 := Lib.hid (Kst_12.out.below hb)
    have Kl3_13 := Lib.hid (Kl3_12.out.below hb)
    have Kad_13 := Lib.hid (Kad_12.out.below hb)
    have Kl4_13 := Lib.hid (Kl4_12.out.below hb)
    have Kkp_13 := Lib.hid (Kkp_12.out.below hb)
    have Kl5_13 := Lib.hid (Kl5_12.out.below hb)
    have Kbk_13 := Lib.hid (Kbk_12.out.below hb)
    have Kou_13 := Lib.hid (Kou_12.out.below hb)
    have Kl6_13 := Lib.hid (Kl6_12.out.below hb)
    have C_13 := Lib.hid (C_12.out.belowD hb)
    have G_13 := Lib.hid (grown_below G_12.out hb)
    clear Kr_12 Kx_12 Kl1_12 Kgt_12 Kl2_12 Kst_12 Kl3_12 Kad_12 Kl4_12 Kkp_12 Kl5_12 Kbk_12 Kou_12 Kl6_12 C_12 G_12
    clear hb
    have Knd_13 := Nnd
    have ltnd : w12.heap.size < w13.heap.size := Nnd.out.lt
    clear Nnd
    have xx0 : w13.cell? ⟨w2.heap.size, 0, none⟩ = some (.slice none 0 0) := by rw [Kx_13.out.cell]; rfl
    have fxx0 := Kx_13.out.frozen 0
    have xx1 : w13.cell? ⟨w2.heap.size, 1, none⟩ = some (.int .i64 wk) := by rw [Kx_13.out.cell]; rfl
    have fxx1 := Kx_13.out.frozen 1
    have xx2 : w13.cell? ⟨w2.heap.size, 2, none⟩ = some (.int .i64 cp) := by rw [Kx_13.out.cell]; rfl
    have fxx2 := Kx_13.out.frozen 2
    go_wp2_with fail
    clear hW12 xgt0 xgt1 xgt2 xgt3 xst0 xst1 xst2 xst3 xad0 xad1 xad2 xad3 xbk0 xbk1 xbk2 xbk3 xou0 xou1 xou2 xou3
    clear hW xx0 fxx0 xx1 fxx1 xx2 fxx2
    generalize hV : (w13.setCell _ _) = w14
    have azz : w14.heap.size = w13.heap.size := by rw [← hV]; simp [World.setCell]
    have Kr_14 := Lib.hid (show Blk w14 (w.heap.size) 26 #[.slice none 0 0, .int .i64 0, .int .i64 0] by rw [← hV]; exact (Kr_13.out.other (by first | (simp; done) | (simp; omega) | omega) _))
    have Kx_14 := Lib.hid (show Blk w14 (w2.heap.size) 26 #[.slice (some ⟨w12.heap.size, 0, none⟩) 6 6, .int .i64 wk, .int .i64 cp] by rw [← hV]; exact (Kx_13.out.put 0 _))
    have Kl1_14 := Lib.hid (show Blk w14 (w2.heap.size + 1) 3 #[.int .i64 2, .int .i64 5] by rw [← hV]; exact (Kl1_13.out.other (by first | (simp; done) | (simp; omega) | omega) _))
    have Kgt_14 := Lib.hid (show Blk w14 (w2.heap.size + 1 + 1) 46 #[.int .i64 kg, .int .i64 0, .int .i64 0, .slice (some ⟨w2.heap.size + 1, 0, none⟩) 2 2] by rw [← hV]; exact (Kgt_13.out.other (by first | (simp; done) | (simp; omega) | omega) _))
    have Kl2_14 := Lib.hid (show Blk w14 (w6.heap.size) 3 #[.int .i64 3] by rw [← hV]; exact (Kl2_13.out.other (by first | (simp; done) | (simp; omega) | omega) _))
    have Kst_14 := Lib.hid (show Blk w14 (w6.heap.size + 1) 46 #[.int .i64 4, .int .i64 a2, .int .i64 0, .slice (some ⟨w6.heap.size, 0, none⟩) 1 1] by rw [← hV]; exact (Kst_13.out.other (by first | (simp; done) | (simp; omega) | omega) _))
    have Kl3_14 := Lib.hid (show Blk w14 (w8.heap.size) 3 #[.int .i64 4] by rw [← hV]; exact (Kl3_13.out.other (by first | (simp; done) | (simp; omega) | omega) _))
    have Kad_14 := Lib.hid (show Blk w14 (w8.heap.size + 1) 46 #[.int .i64 2, .int .i64 (y4 : Int), .int .i64 0, .slice (some ⟨w8.heap.size, 0, none⟩) 1 1] by rw [← hV]; exact (Kad_13.out.other (by first | (simp; done) | (simp; omega) | omega) _))
    have Kl4_14 := Lib.hid (show Blk w14 (w10.heap.size) 3 #[.int .i64 4] by rw [← hV]; exact (Kl4_13.out.other (by first | (simp; done) | (simp; omega) | omega) _))
    have Kkp_14 := Lib.hid (show Blk w14 (w10.heap.size + 1) 46 #[.int .i64 3, .int .i64 a4, .int .i64 0, .slice (some ⟨w10.heap.size, 0, none⟩) 1 1] by rw [← hV]; exact (Kkp_13.out.other (by first | (simp; done) | (simp; omega) | omega) _))
    have Kl5_14 := Lib.hid (show Blk w14 (w10.heap.size + 2) 3 #[.int .i64 1] by rw [← hV]; exact (Kl5_13.out.other (by first | (simp; done) | (simp; omega) | omega) _))
    have Kbk_14 := Lib.hid (show Blk w14 (w10.heap.size + 3) 46 #[.int .i64 7, .int .i64 0, .int .i64 0, .slice (some ⟨(w10.heap.size + 2), 0, none⟩) 1 1] by rw [← hV]; exact (Kbk_13.out.other (by first | (simp; done) | (simp; omega) | omega) _))
    have Kou_14 := Lib.hid (show Blk w14 (w10.heap.size + 4) 46 #[.int .i64 8, .int .i64 0, .int .i64 0, .slice none 0 0] by rw [← hV]; exact (Kou_13.out.other (by first | (simp; done) | (simp; omega) | omega) _))
    have Kl6_14 := Lib.hid (show Blk w14 (w11.heap.size) 3 #[.int .i64 1] by rw [← hV]; exact (Kl6_13.out.other (by first | (simp; done) | (simp; omega) | omega) _))
    have Knd_14 := Lib.hid (show Blk w14 (w12.heap.size) 46 #[.int .i64 1, .int .i64 0, .int .i64 0, .slice (some ⟨w11.heap.size, 0, none⟩) 1 1, .int .i64 kg, .int .i64 0, .int .i64 0, .slice (some ⟨w2.heap.size + 1, 0, none⟩) 2 2, .int .i64 4, .int .i64 a2, .int .i64 0, .slice (some ⟨w6.heap.size, 0, none⟩) 1 1, .int .i64 2, .int .i64 (y4 : Int), .int .i64 0, .slice (some ⟨w8.heap.size, 0, none⟩) 1 1, .int .i64 7, .int .i64 0, .int .i64 0, .slice (some ⟨(w10.heap.size + 2), 0, none⟩) 1 1, .int .i64 8, .int .i64 0, .int .i64 0, .slice none 0 0] by rw [← hV]; exact (Knd_13.out.other (by first | (simp; done) | (simp; omega) | omega) _))
    have G_14 := Lib.hid (show w.grownBy w14 (some c) by rw [← hV]; exact (grown_set_new G_13.out (p := ⟨w2.heap.size, 0, none⟩) (by simp; omega) (.slice (some ⟨w12.heap.size, 0, none⟩) 6 6)))
    have C_14 := Lib.hid (HC.out.back C_13.out G_14.out (by rw [← hV]; exact (Below.heap_setCell _ _ _ c (by simp; omega))))
    clear hV Kr_13 Kx_13 Kl1_13 Kgt_13 Kl2_13 Kst_13 Kl3_13 Kad_13 Kl4_13 Kkp_13 Kl5_13 Kbk_13 Kou_13 Kl6_13 Knd_13 C_13 G_13
    have S0 := Lib.hid (show GdSt w w14 c A len cap w.heap.size w2.heap.size (some ⟨w12.heap.size, 0, none⟩) 6 6 wk cp [(1, 0, 0, some ⟨w11.heap.size, 0, none⟩, 1, 1), (kg, 0, 0, some ⟨w2.heap.size + 1, 0, none⟩, 2, 2), (4, a2, 0, some ⟨w6.heap.size, 0, none⟩, 1, 1), (2, (y4 : Int), 0, some ⟨w8.heap.size, 0, none⟩, 1, 1), (7, 0, 0, some ⟨w10.heap.size + 2, 0, none⟩, 1, 1), (8, 0, 0, none, 0, 0)] from by
      refine ⟨HC.out, Nat.le_refl _, by omega, by omega, C_14.out, G_14.out, Kr_14.out, Kx_14.out, own_blk (n := 6) Knd_14.out (by omega) (by decide) (by rfl), rfl, fun v hv => ?_⟩
      simp only [List.mem_cons, List.not_mem_nil, or_false] at hv
      rcases hv with rfl | rfl | rfl | rfl | rfl | rfl
      · exact inn_lit (n := 1) (zs := [1]) Kl6_14.out (by omega) (by omega) rfl _ _ _
      · exact inn_lit (n := 2) (zs := [2, 5]) Kl1_14.out (by omega) (by omega) rfl _ _ _
      · exact inn_lit (n := 1) (zs := [3]) Kl2_14.out (by omega) (by omega) rfl _ _ _
      · exact inn_lit (n := 1) (zs := [4]) Kl3_14.out (by omega) (by omega) rfl _ _ _
      · exact inn_lit (n := 1) (zs := [1]) Kl5_14.out (by omega) (by omega) rfl _ _ _
      · exact inn_nil _ _ _ _ _)
    clear Kr_14 Kx_14 Kl1_14 Kgt_14 Kl2_14 Kst_14 Kl3_14 Kad_14 Kl5_14 Kbk_14 Kou_14 Kl6_14 Knd_14 C_14 G_14
    refine (below_any 6 (by omega) (by omega) w14 c A len cap hlen S0.out.cur).mono ?_
    rintro e w15 ⟨y6, hy6, rfl, hcn, gn⟩
    have S1 := Lib.hid (S0.out.draw hcn gn)
    have KP := Lib.hid (Kkp_14.out.grown gn (by simp; omega))
    have KL := Lib.hid (Kl4_14.out.grown gn (by simp; omega))
    have az15 := gn.size
    have hcx := S1.out.cur.lt
    clear hcn gn Kkp_14 Kl4_14 S0
    by_cases t0 : y6 = 0
    · subst t0
      have x0 : w15.cell? ⟨w2.heap.size, 0, none⟩ = some (.slice (some ⟨w12.heap.size, 0, none⟩) 6 6) := by rw [S1.out.kx.cell]; rfl
      have x1 : w15.cell? ⟨w2.heap.size, 1, none⟩ = some (.int .i64 wk) := by rw [S1.out.kx.cell]; rfl
      have x2 : w15.cell? ⟨w2.heap.size, 2, none⟩ = some (.int .i64 cp) := by rw [S1.out.kx.cell]; rfl
      have k0 : w15.cell? ⟨w10.heap.size + 1, 0, none⟩ = some (.int .i64 3) := by rw [KP.out.cell]; rfl
      have k1 : w15.cell? ⟨w10.heap.size + 1, 1, none⟩ = some (.int .i64 a4) := by rw [KP.out.cell]; rfl
      have k2 : w15.cell? ⟨w10.heap.size + 1, 2, none⟩ = some (.int .i64 0) := by rw [KP.out.cell]; rfl
      have k3 : w15.cell? ⟨w10.heap.size + 1, 3, none⟩ = some (.slice (some ⟨w10.heap.size, 0, none⟩) 1 1) := by rw [KP.out.cell]; rfl
      obtain ⟨vn12, n12⟩ : ∃ u, w15.cell? ⟨w12.heap.size, 12, none⟩ = some u := ⟨_, by rw [S1.out.row.cellAt 12 (by omega)]; rfl⟩
      have fn12 := S1.out.row.frozenAt 12
      obtain ⟨vn13, n13⟩ : ∃ u, w15.cell? ⟨w12.heap.size, 13, none⟩ = some u := ⟨_, by rw [S1.out.row.cellAt 13 (by omega)]; rfl⟩
      have fn13 := S1.out.row.frozenAt 13
      obtain ⟨vn14, n14⟩ : ∃ u, w15.cell? ⟨w12.heap.size, 14, none⟩ = some u := ⟨_, by rw [S1.out.row.cellAt 14 (by omega)]; rfl⟩
      have fn14 := S1.out.row.frozenAt 14
      obtain ⟨vn15, n15⟩ : ∃ u, w15.cell? ⟨w12.heap.size, 15, none⟩ = some u := ⟨_, by rw [S1.out.row.cellAt 15 (by omega)]; rfl⟩
      have fn15 := S1.out.row.frozenAt 15
      go_upto_region 21 with fail
      clear x0 x1 x2 k0 k1 k2 k3 n12 fn12 n13 fn13 n14 fn14 n15 fn15
      generalize hV : (((w15.setCell _ _).setCell _ _).setCell _ _).setCell _ _ = V
      have S2 := Lib.hid (show GdSt w V c A len cap w.heap.size w2.heap.size (some ⟨w12.heap.size, 0, none⟩) 6 6 wk cp [(1, 0, 0, some ⟨w11.heap.size, 0, none⟩, 1, 1), (kg, 0, 0, some ⟨w2.heap.size + 1, 0, none⟩, 2, 2), (4, a2, 0, some ⟨w6.heap.size, 0, none⟩, 1, 1), (3, a4, 0, some ⟨w10.heap.size, 0, none⟩, 1, 1), (7, 0, 0, some ⟨w10.heap.size + 2, 0, none⟩, 1, 1), (8, 0, 0, none, 0, 0)] by rw [← hV]; exact S1.out.node 3 3 a4 0 (some ⟨w10.heap.size, 0, none⟩) 1 1 (inn_lit (n := 1) (zs := [4]) KL.out (by omega) (by omega) rfl _ _ _))
      clear hV S1
      have x0 : V.cell? ⟨w2.heap.size, 0, none⟩ = some (.slice (some ⟨w12.heap.size, 0, none⟩) 6 6) := by rw [S2.out.kx.cell]; rfl
      have x1 : V.cell? ⟨w2.heap.size, 1, none⟩ = some (.int .i64 wk) := by rw [S2.out.kx.cell]; rfl
      have x2 : V.cell? ⟨w2.heap.size, 2, none⟩ = some (.int .i64 cp) := by rw [S2.out.kx.cell]; rfl
      have y0 : V.cell? ⟨w.heap.size, 0, none⟩ = some (.slice none 0 0) := by rw [S2.out.kr.cell]; rfl
      have yf0 := S2.out.kr.frozen 0
      have y1 : V.cell? ⟨w.heap.size, 1, none⟩ = some (.int .i64 0) := by rw [S2.out.kr.cell]; rfl
      have yf1 := S2.out.kr.frozen 1
      have y2 : V.cell? ⟨w.heap.size, 2, none⟩ = some (.int .i64 0) := by rw [S2.out.kr.cell]; rfl
      have yf2 := S2.out.kr.frozen 2
      go_wp2_with fail
      generalize hWf : (((V.setCell _ _).setCell _ _).setCell _ _) = Wf
      obtain ⟨kf, of, jf, cf, gf⟩ := S2.out.fin hWf
      have e0 : Wf.cell? ⟨w.heap.size, 0, none⟩ = some (.slice (some ⟨w12.heap.size, 0, none⟩) 6 6) := by rw [kf.cell]; rfl
      have e1 : Wf.cell? ⟨w.heap.size, 1, none⟩ = some (.int .i64 wk) := by rw [kf.cell]; rfl
      have e2 : Wf.cell? ⟨w.heap.size, 2, none⟩ = some (.int .i64 cp) := by rw [kf.cell]; rfl
      exact bodyPost_ret (v := .agg #[.slice (some ⟨w12.heap.size, 0, none⟩) 6 6, .int .i64 wk, .int .i64 cp]) (by simp [results, Try.results52, go_sem, e0, e1, e2]) rfl ⟨(some ⟨w12.heap.size, 0, none⟩), 6, 6, wk, cp, _, by omega, by omega, rfl, rfl, of, jf, by simp, by simp [ob_none, ob_some, List.filterMap_cons]; omega, cf, gf⟩
    have d0 : ((y6 : Int) == 0) = false := by simp; omega
    by_cases t1 : y6 = 1
    · subst t1
      have x0 : w15.cell? ⟨w2.heap.size, 0, none⟩ = some (.slice (some ⟨w12.heap.size, 0, none⟩) 6 6) := by rw [S1.out.kx.cell]; rfl
      have x1 : w15.cell? ⟨w2.heap.size, 1, none⟩ = some (.int .i64 wk) := by rw [S1.out.kx.cell]; rfl
      have x2 : w15.cell? ⟨w2.heap.size, 2, none⟩ = some (.int .i64 cp) := by rw [S1.out.kx.cell]; rfl
      obtain ⟨vn16, n16⟩ : ∃ u, w15.cell? ⟨w12.heap.size, 16, none⟩ = some u := ⟨_, by rw [S1.out.row.cellAt 16 (by omega)]; rfl⟩
      have fn16 := S1.out.row.frozenAt 16
      obtain ⟨vn17, n17⟩ : ∃ u, w15.cell? ⟨w12.heap.size, 17, none⟩ = some u := ⟨_, by rw [S1.out.row.cellAt 17 (by omega)]; rfl⟩
      have fn17 := S1.out.row.frozenAt 17
      obtain ⟨vn18, n18⟩ : ∃ u, w15.cell? ⟨w12.heap.size, 18, none⟩ = some u := ⟨_, by rw [S1.out.row.cellAt 18 (by omega)]; rfl⟩
      have fn18 := S1.out.row.frozenAt 18
      obtain ⟨vn19, n19⟩ : ∃ u, w15.cell? ⟨w12.heap.size, 19, none⟩ = some u := ⟨_, by rw [S1.out.row.cellAt 19 (by omega)]; rfl⟩
      have fn19 := S1.out.row.frozenAt 19
      go_upto_region 21 with fail
      clear x0 x1 x2 n16 fn16 n17 fn17 n18 fn18 n19 fn19
      generalize hV : (((w15.setCell _ _).setCell _ _).setCell _ _).setCell _ _ = V
      have S2 := Lib.hid (show GdSt w V c A len cap w.heap.size w2.heap.size (some ⟨w12.heap.size, 0, none⟩) 6 6 wk cp [(1, 0, 0, some ⟨w11.heap.size, 0, none⟩, 1, 1), (kg, 0, 0, some ⟨w2.heap.size + 1, 0, none⟩, 2, 2), (4, a2, 0, some ⟨w6.heap.size, 0, none⟩, 1, 1), (2, (y4 : Int), 0, some ⟨w8.heap.size, 0, none⟩, 1, 1), (8, 0, 0, none, 0, 0), (8, 0, 0, none, 0, 0)] by rw [← hV]; exact S1.out.node 4 8 0 0 none 0 0 (inn_nil _ _ _ _ _))
      clear hV S1
      have x0 : V.cell? ⟨w2.heap.size, 0, none⟩ = some (.slice (some ⟨w12.heap.size, 0, none⟩) 6 6) := by rw [S2.out.kx.cell]; rfl
      have x1 : V.cell? ⟨w2.heap.size, 1, none⟩ = some (.int .i64 wk) := by rw [S2.out.kx.cell]; rfl
      have x2 : V.cell? ⟨w2.heap.size, 2, none⟩ = some (.int .i64 cp) := by rw [S2.out.kx.cell]; rfl
      have y0 : V.cell? ⟨w.heap.size, 0, none⟩ = some (.slice none 0 0) := by rw [S2.out.kr.cell]; rfl
      have yf0 := S2.out.kr.frozen 0
      have y1 : V.cell? ⟨w.heap.size, 1, none⟩ = some (.int .i64 0) := by rw [S2.out.kr.cell]; rfl
      have yf1 := S2.out.kr.frozen 1
      have y2 : V.cell? ⟨w.heap.size, 2, none⟩ = some (.int .i64 0) := by rw [S2.out.kr.cell]; rfl
      have yf2 := S2.out.kr.frozen 2
      go_wp2_with fail
      generalize hWf : (((V.setCell _ _).setCell _ _).setCell _ _) = Wf
      obtain ⟨kf, of, jf, cf, gf⟩ := S2.out.fin hWf
      have e0 : Wf.cell? ⟨w.heap.size, 0, none⟩ = some (.slice (some ⟨w12.heap.size, 0, none⟩) 6 6) := by rw [kf.cell]; rfl
      have e1 : Wf.cell? ⟨w.heap.size, 1, none⟩ = some (.int .i64 wk) := by rw [kf.cell]; rfl
      have e2 : Wf.cell? ⟨w.heap.size, 2, none⟩ = some (.int .i64 cp) := by rw [kf.cell]; rfl
      exact bodyPost_ret (v := .agg #[.slice (some ⟨w12.heap.size, 0, none⟩) 6 6, .int .i64 wk, .int .i64 cp]) (by simp [results, Try.results52, go_sem, e0, e1, e2]) rfl ⟨(some ⟨w12.heap.size, 0, none⟩), 6, 6, wk, cp, _, by omega, by omega, rfl, rfl, of, jf, by simp, by simp [ob_none, ob_some, List.filterMap_cons]; omega, cf, gf⟩
    have d1 : ((y6 : Int) == 1) = false := by simp; omega
    by_cases t2 : y6 = 2
    · subst t2
      have x0 : w15.cell? ⟨w2.heap.size, 0, none⟩ = some (.slice (some ⟨w12.heap.size, 0, none⟩) 6 6) := by rw [S1.out.kx.cell]; rfl
      have x1 : w15.cell? ⟨w2.heap.size, 1, none⟩ = some (.int .i64 wk) := by rw [S1.out.kx.cell]; rfl
      have x2 : w15.cell? ⟨w2.heap.size, 2, none⟩ = some (.int .i64 cp) := by rw [S1.out.kx.cell]; rfl
      obtain ⟨U, hU⟩ : ∃ z, w15.alloc (.cells #[.int .i64 3, .int .i64 4] 3) = z := ⟨_, rfl⟩
      have bU : Below w15.heap.size w15 U := by rw [← hU]; exact (Below.refl _ _).alloc (Nat.le_refl _) _
      have KU := Lib.hid (show Blk U w15.heap.size 3 #[.int .i64 3, .int .i64 4] by rw [← hU]; exact Blk.new _ _ _)
      have SU := Lib.hid (S1.out.fresh bU)
      clear bU S1
      obtain ⟨vn11, n11⟩ : ∃ u, U.cell? ⟨w12.heap.size, 11, none⟩ = some u := ⟨_, by rw [SU.out.row.cellAt 11 (by omega)]; rfl⟩
      have fn11 := SU.out.row.frozenAt 11
      go_upto_region 21 with fail
      clear x0 x1 x2 n11 fn11 hU
      generalize hV : U.setCell _ _ = V
      have S2 := Lib.hid (show GdSt w V c A len cap w.heap.size w2.heap.size (some ⟨w12.heap.size, 0, none⟩) 6 6 wk cp [(1, 0, 0, some ⟨w11.heap.size, 0, none⟩, 1, 1), (kg, 0, 0, some ⟨w2.heap.size + 1, 0, none⟩, 2, 2), (4, a2, 0, some ⟨w15.heap.size, 0, none⟩, 2, 2), (2, (y4 : Int), 0, some ⟨w8.heap.size, 0, none⟩, 1, 1), (7, 0, 0, some ⟨w10.heap.size + 2, 0, none⟩, 1, 1), (8, 0, 0, none, 0, 0)] by rw [← hV]; exact SU.out.outs (k := 2) (by simp) (some ⟨w15.heap.size, 0, none⟩) 2 2 (inn_lit (n := 2) (zs := [3, 4]) KU.out (by omega) (by omega) rfl _ _ _))
      clear hV SU
      have x0 : V.cell? ⟨w2.heap.size, 0, none⟩ = some (.slice (some ⟨w12.heap.size, 0, none⟩) 6 6) := by rw [S2.out.kx.cell]; rfl
      have x1 : V.cell? ⟨w2.heap.size, 1, none⟩ = some (.int .i64 wk) := by rw [S2.out.kx.cell]; rfl
      have x2 : V.cell? ⟨w2.heap.size, 2, none⟩ = some (.int .i64 cp) := by rw [S2.out.kx.cell]; rfl
      have y0 : V.cell? ⟨w.heap.size, 0, none⟩ = some (.slice none 0 0) := by rw [S2.out.kr.cell]; rfl
      have yf0 := S2.out.kr.frozen 0
      have y1 : V.cell? ⟨w.heap.size, 1, none⟩ = some (.int .i64 0) := by rw [S2.out.kr.cell]; rfl
      have yf1 := S2.out.kr.frozen 1
      have y2 : V.cell? ⟨w.heap.size, 2, none⟩ = some (.int .i64 0) := by rw [S2.out.kr.cell]; rfl
      have yf2 := S2.out.kr.frozen 2
      go_wp2_with fail
      generalize hWf : (((V.setCell _ _).setCell _ _).setCell _ _) = Wf
      obtain ⟨kf, of, jf, cf, gf⟩ := S2.out.fin hWf
      have e0 : Wf.cell? ⟨w.heap.size, 0, none⟩ = some (.slice (some ⟨w12.heap.size, 0, none⟩) 6 6) := by rw [kf.cell]; rfl
      have e1 : Wf.cell? ⟨w.heap.size, 1, none⟩ = some (.int .i64 wk) := by rw [kf.cell]; rfl
      have e2 : Wf.cell? ⟨w.heap.size, 2, none⟩ = some (.int .i64 cp) := by rw [kf.cell]; rfl
      exact bodyPost_ret (v := .agg #[.slice (some ⟨w12.heap.size, 0, none⟩) 6 6, .int .i64 wk, .int .i64 cp]) (by simp [results, Try.results52, go_sem, e0, e1, e2]) rfl ⟨(some ⟨w12.heap.size, 0, none⟩), 6, 6, wk, cp, _, by omega, by omega, rfl, rfl, of, jf, by simp, by simp [ob_none, ob_some, List.filterMap_cons]; omega, cf, gf⟩
    have d2 : ((y6 : Int) == 2) = false := by simp; omega
    by_cases t3 : y6 = 3
    · subst t3
      have x0 : w15.cell? ⟨w2.heap.size, 0, none⟩ = some (.slice (some ⟨w12.heap.size, 0, none⟩) 6 6) := by rw [S1.out.kx.cell]; rfl
      have x1 : w15.cell? ⟨w2.heap.size, 1, none⟩ = some (.int .i64 wk) := by rw [S1.out.kx.cell]; rfl
      have x2 : w15.cell? ⟨w2.heap.size, 2, none⟩ = some (.int .i64 cp) := by rw [S1.out.kx.cell]; rfl
      obtain ⟨U, hU⟩ : ∃ z, w15.alloc (.cells #[.int .i64 8, .int .i64 0, .int .i64 0, .slice none 0 0] 46) = z := ⟨_, rfl⟩
      have bU : Below w15.heap.size w15 U := by rw [← hU]; exact (Below.refl _ _).alloc (Nat.le_refl _) _
      have KU := Lib.hid (show Blk U w15.heap.size 46 (nvCells [(8, 0, 0, none, 0, 0)]).toArray by rw [← hU]; exact Blk.new _ _ _)
      have SU := Lib.hid (S1.out.fresh bU)
      have sU := bU.size
      clear bU S1
      go_wp2_with (at_builtin; refine wpList_append_nd rfl (.tmp 72) (.tmp 74) (by rfl) w.heap.size _ 6 [(1, 0, 0, some ⟨w11.heap.size, 0, none⟩, 1, 1), (kg, 0, 0, some ⟨w2.heap.size + 1, 0, none⟩, 2, 2), (4, a2, 0, some ⟨w6.heap.size, 0, none⟩, 1, 1), (2, (y4 : Int), 0, some ⟨w8.heap.size, 0, none⟩, 1, 1), (7, 0, 0, some ⟨w10.heap.size + 2, 0, none⟩, 1, 1), (8, 0, 0, none, 0, 0)] (by rfl) SU.out.row w15.heap.size (8, 0, 0, none, 0, 0) (by rfl) KU.out (by omega) (by omega) ?_; intro v8 w16 own8 gr8; generalize hG : wpList _ _ _ _ _ _ = G)
      obtain ⟨A7, c7, rfl, S2⟩ := SU.out.app own8 gr8 (inn_nil _ _ _ _ _)
      have kx8 := SU.out.kx.grown gr8 (Ne.symm (own_type SU.out.row SU.out.kx (by decide)))
      have z0 : w16.cell? ⟨w2.heap.size, 0, none⟩ = some (.slice (some ⟨w12.heap.size, 0, none⟩) 6 6) := by rw [kx8.cell]; rfl
      have zf0 := kx8.frozen 0
      have sz16 := gr8.size
      generalize hV : w16.setCell _ _ = V at S2
      have sV : w16.heap.size ≤ V.heap.size := by rw [← hV]; simp [World.setCell]
      have S3 := Lib.hid (show GdSt w V c A len cap w.heap.size w2.heap.size A7 7 c7 wk cp [(1, 0, 0, some ⟨w11.heap.size, 0, none⟩, 1, 1), (kg, 0, 0, some ⟨w2.heap.size + 1, 0, none⟩, 2, 2), (4, a2, 0, some ⟨w6.heap.size, 0, none⟩, 1, 1), (2, (y4 : Int), 0, some ⟨w8.heap.size, 0, none⟩, 1, 1), (7, 0, 0, some ⟨w10.heap.size + 2, 0, none⟩, 1, 1), (8, 0, 0, none, 0, 0), (8, 0, 0, none, 0, 0)] from S2)
      obtain ⟨A8, c8, he, hf⟩ := own_form S2.row
      simp only [Value.slice.injEq, true_and] at he
      obtain ⟨rfl, rfl⟩ := he
      obtain ⟨g7, rfl⟩ := hf (by omega)
      clear own8 gr8 kx8 S2 SU x0 x1 x2 hU hf
      subst hG
      go_upto_region 20 with fail
      (try rw [hV])
      clear z0 zf0 hV
      have x0 : V.cell? ⟨w2.heap.size, 0, none⟩ = some (.slice (some ⟨g7, 0, none⟩) 7 c7) := by rw [S3.out.kx.cell]; rfl
      obtain ⟨U2, hU⟩ : ∃ z, V.alloc (.cells #[.int .i64 1, .int .i64 6] 3) = z := ⟨_, rfl⟩
      have bU : Below V.heap.size V U2 := by rw [← hU]; exact (Below.refl _ _).alloc (Nat.le_refl _) _
      have KU2 := Lib.hid (show Blk U2 V.heap.size 3 #[.int .i64 1, .int .i64 6] by rw [← hU]; exact Blk.new _ _ _)
      have SU := Lib.hid (S3.out.fresh bU)
      clear bU S3
      obtain ⟨vn3, n3⟩ : ∃ u, U2.cell? ⟨g7, 3, none⟩ = some u := ⟨_, by rw [SU.out.row.cellAt 3 (by omega)]; rfl⟩
      have fn3 := SU.out.row.frozenAt 3
      go_upto_region 21 with fail
      clear x0 n3 fn3 hU
      generalize hV : U2.setCell _ _ = V2
      have S4 := Lib.hid (show GdSt w V2 c A len cap w.heap.size w2.heap.size (some ⟨g7, 0, none⟩) 7 c7 wk cp [(1, 0, 0, some ⟨V.heap.size, 0, none⟩, 2, 2), (kg, 0, 0, some ⟨w2.heap.size + 1, 0, none⟩, 2, 2), (4, a2, 0, some ⟨w6.heap.size, 0, none⟩, 1, 1), (2, (y4 : Int), 0, some ⟨w8.heap.size, 0, none⟩, 1, 1), (7, 0, 0, some ⟨w10.heap.size + 2, 0, none⟩, 1, 1), (8, 0, 0, none, 0, 0), (8, 0, 0, none, 0, 0)] by rw [← hV]; exact SU.out.outs (k := 0) (by simp) (some ⟨V.heap.size, 0, none⟩) 2 2 (inn_lit (n := 2) (zs := [1, 6]) KU2.out (by omega) (by omega) rfl _ _ _))
      clear hV SU
      have x0 : V2.cell? ⟨w2.heap.size, 0, none⟩ = some (.slice (some ⟨g7, 0, none⟩) 7 c7) := by rw [S4.out.kx.cell]; rfl
      have x1 : V2.cell? ⟨w2.heap.size, 1, none⟩ = some (.int .i64 wk) := by rw [S4.out.kx.cell]; rfl
      have x2 : V2.cell? ⟨w2.heap.size, 2, none⟩ = some (.int .i64 cp) := by rw [S4.out.kx.cell]; rfl
      have y0 : V2.cell? ⟨w.heap.size, 0, none⟩ = some (.slice none 0 0) := by rw [S4.out.kr.cell]; rfl
      have yf0 := S4.out.kr.frozen 0
      have y1 : V2.cell? ⟨w.heap.size, 1, none⟩ = some (.int .i64 0) := by rw [S4.out.kr.cell]; rfl
      have yf1 := S4.out.kr.frozen 1
      have y2 : V2.cell? ⟨w.heap.size, 2, none⟩ = some (.int .i64 0) := by rw [S4.out.kr.cell]; rfl
      have yf2 := S4.out.kr.frozen 2
      go_wp2_with fail
      generalize hWf : (((V2.setCell _ _).setCell _ _).setCell _ _) = Wf
      obtain ⟨kf, of, jf, cf, gf⟩ := S4.out.fin hWf
      have e0 : Wf.cell? ⟨w.heap.size, 0, none⟩ = some (.slice (some ⟨g7, 0, none⟩) 7 c7) := by rw [kf.cell]; rfl
      have e1 : Wf.cell? ⟨w.heap.size, 1, none⟩ = some (.int .i64 wk) := by rw [kf.cell]; rfl
      have e2 : Wf.cell? ⟨w.heap.size, 2, none⟩ = some (.int .i64 cp) := by rw [kf.cell]; rfl
      exact bodyPost_ret (v := .agg #[.slice (some ⟨g7, 0, none⟩) 7 c7, .int .i64 wk, .int .i64 cp]) (by simp [results, Try.results52, go_sem, e0, e1, e2]) rfl ⟨(some ⟨g7, 0, none⟩), 7, c7, wk, cp, _, by omega, by omega, rfl, rfl, of, jf, by simp, by simp [ob_none, ob_some, List.filterMap_cons]; omega, cf, gf⟩
    have d3 : ((y6 : Int) == 3) = false := by simp; omega
    go_upto_region 21 with fail
    have x0 : w15.cell? ⟨w2.heap.size, 0, none⟩ = some (.slice (some ⟨w12.heap.size, 0, none⟩) 6 6) := by rw [S1.out.kx.cell]; rfl
    have x1 : w15.cell? ⟨w2.heap.size, 1, none⟩ = some (.int .i64 wk) := by rw [S1.out.kx.cell]; rfl
    have x2 : w15.cell? ⟨w2.heap.size, 2, none⟩ = some (.int .i64 cp) := by rw [S1.out.kx.cell]; rfl
    have y0 : w15.cell? ⟨w.heap.size, 0, none⟩ = some (.slice none 0 0) := by rw [S1.out.kr.cell]; rfl
    have yf0 := S1.out.kr.frozen 0
    have y1 : w15.cell? ⟨w.heap.size, 1, none⟩ = some (.int .i64 0) := by rw [S1.out.kr.cell]; rfl
    have yf1 := S1.out.kr.frozen 1
    have y2 : w15.cell? ⟨w.heap.size, 2, none⟩ = some (.int .i64 0) := by rw [S1.out.kr.cell]; rfl
    have yf2 := S1.out.kr.frozen 2
    go_wp2_with fail
    generalize hWf : (((w15.setCell _ _).setCell _ _).setCell _ _) = Wf
    obtain ⟨kf, of, jf, cf, gf⟩ := S1.out.fin hWf
    have e0 : Wf.cell? ⟨w.heap.size, 0, none⟩ = some (.slice (some ⟨w12.heap.size, 0, none⟩) 6 6) := by rw [kf.cell]; rfl
    have e1 : Wf.cell? ⟨w.heap.size, 1, none⟩ = some (.int .i64 wk) := by rw [kf.cell]; rfl
    have e2 : Wf.cell? ⟨w.heap.size, 2, none⟩ = some (.int .i64 cp) := by rw [kf.cell]; rfl
    exact bodyPost_ret (v := .agg #[.slice (some ⟨w12.heap.size, 0, none⟩) 6 6, .int .i64 wk, .int .i64 cp]) (by simp [results, Try.results52, go_sem, e0, e1, e2]) rfl ⟨(some ⟨w12.heap.size, 0, none⟩), 6, 6, wk, cp, _, by omega, by omega, rfl, rfl, of, jf, by simp, by simp [ob_none, ob_some, List.filterMap_cons]; omega, cf, gf⟩
  | false =>
    go_wp2_with fail
    obtain ⟨w5, hw5⟩ : ∃ z, z = w4 := ⟨_, rfl⟩
    subst hw5
    have Kr_5 := Kr_4
    have Kx_5 := Kx_4
    have Kl1_5 := Kl1_4
    have Kgt_5 := Kgt_4
    have C_5 := C_4
    have G_5 := G_4
    clear Kr_4 Kx_4 Kl1_4 Kgt_4 C_4 G_4
    obtain ⟨kg, KG⟩ : ∃ kg : Int, Hid (Blk w5 (w2.heap.size + 1 + 1) 46 #[.int .i64 kg, .int .i64 0, .int .i64 0, .slice (some ⟨w2.heap.size + 1, 0, none⟩) 2 2]) := ⟨5, Kgt_5⟩
    clear Kgt_5
    have Kgt_5 := KG
    clear KG
    refine (below_any 3 (by omega) (by omega) w5 c A len cap hlen C_5.out).mono ?_
    rintro e w6 ⟨y3, hy3, rfl, hcn, gn⟩
    have azw6 := gn.size
    have Kr_6 := Lib.hid (Kr_5.out.grown gn (by simp; omega))
    have Kx_6 := Lib.hid (Kx_5.out.grown gn (by simp; omega))
    have Kl1_6 := Lib.hid (Kl1_5.out.grown gn (by simp; omega))
    have Kgt_6 := Lib.hid (Kgt_5.out.grown gn (by simp; omega))
    have C_6 := Lib.hid (hcn)
    have G_6 := Lib.hid (grown_trans G_5.out gn)
    clear Kr_5 Kx_5 Kl1_5 Kgt_5 C_5 G_5
    clear hcn gn
    obtain ⟨a2, hqa2⟩ : ∃ q : Int, 1 + (y3 : Int) = q := ⟨_, rfl⟩
    have bda2 : 1 ≤ a2 ∧ a2 ≤ 3 := by omega
    have mwa2 : IntKind.i64.wrap a2 = a2 := IntWalk.i64_in _ (by omega)
    go_wp2_with fail
    generalize hW : ((w6.alloc _).alloc _) = w7
    have hb : Below w6.heap.size w6 w7 := by rw [← hW]; exact (((Below.refl _ _).alloc (by first | (simp; done) | (simp; omega) | omega) _).alloc (by first | (simp; done) | (simp; omega) | omega) _)
    have aww7 : w7.heap.size = w6.heap.size + 2 := by rw [← hW]; simp
    have AWw7 := Lib.hid aww7
    clear aww7
    have Nl2 := Lib.hid (show Blk w7 (w6.heap.size) 3 #[.int .i64 3] by rw [← hW]; exact ((Below.heap_alloc _ _ _ (by first | (simp; done) | (simp; omega))).trans (Blk.new _ _ _)))
    have Nst := Lib.hid (show Blk w7 (w6.heap.size + 1) 46 #[.int .i64 4, .int .i64 a2, .int .i64 0, .slice (some ⟨w6.heap.size, 0, none⟩) 1 1] by rw [← hW]; exact ((show w6.heap.size + 1 = ((w6.alloc _)).heap.size by simp) ▸ Blk.new _ _ _))
    clear hW
    have azw7 := hb.size
    have Kr_7 := Lib.hid (Kr_6.out.below hb)
    have Kx_7 := Lib.hid (Kx_6.out.below hb)
    have Kl1_7 := Lib.hid (Kl1_6.out.below hb)
    have Kgt_7 := Lib.hid (Kgt_6.out.below hb)
    have C_7 := Lib.hid (C_6.out.belowD hb)
    have G_7 := Lib.hid (grown_below G_6.out hb)
    clear Kr_6 Kx_6 Kl1_6 Kgt_6 C_6 G_6
    clear hb
    have Kl2_7 := Nl2
    have ltl2 : w6.heap.size < w7.heap.size := Nl2.out.lt
    clear Nl2
    have Kst_7 := Nst
    have ltst : w6.heap.size + 1 < w7.heap.size := Nst.out.lt
    clear Nst
    refine (below_any 4 (by omega) (by omega) w7 c A len cap hlen C_7.out).mono ?_
    rintro e w8 ⟨y4, hy4, rfl, hcn, gn⟩
    have azw8 := gn.size
    have Kr_8 := Lib.hid (Kr_7.out.grown gn (by simp; omega))
    have Kx_8 := Lib.hid (Kx_7.out.grown gn (by simp; omega))
    have Kl1_8 := Lib.hid (Kl1_7.out.grown gn (by simp; omega))
    have Kgt_8 := Lib.hid (Kgt_7.out.grown gn (by simp; omega))
    have Kl2_8 := Lib.hid (Kl2_7.out.grown gn (by simp; omega))
    have Kst_8 := Lib.hid (Kst_7.out.grown gn (by simp; omega))
    have C_8 := Lib.hid (hcn)
    have G_8 := Lib.hid (grown_trans G_7.out gn)
    clear Kr_7 Kx_7 Kl1_7 Kgt_7 Kl2_7 Kst_7 C_7 G_7
    clear hcn gn
    go_wp2_with fail
    generalize hW : ((w8.alloc _).alloc _) = w9
    have hb : Below w8.heap.size w8 w9 := by rw [← hW]; exact (((Below.refl _ _).alloc (by first | (simp; done) | (simp; omega) | omega) _).alloc (by first | (simp; done) | (simp; omega) | omega) _)
    have aww9 : w9.heap.size = w8.heap.size + 2 := by rw [← hW]; simp
    have AWw9 := Lib.hid aww9
    clear aww9
    have Nl3 := Lib.hid (show Blk w9 (w8.heap.size) 3 #[.int .i64 4] by rw [← hW]; exact ((Below.heap_alloc _ _ _ (by first | (simp; done) | (simp; omega))).trans (Blk.new _ _ _)))
    have Nad := Lib.hid (show Blk w9 (w8.heap.size + 1) 46 #[.int .i64 2, .int .i64 (y4 : Int), .int .i64 0, .slice (some ⟨w8.heap.size, 0, none⟩) 1 1] by rw [← hW]; exact ((show w8.heap.size + 1 = ((w8.alloc _)).heap.size by simp) ▸ Blk.new _ _ _))
    clear hW
    have azw9 := hb.size
    have Kr_9 := Lib.hid (Kr_8.out.below hb)
    have Kx_9 := Lib.hid (Kx_8.out.below hb)
    have Kl1_9 := Lib.hid (Kl1_8.out.below hb)
    have Kgt_9 := Lib.hid (Kgt_8.out.below hb)
    have Kl2_9 := Lib.hid (Kl2_8.out.below hb)
    have Kst_9 := Lib.hid (Kst_8.out.below hb)
    have C_9 := Lib.hid (C_8.out.belowD hb)
    have G_9 := Lib.hid (grown_below G_8.out hb)
    clear Kr_8 Kx_8 Kl1_8 Kgt_8 Kl2_8 Kst_8 C_8 G_8
    clear hb
    have Kl3_9 := Nl3
    have ltl3 : w8.heap.size < w9.heap.size := Nl3.out.lt
    clear Nl3
    have Kad_9 := Nad
    have ltad : w8.heap.size + 1 < w9.heap.size := Nad.out.lt
    clear Nad
    refine (below_any 3 (by omega) (by omega) w9 c A len cap hlen C_9.out).mono ?_
    rintro e w10 ⟨y5, hy5, rfl, hcn, gn⟩
    have azw10 := gn.size
    have Kr_10 := Lib.hid (Kr_9.out.grown gn (by simp; omega))
    have Kx_10 := Lib.hid (Kx_9.out.grown gn (by simp; omega))
    have Kl1_10 := Lib.hid (Kl1_9.out.grown gn (by simp; omega))
    have Kgt_10 := Lib.hid (Kgt_9.out.grown gn (by simp; omega))
    have Kl2_10 := Lib.hid (Kl2_9.out.grown gn (by simp; omega))
    have Kst_10 := Lib.hid (Kst_9.out.grown gn (by simp; omega))
    have Kl3_10 := Lib.hid (Kl3_9.out.grown gn (by simp; omega))
    have Kad_10 := Lib.hid (Kad_9.out.grown gn (by simp; omega))
    have C_10 := Lib.hid (hcn)
    have G_10 := Lib.hid (grown_trans G_9.out gn)
    clear Kr_9 Kx_9 Kl1_9 Kgt_9 Kl2_9 Kst_9 Kl3_9 Kad_9 C_9 G_9
    clear hcn gn
    obtain ⟨a4, hqa4⟩ : ∃ q : Int, 1 + (y5 : Int) = q := ⟨_, rfl⟩
    have bda4 : 1 ≤ a4 ∧ a4 ≤ 3 := by omega
    have mwa4 : IntKind.i64.wrap a4 = a4 := IntWalk.i64_in _ (by omega)
    go_upto_region 10 with fail
    generalize hW : (((((w10.alloc _).alloc _).alloc _).alloc _).alloc _) = w11
    have hb : Below w10.heap.size w10 w11 := by rw [← hW]; exact ((((((Below.refl _ _).alloc (by first | (simp; done) | (simp; omega) | omega) _).alloc (by first | (simp; done) | (simp; omega) | omega) _).alloc (by first | (simp; done) | (simp; omega) | omega) _).alloc (by first | (simp; done) | (simp; omega) | omega) _).alloc (by first | (simp; done) | (simp; omega) | omega) _)
    have aww11 : w11.heap.size = w10.heap.size + 5 := by rw [← hW]; simp
    have AWw11 := Lib.hid aww11
    clear aww11
    have Nl4 := Lib.hid (show Blk w11 (w10.heap.size) 3 #[.int .i64 4] by rw [← hW]; exact ((Below.heap_alloc _ _ _ (by first | (simp; done) | (simp; omega))).trans ((Below.heap_alloc _ _ _ (by first | (simp; done) | (simp; omega))).trans ((Below.heap_alloc _ _ _ (by first | (simp; done) | (simp; omega))).trans ((Below.heap_alloc _ _ _ (by first | (simp; done) | (simp; omega))).trans (Blk.new _ _ _))))))
    have Nkp := Lib.hid (show Blk w11 (w10.heap.size + 1) 46 #[.int .i64 3, .int .i64 a4, .int .i64 0, .slice (some ⟨w10.heap.size, 0, none⟩) 1 1] by rw [← hW]; exact ((Below.heap_alloc _ _ _ (by first | (simp; done) | (simp; omega))).trans ((Below.heap_alloc _ _ _ (by first | (simp; done) | (simp; omega))).trans ((Below.heap_alloc _ _ _ (by first | (simp; done) | (simp; omega))).trans ((show w10.heap.size + 1 = ((w10.alloc _)).heap.size by simp) ▸ Blk.new _ _ _)))))
    have Nl5 := Lib.hid (show Blk w11 (w10.heap.size + 2) 3 #[.int .i64 1] by rw [← hW]; exact ((Below.heap_alloc _ _ _ (by first | (simp; done) | (simp; omega))).trans ((Below.heap_alloc _ _ _ (by first | (simp; done) | (simp; omega))).trans ((show w10.heap.size + 2 = (((w10.alloc _).alloc _)).heap.size by simp) ▸ Blk.new _ _ _))))
    have Nbk := Lib.hid (show Blk w11 (w10.heap.size + 3) 46 #[.int .i64 7, .int .i64 0, .int .i64 0, .slice (some ⟨(w10.heap.size + 2), 0, none⟩) 1 1] by rw [← hW]; exact ((Below.heap_alloc _ _ _ (by first | (simp; done) | (simp; omega))).trans ((show w10.heap.size + 3 = ((((w10.alloc _).alloc _).alloc _)).heap.size by simp) ▸ Blk.new _ _ _)))
    have Nou := Lib.hid (show Blk w11 (w10.heap.size + 4) 46 #[.int .i64 8, .int .i64 0, .int .i64 0, .slice none 0 0] by rw [← hW]; exact ((show w10.heap.size + 4 = (((((w10.alloc _).alloc _).alloc _).alloc _)).heap.size by simp) ▸ Blk.new _ _ _))
    clear hW
    have azw11 := hb.size
    have Kr_11 := Lib.hid (Kr_10.out.below hb)
    have Kx_11 := Lib.hid (Kx_10.out.below hb)
    have Kl1_11 := Lib.hid (Kl1_10.out.below hb)
    have Kgt_11 := Lib.hid (Kgt_10.out.below hb)
    have Kl2_11 := Lib.hid (Kl2_10.out.below hb)
    have Kst_11 := Lib.hid (Kst_10.out.below hb)
    have Kl3_11 := Lib.hid (Kl3_10.out.below hb)
    have Kad_11 := Lib.hid (Kad_10.out.below hb)
    have C_11 := Lib.hid (C_10.out.belowD hb)
    have G_11 := Lib.hid (grown_below G_10.out hb)
    clear Kr_10 Kx_10 Kl1_10 Kgt_10 Kl2_10 Kst_10 Kl3_10 Kad_10 C_10 G_10
    clear hb
    have Kl4_11 := Nl4
    have ltl4 : w10.heap.size < w11.heap.size := Nl4.out.lt
    clear Nl4
    have Kkp_11 := Nkp
    have ltkp : w10.heap.size + 1 < w11.heap.size := Nkp.out.lt
    clear Nkp
    have Kl5_11 := Nl5
    have ltl5 : w10.heap.size + 2 < w11.heap.size := Nl5.out.lt
    clear Nl5
    have Kbk_11 := Nbk
    have ltbk : w10.heap.size + 3 < w11.heap.size := Nbk.out.lt
    clear Nbk
    have Kou_11 := Nou
    have ltou : w10.heap.size + 4 < w11.heap.size := Nou.out.lt
    clear Nou
    obtain ⟨w12, hW⟩ : ∃ z, (w11.alloc (.cells #[.int .i64 1] 3)) = z := ⟨_, rfl⟩
    have hb : Below w11.heap.size w11 w12 := by rw [← hW]; exact ((Below.refl _ _).alloc (by first | (simp; done) | (simp; omega) | omega) _)
    have aww12 : w12.heap.size = w11.heap.size + 1 := by rw [← hW]; simp
    have AWw12 := Lib.hid aww12
    clear aww12
    have Nl6 := Lib.hid (show Blk w12 (w11.heap.size) 3 #[.int .i64 1] by rw [← hW]; exact (Blk.new _ _ _))
    have azw12 := hb.size
    have Kr_12 := Lib.hid (Kr_11.out.below hb)
    have Kx_12 := Lib.hid (Kx_11.out.below hb)
    have Kl1_12 := Lib.hid (Kl1_11.out.below hb)
    have Kgt_12 := Lib.hid (Kgt_11.out.below hb)
    have Kl2_12 := Lib.hid (Kl2_11.out.below hb)
    have Kst_12 := Lib.hid (Kst_11.out.below hb)
    have Kl3_12 := Lib.hid (Kl3_11.out.below hb)
    have Kad_12 := Lib.hid (Kad_11.out.below hb)
    have Kl4_12 := Lib.hid (Kl4_11.out.below hb)
    have Kkp_12 := Lib.hid (Kkp_11.out.below hb)
    have Kl5_12 := Lib.hid (Kl5_11.out.below hb)
    have Kbk_12 := Lib.hid (Kbk_11.out.below hb)
    have Kou_12 := Lib.hid (Kou_11.out.below hb)
    have C_12 := Lib.hid (C_11.out.belowD hb)
    have G_12 := Lib.hid (grown_below G_11.out hb)
    clear Kr_11 Kx_11 Kl1_11 Kgt_11 Kl2_11 Kst_11 Kl3_11 Kad_11 Kl4_11 Kkp_11 Kl5_11 Kbk_11 Kou_11 C_11 G_11
    clear hb
    have Kl6_12 := Nl6
    have ltl6 : w11.heap.size < w12.heap.size := Nl6.out.lt
    clear Nl6
    have hW12 := hW
    clear hW
    have xgt0 : w12.cell? ⟨w2.heap.size + 1 + 1, 0, none⟩ = some (.int .i64 kg) := by rw [Kgt_12.out.cell]; rfl
    have xgt1 : w12.cell? ⟨w2.heap.size + 1 + 1, 1, none⟩ = some (.int .i64 0) := by rw [Kgt_12.out.cell]; rfl
    have xgt2 : w12.cell? ⟨w2.heap.size + 1 + 1, 2, none⟩ = some (.int .i64 0) := by rw [Kgt_12.out.cell]; rfl
    have xgt3 : w12.cell? ⟨w2.heap.size + 1 + 1, 3, none⟩ = some (.slice (some ⟨w2.heap.size + 1, 0, none⟩) 2 2) := by rw [Kgt_12.out.cell]; rfl
    have xst0 : w12.cell? ⟨w6.heap.size + 1, 0, none⟩ = some (.int .i64 4) := by rw [Kst_12.out.cell]; rfl
    have xst1 : w12.cell? ⟨w6.heap.size + 1, 1, none⟩ = some (.int .i64 a2) := by rw [Kst_12.out.cell]; rfl
    have xst2 : w12.cell? ⟨w6.heap.size + 1, 2, none⟩ = some (.int .i64 0) := by rw [Kst_12.out.cell]; rfl
    have xst3 : w12.cell? ⟨w6.heap.size + 1, 3, none⟩ = some (.slice (some ⟨w6.heap.size, 0, none⟩) 1 1) := by rw [Kst_12.out.cell]; rfl
    have xad0 : w12.cell? ⟨w8.heap.size + 1, 0, none⟩ = some (.int .i64 2) := by rw [Kad_12.out.cell]; rfl
    have xad1 : w12.cell? ⟨w8.heap.size + 1, 1, none⟩ = some (.int .i64 (y4 : Int)) := by rw [Kad_12.out.cell]; rfl
    have xad2 : w12.cell? ⟨w8.heap.size + 1, 2, none⟩ = some (.int .i64 0) := by rw [Kad_12.out.cell]; rfl
    have xad3 : w12.cell? ⟨w8.heap.size + 1, 3, none⟩ = some (.slice (some ⟨w8.heap.size, 0, none⟩) 1 1) := by rw [Kad_12.out.cell]; rfl
    have xbk0 : w12.cell? ⟨w10.heap.size + 3, 0, none⟩ = some (.int .i64 7) := by rw [Kbk_12.out.cell]; rfl
    have xbk1 : w12.cell? ⟨w10.heap.size + 3, 1, none⟩ = some (.int .i64 0) := by rw [Kbk_12.out.cell]; rfl
    have xbk2 : w12.cell? ⟨w10.heap.size + 3, 2, none⟩ = some (.int .i64 0) := by rw [Kbk_12.out.cell]; rfl
    have xbk3 : w12.cell? ⟨w10.heap.size + 3, 3, none⟩ = some (.slice (some ⟨(w10.heap.size + 2), 0, none⟩) 1 1) := by rw [Kbk_12.out.cell]; rfl
    have xou0 : w12.cell? ⟨w10.heap.size + 4, 0, none⟩ = some (.int .i64 8) := by rw [Kou_12.out.cell]; rfl
    have xou1 : w12.cell? ⟨w10.heap.size + 4, 1, none⟩ = some (.int .i64 0) := by rw [Kou_12.out.cell]; rfl
    have xou2 : w12.cell? ⟨w10.heap.size + 4, 2, none⟩ = some (.int .i64 0) := by rw [Kou_12.out.cell]; rfl
    have xou3 : w12.cell? ⟨w10.heap.size + 4, 3, none⟩ = some (.slice none 0 0) := by rw [Kou_12.out.cell]; rfl
    obtain ⟨w13, hW⟩ : ∃ z, (w12.alloc (.cells #[.int .i64 1, .int .i64 0, .int .i64 0, .slice (some ⟨w11.heap.size, 0, none⟩) 1 1, .int .i64 kg, .int .i64 0, .int .i64 0, .slice (some ⟨w2.heap.size + 1, 0, none⟩) 2 2, .int .i64 4, .int .i64 a2, .int .i64 0, .slice (some ⟨w6.heap.size, 0, none⟩) 1 1, .int .i64 2, .int .i64 (y4 : Int), .int .i64 0, .slice (some ⟨w8.heap.size, 0, none⟩) 1 1, .int .i64 7, .int .i64 0, .int .i64 0, .slice (some ⟨(w10.heap.size + 2), 0, none⟩) 1 1, .int .i64 8, .int .i64 0, .int .i64 0, .slice none 0 0] 46)) = z := ⟨_, rfl⟩
    have hb : Below w12.heap.size w12 w13 := by rw [← hW]; exact ((Below.refl _ _).alloc (by first | (simp; done) | (simp; omega) | omega) _)
    have aww13 : w13.heap.size = w12.heap.size + 1 := by rw [← hW]; simp
    have AWw13 := Lib.hid aww13
    clear aww13
    have Nnd := Lib.hid (show Blk w13 (w12.heap.size) 46 #[.int .i64 1, .int .i64 0, .int .i64 0, .slice (some ⟨w11.heap.size, 0, none⟩) 1 1, .int .i64 kg, .int .i64 0, .int .i64 0, .slice (some ⟨w2.heap.size + 1, 0, none⟩) 2 2, .int .i64 4, .int .i64 a2, .int .i64 0, .slice (some ⟨w6.heap.size, 0, none⟩) 1 1, .int .i64 2, .int .i64 (y4 : Int), .int .i64 0, .slice (some ⟨w8.heap.size, 0, none⟩) 1 1, .int .i64 7, .int .i64 0, .int .i64 0, .slice (some ⟨(w10.heap.size + 2), 0, none⟩) 1 1, .int .i64 8, .int .i64 0, .int .i64 0, .slice none 0 0] by rw [← hW]; exact (Blk.new _ _ _))
    have azw13 := hb.size
    have Kr_13 := Lib.hid (Kr_12.out.below hb)
    have Kx_13 := Lib.hid (Kx_12.out.below hb)
    have Kl1_13 := Lib.hid (Kl1_12.out.below hb)
    have Kgt_13 := Lib.hid (Kgt_12.out.below hb)
    have Kl2_13 := Lib.hid (Kl2_12.out.below hb)
    have Kst_13 := Lib.hid (Kst_12.out.below hb)
    have Kl3_13 := Lib.hid (Kl3_12.out.below hb)
    have Kad_13 := Lib.hid (Kad_12.out.below hb)
    have Kl4_13 := Lib.hid (Kl4_12.out.below hb)
    have Kkp_13 := Lib.hid (Kkp_12.out.below hb)
    have Kl5_13 := Lib.hid (Kl5_12.out.below hb)
    have Kbk_13 := Lib.hid (Kbk_12.out.below hb)
    have Kou_13 := Lib.hid (Kou_12.out.below hb)
    have Kl6_13 := Lib.hid (Kl6_12.out.below hb)
    have C_13 := Lib.hid (C_12.out.belowD hb)
    have G_13 := Lib.hid (grown_below G_12.out hb)
    clear Kr_12 Kx_12 Kl1_12 Kgt_12 Kl2_12 Kst_12 Kl3_12 Kad_12 Kl4_12 Kkp_12 Kl5_12 Kbk_12 Kou_12 Kl6_12 C_12 G_12
    clear hb
    have Knd_13 := Nnd
    have ltnd : w12.heap.size < w13.heap.size := Nnd.out.lt
    clear Nnd
    have xx0 : w13.cell? ⟨w2.heap.size, 0, none⟩ = some (.slice none 0 0) := by rw [Kx_13.out.cell]; rfl
    have fxx0 := Kx_13.out.frozen 0
    have xx1 : w13.cell? ⟨w2.heap.size, 1, none⟩ = some (.int .i64 wk) := by rw [Kx_13.out.cell]; rfl
    have fxx1 := Kx_13.out.frozen 1
    have xx2 : w13.cell? ⟨w2.heap.size, 2, none⟩ = some (.int .i64 cp) := by rw [Kx_13.out.cell]; rfl
    have fxx2 := Kx_13.out.frozen 2
    go_wp2_with fail
    clear hW12 xgt0 xgt1 xgt2 xgt3 xst0 xst1 xst2 xst3 xad0 xad1 xad2 xad3 xbk0 xbk1 xbk2 xbk3 xou0 xou1 xou2 xou3
    clear hW xx0 fxx0 xx1 fxx1 xx2 fxx2
    generalize hV : (w13.setCell _ _) = w14
    have azz : w14.heap.size = w13.heap.size := by rw [← hV]; simp [World.setCell]
    have Kr_14 := Lib.hid (show Blk w14 (w.heap.size) 26 #[.slice none 0 0, .int .i64 0, .int .i64 0] by rw [← hV]; exact (Kr_13.out.other (by first | (simp; done) | (simp; omega) | omega) _))
    have Kx_14 := Lib.hid (show Blk w14 (w2.heap.size) 26 #[.slice (some ⟨w12.heap.size, 0, none⟩) 6 6, .int .i64 wk, .int .i64 cp] by rw [← hV]; exact (Kx_13.out.put 0 _))
    have Kl1_14 := Lib.hid (show Blk w14 (w2.heap.size + 1) 3 #[.int .i64 2, .int .i64 5] by rw [← hV]; exact (Kl1_13.out.other (by first | (simp; done) | (simp; omega) | omega) _))
    have Kgt_14 := Lib.hid (show Blk w14 (w2.heap.size + 1 + 1) 46 #[.int .i64 kg, .int .i64 0, .int .i64 0, .slice (some ⟨w2.heap.size + 1, 0, none⟩) 2 2] by rw [← hV]; exact (Kgt_13.out.other (by first | (simp; done) | (simp; omega) | omega) _))
    have Kl2_14 := Lib.hid (show Blk w14 (w6.heap.size) 3 #[.int .i64 3] by rw [← hV]; exact (Kl2_13.out.other (by first | (simp; done) | (simp; omega) | omega) _))
    have Kst_14 := Lib.hid (show Blk w14 (w6.heap.size + 1) 46 #[.int .i64 4, .int .i64 a2, .int .i64 0, .slice (some ⟨w6.heap.size, 0, none⟩) 1 1] by rw [← hV]; exact (Kst_13.out.other (by first | (simp; done) | (simp; omega) | omega) _))
    have Kl3_14 := Lib.hid (show Blk w14 (w8.heap.size) 3 #[.int .i64 4] by rw [← hV]; exact (Kl3_13.out.other (by first | (simp; done) | (simp; omega) | omega) _))
    have Kad_14 := Lib.hid (show Blk w14 (w8.heap.size + 1) 46 #[.int .i64 2, .int .i64 (y4 : Int), .int .i64 0, .slice (some ⟨w8.heap.size, 0, none⟩) 1 1] by rw [← hV]; exact (Kad_13.out.other (by first | (simp; done) | (simp; omega) | omega) _))
    have Kl4_14 := Lib.hid (show Blk w14 (w10.heap.size) 3 #[.int .i64 4] by rw [← hV]; exact (Kl4_13.out.other (by first | (simp; done) | (simp; omega) | omega) _))
    have Kkp_14 := Lib.hid (show Blk w14 (w10.heap.size + 1) 46 #[.int .i64 3, .int .i64 a4, .int .i64 0, .slice (some ⟨w10.heap.size, 0, none⟩) 1 1] by rw [← hV]; exact (Kkp_13.out.other (by first | (simp; done) | (simp; omega) | omega) _))
    have Kl5_14 := Lib.hid (show Blk w14 (w10.heap.size + 2) 3 #[.int .i64 1] by rw [← hV]; exact (Kl5_13.out.other (by first | (simp; done) | (simp; omega) | omega) _))
    have Kbk_14 := Lib.hid (show Blk w14 (w10.heap.size + 3) 46 #[.int .i64 7, .int .i64 0, .int .i64 0, .slice (some ⟨(w10.heap.size + 2), 0, none⟩) 1 1] by rw [← hV]; exact (Kbk_13.out.other (by first | (simp; done) | (simp; omega) | omega) _))
    have Kou_14 := Lib.hid (show Blk w14 (w10.heap.size + 4) 46 #[.int .i64 8, .int .i64 0, .int .i64 0, .slice none 0 0] by rw [← hV]; exact (Kou_13.out.other (by first | (simp; done) | (simp; omega) | omega) _))
    have Kl6_14 := Lib.hid (show Blk w14 (w11.heap.size) 3 #[.int .i64 1] by rw [← hV]; exact (Kl6_13.out.other (by first | (simp; done) | (simp; omega) | omega) _))
    have Knd_14 := Lib.hid (show Blk w14 (w12.heap.size) 46 #[.int .i64 1, .int .i64 0, .int .i64 0, .slice (some ⟨w11.heap.size, 0, none⟩) 1 1, .int .i64 kg, .int .i64 0, .int .i64 0, .slice (some ⟨w2.heap.size + 1, 0, none⟩) 2 2, .int .i64 4, .int .i64 a2, .int .i64 0, .slice (some ⟨w6.heap.size, 0, none⟩) 1 1, .int .i64 2, .int .i64 (y4 : Int), .int .i64 0, .slice (some ⟨w8.heap.size, 0, none⟩) 1 1, .int .i64 7, .int .i64 0, .int .i64 0, .slice (some ⟨(w10.heap.size + 2), 0, none⟩) 1 1, .int .i64 8, .int .i64 0, .int .i64 0, .slice none 0 0] by rw [← hV]; exact (Knd_13.out.other (by first | (simp; done) | (simp; omega) | omega) _))
    have G_14 := Lib.hid (show w.grownBy w14 (some c) by rw [← hV]; exact (grown_set_new G_13.out (p := ⟨w2.heap.size, 0, none⟩) (by simp; omega) (.slice (some ⟨w12.heap.size, 0, none⟩) 6 6)))
    have C_14 := Lib.hid (HC.out.back C_13.out G_14.out (by rw [← hV]; exact (Below.heap_setCell _ _ _ c (by simp; omega))))
    clear hV Kr_13 Kx_13 Kl1_13 Kgt_13 Kl2_13 Kst_13 Kl3_13 Kad_13 Kl4_13 Kkp_13 Kl5_13 Kbk_13 Kou_13 Kl6_13 Knd_13 C_13 G_13
    have S0 := Lib.hid (show GdSt w w14 c A len cap w.heap.size w2.heap.size (some ⟨w12.heap.size, 0, none⟩) 6 6 wk cp [(1, 0, 0, some ⟨w11.heap.size, 0, none⟩, 1, 1), (kg, 0, 0, some ⟨w2.heap.size + 1, 0, none⟩, 2, 2), (4, a2, 0, some ⟨w6.heap.size, 0, none⟩, 1, 1), (2, (y4 : Int), 0, some ⟨w8.heap.size, 0, none⟩, 1, 1), (7, 0, 0, some ⟨w10.heap.size + 2, 0, none⟩, 1, 1), (8, 0, 0, none, 0, 0)] from by
      refine ⟨HC.out, Nat.le_refl _, by omega, by omega, C_14.out, G_14.out, Kr_14.out, Kx_14.out, own_blk (n := 6) Knd_14.out (by omega) (by decide) (by rfl), rfl, fun v hv => ?_⟩
      simp only [List.mem_cons, List.not_mem_nil, or_false] at hv
      rcases hv with rfl | rfl | rfl | rfl | rfl | rfl
      · exact inn_lit (n := 1) (zs := [1]) Kl6_14.out (by omega) (by omega) rfl _ _ _
      · exact inn_lit (n := 2) (zs := [2, 5]) Kl1_14.out (by omega) (by omega) rfl _ _ _
      · exact inn_lit (n := 1) (zs := [3]) Kl2_14.out (by omega) (by omega) rfl _ _ _
      · exact inn_lit (n := 1) (zs := [4]) Kl3_14.out (by omega) (by omega) rfl _ _ _
      · exact inn_lit (n := 1) (zs := [1]) Kl5_14.out (by omega) (by omega) rfl _ _ _
      · exact inn_nil _ _ _ _ _)
    clear Kr_14 Kx_14 Kl1_14 Kgt_14 Kl2_14 Kst_14 Kl3_14 Kad_14 Kl5_14 Kbk_14 Kou_14 Kl6_14 Knd_14 C_14 G_14
    refine (below_any 6 (by omega) (by omega) w14 c A len cap hlen S0.out.cur).mono ?_
    rintro e w15 ⟨y6, hy6, rfl, hcn, gn⟩
    have S1 := Lib.hid (S0.out.draw hcn gn)
    have KP := Lib.hid (Kkp_14.out.grown gn (by simp; omega))
    have KL := Lib.hid (Kl4_14.out.grown gn (by simp; omega))
    have az15 := gn.size
    have hcx := S1.out.cur.lt
    clear hcn gn Kkp_14 Kl4_14 S0
    by_cases t0 : y6 = 0
    · subst t0
      have x0 : w15.cell? ⟨w2.heap.size, 0, none⟩ = some (.slice (some ⟨w12.heap.size, 0, none⟩) 6 6) := by rw [S1.out.kx.cell]; rfl
      have x1 : w15.cell? ⟨w2.heap.size, 1, none⟩ = some (.int .i64 wk) := by rw [S1.out.kx.cell]; rfl
      have x2 : w15.cell? ⟨w2.heap.size, 2, none⟩ = some (.int .i64 cp) := by rw [S1.out.kx.cell]; rfl
      have k0 : w15.cell? ⟨w10.heap.size + 1, 0, none⟩ = some (.int .i64 3) := by rw [KP.out.cell]; rfl
      have k1 : w15.cell? ⟨w10.heap.size + 1, 1, none⟩ = some (.int .i64 a4) := by rw [KP.out.cell]; rfl
      have k2 : w15.cell? ⟨w10.heap.size + 1, 2, none⟩ = some (.int .i64 0) := by rw [KP.out.cell]; rfl
      have k3 : w15.cell? ⟨w10.heap.size + 1, 3, none⟩ = some (.slice (some ⟨w10.heap.size, 0, none⟩) 1 1) := by rw [KP.out.cell]; rfl
      obtain ⟨vn12, n12⟩ : ∃ u, w15.cell? ⟨w12.heap.size, 12, none⟩ = some u := ⟨_, by rw [S1.out.row.cellAt 12 (by omega)]; rfl⟩
      have fn12 := S1.out.row.frozenAt 12
      obtain ⟨vn13, n13⟩ : ∃ u, w15.cell? ⟨w12.heap.size, 13, none⟩ = some u := ⟨_, by rw [S1.out.row.cellAt 13 (by omega)]; rfl⟩
      have fn13 := S1.out.row.frozenAt 13
      obtain ⟨vn14, n14⟩ : ∃ u, w15.cell? ⟨w12.heap.size, 14, none⟩ = some u := ⟨_, by rw [S1.out.row.cellAt 14 (by omega)]; rfl⟩
      have fn14 := S1.out.row.frozenAt 14
      obtain ⟨vn15, n15⟩ : ∃ u, w15.cell? ⟨w12.heap.size, 15, none⟩ = some u := ⟨_, by rw [S1.out.row.cellAt 15 (by omega)]; rfl⟩
      have fn15 := S1.out.row.frozenAt 15
      go_upto_region 21 with fail
      clear x0 x1 x2 k0 k1 k2 k3 n12 fn12 n13 fn13 n14 fn14 n15 fn15
      generalize hV : (((w15.setCell _ _).setCell _ _).setCell _ _).setCell _ _ = V
      have S2 := Lib.hid (show GdSt w V c A len cap w.heap.size w2.heap.size (some ⟨w12.heap.size, 0, none⟩) 6 6 wk cp [(1, 0, 0, some ⟨w11.heap.size, 0, none⟩, 1, 1), (kg, 0, 0, some ⟨w2.heap.size + 1, 0, none⟩, 2, 2), (4, a2, 0, some ⟨w6.heap.size, 0, none⟩, 1, 1), (3, a4, 0, some ⟨w10.heap.size, 0, none⟩, 1, 1), (7, 0, 0, some ⟨w10.heap.size + 2, 0, none⟩, 1, 1), (8, 0, 0, none, 0, 0)] by rw [← hV]; exact S1.out.node 3 3 a4 0 (some ⟨w10.heap.size, 0, none⟩) 1 1 (inn_lit (n := 1) (zs := [4]) KL.out (by omega) (by omega) rfl _ _ _))
      clear hV S1
      have x0 : V.cell? ⟨w2.heap.size, 0, none⟩ = some (.slice (some ⟨w12.heap.size, 0, none⟩) 6 6) := by rw [S2.out.kx.cell]; rfl
      have x1 : V.cell? ⟨w2.heap.size, 1, none⟩ = some (.int .i64 wk) := by rw [S2.out.kx.cell]; rfl
      have x2 : V.cell? ⟨w2.heap.size, 2, none⟩ = some (.int .i64 cp) := by rw [S2.out.kx.cell]; rfl
      have y0 : V.cell? ⟨w.heap.size, 0, none⟩ = some (.slice none 0 0) := by rw [S2.out.kr.cell]; rfl
      have yf0 := S2.out.kr.frozen 0
      have y1 : V.cell? ⟨w.heap.size, 1, none⟩ = some (.int .i64 0) := by rw [S2.out.kr.cell]; rfl
      have yf1 := S2.out.kr.frozen 1
      have y2 : V.cell? ⟨w.heap.size, 2, none⟩ = some (.int .i64 0) := by rw [S2.out.kr.cell]; rfl
      have yf2 := S2.out.kr.frozen 2
      go_wp2_with fail
      generalize hWf : (((V.setCell _ _).setCell _ _).setCell _ _) = Wf
      obtain ⟨kf, of, jf, cf, gf⟩ := S2.out.fin hWf
      have e0 : Wf.cell? ⟨w.heap.size, 0, none⟩ = some (.slice (some ⟨w12.heap.size, 0, none⟩) 6 6) := by rw [kf.cell]; rfl
      have e1 : Wf.cell? ⟨w.heap.size, 1, none⟩ = some (.int .i64 wk) := by rw [kf.cell]; rfl
      have e2 : Wf.cell? ⟨w.heap.size, 2, none⟩ = some (.int .i64 cp) := by rw [kf.cell]; rfl
      exact bodyPost_ret (v := .agg #[.slice (some ⟨w12.heap.size, 0, none⟩) 6 6, .int .i64 wk, .int .i64 cp]) (by simp [results, Try.results52, go_sem, e0, e1, e2]) rfl ⟨(some ⟨w12.heap.size, 0, none⟩), 6, 6, wk, cp, _, by omega, by omega, rfl, rfl, of, jf, by simp, by simp [ob_none, ob_some, List.filterMap_cons]; omega, cf, gf⟩
    have d0 : ((y6 : Int) == 0) = false := by simp; omega
    by_cases t1 : y6 = 1
    · subst t1
      have x0 : w15.cell? ⟨w2.heap.size, 0, none⟩ = some (.slice (some ⟨w12.heap.size, 0, none⟩) 6 6) := by rw [S1.out.kx.cell]; rfl
      have x1 : w15.cell? ⟨w2.heap.size, 1, none⟩ = some (.int .i64 wk) := by rw [S1.out.kx.cell]; rfl
      have x2 : w15.cell? ⟨w2.heap.size, 2, none⟩ = some (.int .i64 cp) := by rw [S1.out.kx.cell]; rfl
      obtain ⟨vn16, n16⟩ : ∃ u, w15.cell? ⟨w12.heap.size, 16, none⟩ = some u := ⟨_, by rw [S1.out.row.cellAt 16 (by omega)]; rfl⟩
      have fn16 := S1.out.row.frozenAt 16
      obtain ⟨vn17, n17⟩ : ∃ u, w15.cell? ⟨w12.heap.size, 17, none⟩ = some u := ⟨_, by rw [S1.out.row.cellAt 17 (by omega)]; rfl⟩
      have fn17 := S1.out.row.frozenAt 17
      obtain ⟨vn18, n18⟩ : ∃ u, w15.cell? ⟨w12.heap.size, 18, none⟩ = some u := ⟨_, by rw [S1.out.row.cellAt 18 (by omega)]; rfl⟩
      have fn18 := S1.out.row.frozenAt 18
      obtain ⟨vn19, n19⟩ : ∃ u, w15.cell? ⟨w12.heap.size, 19, none⟩ = some u := ⟨_, by rw [S1.out.row.cellAt 19 (by omega)]; rfl⟩
      have fn19 := S1.out.row.frozenAt 19
      go_upto_region 21 with fail
      clear x0 x1 x2 n16 fn16 n17 fn17 n18 fn18 n19 fn19
      generalize hV : (((w15.setCell _ _).setCell _ _).setCell _ _).setCell _ _ = V
      have S2 := Lib.hid (show GdSt w V c A len cap w.heap.size w2.heap.size (some ⟨w12.heap.size, 0, none⟩) 6 6 wk cp [(1, 0, 0, some ⟨w11.heap.size, 0, none⟩, 1, 1), (kg, 0, 0, some ⟨w2.heap.size + 1, 0, none⟩, 2, 2), (4, a2, 0, some ⟨w6.heap.size, 0, none⟩, 1, 1), (2, (y4 : Int), 0, some ⟨w8.heap.size, 0, none⟩, 1, 1), (8, 0, 0, none, 0, 0), (8, 0, 0, none, 0, 0)] by rw [← hV]; exact S1.out.node 4 8 0 0 none 0 0 (inn_nil _ _ _ _ _))
      clear hV S1
      have x0 : V.cell? ⟨w2.heap.size, 0, none⟩ = some (.slice (some ⟨w12.heap.size, 0, none⟩) 6 6) := by rw [S2.out.kx.cell]; rfl
      have x1 : V.cell? ⟨w2.heap.size, 1, none⟩ = some (.int .i64 wk) := by rw [S2.out.kx.cell]; rfl
      have x2 : V.cell? ⟨w2.heap.size, 2, none⟩ = some (.int .i64 cp) := by rw [S2.out.kx.cell]; rfl
      have y0 : V.cell? ⟨w.heap.size, 0, none⟩ = some (.slice none 0 0) := by rw [S2.out.kr.cell]; rfl
      have yf0 := S2.out.kr.frozen 0
      have y1 : V.cell? ⟨w.heap.size, 1, none⟩ = some (.int .i64 0) := by rw [S2.out.kr.cell]; rfl
      have yf1 := S2.out.kr.frozen 1
      have y2 : V.cell? ⟨w.heap.size, 2, none⟩ = some (.int .i64 0) := by rw [S2.out.kr.cell]; rfl
      have yf2 := S2.out.kr.frozen 2
      go_wp2_with fail
      generalize hWf : (((V.setCell _ _).setCell _ _).setCell _ _) = Wf
      obtain ⟨kf, of, jf, cf, gf⟩ := S2.out.fin hWf
      have e0 : Wf.cell? ⟨w.heap.size, 0, none⟩ = some (.slice (some ⟨w12.heap.size, 0, none⟩) 6 6) := by rw [kf.cell]; rfl
      have e1 : Wf.cell? ⟨w.heap.size, 1, none⟩ = some (.int .i64 wk) := by rw [kf.cell]; rfl
      have e2 : Wf.cell? ⟨w.heap.size, 2, none⟩ = some (.int .i64 cp) := by rw [kf.cell]; rfl
      exact bodyPost_ret (v := .agg #[.slice (some ⟨w12.heap.size, 0, none⟩) 6 6, .int .i64 wk, .int .i64 cp]) (by simp [results, Try.results52, go_sem, e0, e1, e2]) rfl ⟨(some ⟨w12.heap.size, 0, none⟩), 6, 6, wk, cp, _, by omega, by omega, rfl, rfl, of, jf, by simp, by simp [ob_none, ob_some, List.filterMap_cons]; omega, cf, gf⟩
    have d1 : ((y6 : Int) == 1) = false := by simp; omega
    by_cases t2 : y6 = 2
    · subst t2
      have x0 : w15.cell? ⟨w2.heap.size, 0, none⟩ = some (.slice (some ⟨w12.heap.size, 0, none⟩) 6 6) := by rw [S1.out.kx.cell]; rfl
      have x1 : w15.cell? ⟨w2.heap.size, 1, none⟩ = some (.int .i64 wk) := by rw [S1.out.kx.cell]; rfl
      have x2 : w15.cell? ⟨w2.heap.size, 2, none⟩ = some (.int .i64 cp) := by rw [S1.out.kx.cell]; rfl
      obtain ⟨U, hU⟩ : ∃ z, w15.alloc (.cells #[.int .i64 3, .int .i64 4] 3) = z := ⟨_, rfl⟩
      have bU : Below w15.heap.size w15 U := by rw [← hU]; exact (Below.refl _ _).alloc (Nat.le_refl _) _
      have KU := Lib.hid (show Blk U w15.heap.size 3 #[.int .i64 3, .int .i64 4] by rw [← hU]; exact Blk.new _ _ _)
      have SU := Lib.hid (S1.out.fresh bU)
      clear bU S1
      obtain ⟨vn11, n11⟩ : ∃ u, U.cell? ⟨w12.heap.size, 11, none⟩ = some u := ⟨_, by rw [SU.out.row.cellAt 11 (by omega)]; rfl⟩
      have fn11 := SU.out.row.frozenAt 11
      go_upto_region 21 with fail
      clear x0 x1 x2 n11 fn11 hU
      generalize hV : U.setCell _ _ = V
      have S2 := Lib.hid (show GdSt w V c A len cap w.heap.size w2.heap.size (some ⟨w12.heap.size, 0, none⟩) 6 6 wk cp [(1, 0, 0, some ⟨w11.heap.size, 0, none⟩, 1, 1), (kg, 0, 0, some ⟨w2.heap.size + 1, 0, none⟩, 2, 2), (4, a2, 0, some ⟨w15.heap.size, 0, none⟩, 2, 2), (2, (y4 : Int), 0, some ⟨w8.heap.size, 0, none⟩, 1, 1), (7, 0, 0, some ⟨w10.heap.size + 2, 0, none⟩, 1, 1), (8, 0, 0, none, 0, 0)] by rw [← hV]; exact SU.out.outs (k := 2) (by simp) (some ⟨w15.heap.size, 0, none⟩) 2 2 (inn_lit (n := 2) (zs := [3, 4]) KU.out (by omega) (by omega) rfl _ _ _))
      clear hV SU
      have x0 : V.cell? ⟨w2.heap.size, 0, none⟩ = some (.slice (some ⟨w12.heap.size, 0, none⟩) 6 6) := by rw [S2.out.kx.cell]; rfl
      have x1 : V.cell? ⟨w2.heap.size, 1, none⟩ = some (.int .i64 wk) := by rw [S2.out.kx.cell]; rfl
      have x2 : V.cell? ⟨w2.heap.size, 2, none⟩ = some (.int .i64 cp) := by rw [S2.out.kx.cell]; rfl
      have y0 : V.cell? ⟨w.heap.size, 0, none⟩ = some (.slice none 0 0) := by rw [S2.out.kr.cell]; rfl
      have yf0 := S2.out.kr.frozen 0
      have y1 : V.cell? ⟨w.heap.size, 1, none⟩ = some (.int .i64 0) := by rw [S2.out.kr.cell]; rfl
      have yf1 := S2.out.kr.frozen 1
      have y2 : V.cell? ⟨w.heap.size, 2, none⟩ = some (.int .i64 0) := by rw [S2.out.kr.cell]; rfl
      have yf2 := S2.out.kr.frozen 2
      go_wp2_with fail
      generalize hWf : (((V.setCell _ _).setCell _ _).setCell _ _) = Wf
      obtain ⟨kf, of, jf, cf, gf⟩ := S2.out.fin hWf
      have e0 : Wf.cell? ⟨w.heap.size, 0, none⟩ = some (.slice (some ⟨w12.heap.size, 0, none⟩) 6 6) := by rw [kf.cell]; rfl
      have e1 : Wf.cell? ⟨w.heap.size, 1, none⟩ = some (.int .i64 wk) := by rw [kf.cell]; rfl
      have e2 : Wf.cell? ⟨w.heap.size, 2, none⟩ = some (.int .i64 cp) := by rw [kf.cell]; rfl
      exact bodyPost_ret (v := .agg #[.slice (some ⟨w12.heap.size, 0, none⟩) 6 6, .int .i64 wk, .int .i64 cp]) (by simp [results, Try.results52, go_sem, e0, e1, e2]) rfl ⟨(some ⟨w12.heap.size, 0, none⟩), 6, 6, wk, cp, _, by omega, by omega, rfl, rfl, of, jf, by simp, by simp [ob_none, ob_some, List.filterMap_cons]; omega, cf, gf⟩
    have d2 : ((y6 : Int) == 2) = false := by simp; omega
    by_cases t3 : y6 = 3
    · subst t3
      have x0 : w15.cell? ⟨w2.heap.size, 0, none⟩ = some (.slice (some ⟨w12.heap.size, 0, none⟩) 6 6) := by rw [S1.out.kx.cell]; rfl
      have x1 : w15.cell? ⟨w2.heap.size, 1, none⟩ = some (.int .i64 wk) := by rw [S1.out.kx.cell]; rfl
      have x2 : w15.cell? ⟨w2.heap.size, 2, none⟩ = some (.int .i64 cp) := by rw [S1.out.kx.cell]; rfl
      obtain ⟨U, hU⟩ : ∃ z, w15.alloc (.cells #[.int .i64 8, .int .i64 0, .int .i64 0, .slice none 0 0] 46) = z := ⟨_, rfl⟩
      have bU : Below w15.heap.size w15 U := by rw [← hU]; exact (Below.refl _ _).alloc (Nat.le_refl _) _
      have KU := Lib.hid (show Blk U w15.heap.size 46 (nvCells [(8, 0, 0, none, 0, 0)]).toArray by rw [← hU]; exact Blk.new _ _ _)
      have SU := Lib.hid (S1.out.fresh bU)
      have sU := bU.size
      clear bU S1
      go_wp2_with (at_builtin; refine wpList_append_nd rfl (.tmp 72) (.tmp 74) (by rfl) w.heap.size _ 6 [(1, 0, 0, some ⟨w11.heap.size, 0, none⟩, 1, 1), (kg, 0, 0, some ⟨w2.heap.size + 1, 0, none⟩, 2, 2), (4, a2, 0, some ⟨w6.heap.size, 0, none⟩, 1, 1), (2, (y4 : Int), 0, some ⟨w8.heap.size, 0, none⟩, 1, 1), (7, 0, 0, some ⟨w10.heap.size + 2, 0, none⟩, 1, 1), (8, 0, 0, none, 0, 0)] (by rfl) SU.out.row w15.heap.size (8, 0, 0, none, 0, 0) (by rfl) KU.out (by omega) (by omega) ?_; intro v8 w16 own8 gr8; generalize hG : wpList _ _ _ _ _ _ = G)
      obtain ⟨A7, c7, rfl, S2⟩ := SU.out.app own8 gr8 (inn_nil _ _ _ _ _)
      have kx8 := SU.out.kx.grown gr8 (Ne.symm (own_type SU.out.row SU.out.kx (by decide)))
      have z0 : w16.cell? ⟨w2.heap.size, 0, none⟩ = some (.slice (some ⟨w12.heap.size, 0, none⟩) 6 6) := by rw [kx8.cell]; rfl
      have zf0 := kx8.frozen 0
      have sz16 := gr8.size
      generalize hV : w16.setCell _ _ = V at S2
      have sV : w16.heap.size ≤ V.heap.size := by rw [← hV]; simp [World.setCell]
      have S3 := Lib.hid (show GdSt w V c A len cap w.heap.size w2.heap.size A7 7 c7 wk cp [(1, 0, 0, some ⟨w11.heap.size, 0, none⟩, 1, 1), (kg, 0, 0, some ⟨w2.heap.size + 1, 0, none⟩, 2, 2), (4, a2, 0, some ⟨w6.heap.size, 0, none⟩, 1, 1), (2, (y4 : Int), 0, some ⟨w8.heap.size, 0, none⟩, 1, 1), (7, 0, 0, some ⟨w10.heap.size + 2, 0, none⟩, 1, 1), (8, 0, 0, none, 0, 0), (8, 0, 0, none, 0, 0)] from S2)
      obtain ⟨A8, c8, he, hf⟩ := own_form S2.row
      simp only [Value.slice.injEq, true_and] at he
      obtain ⟨rfl, rfl⟩ := he
      obtain ⟨g7, rfl⟩ := hf (by omega)
      clear own8 gr8 kx8 S2 SU x0 x1 x2 hU hf
      subst hG
      go_upto_region 20 with fail
      (try rw [hV])
      clear z0 zf0 hV
      have x0 : V.cell? ⟨w2.heap.size, 0, none⟩ = some (.slice (some ⟨g7, 0, none⟩) 7 c7) := by rw [S3.out.kx.cell]; rfl
      obtain ⟨U2, hU⟩ : ∃ z, V.alloc (.cells #[.int .i64 1, .int .i64 6] 3) = z := ⟨_, rfl⟩
      have bU : Below V.heap.size V U2 := by rw [← hU]; exact (Below.refl _ _).alloc (Nat.le_refl _) _
      have KU2 := Lib.hid (show Blk U2 V.heap.size 3 #[.int .i64 1, .int .i64 6] by rw [← hU]; exact Blk.new _ _ _)
      have SU := Lib.hid (S3.out.fresh bU)
      clear bU S3
      obtain ⟨vn3, n3⟩ : ∃ u, U2.cell? ⟨g7, 3, none⟩ = some u := ⟨_, by rw [SU.out.row.cellAt 3 (by omega)]; rfl⟩
      have fn3 := SU.out.row.frozenAt 3
      go_upto_region 21 with fail
      clear x0 n3 fn3 hU
      generalize hV : U2.setCell _ _ = V2
      have S4 := Lib.hid (show GdSt w V2 c A len cap w.heap.size w2.heap.size (some ⟨g7, 0, none⟩) 7 c7 wk cp [(1, 0, 0, some ⟨V.heap.size, 0, none⟩, 2, 2), (kg, 0, 0, some ⟨w2.heap.size + 1, 0, none⟩, 2, 2), (4, a2, 0, some ⟨w6.heap.size, 0, none⟩, 1, 1), (2, (y4 : Int), 0, some ⟨w8.heap.size, 0, none⟩, 1, 1), (7, 0, 0, some ⟨w10.heap.size + 2, 0, none⟩, 1, 1), (8, 0, 0, none, 0, 0), (8, 0, 0, none, 0, 0)] by rw [← hV]; exact SU.out.outs (k := 0) (by simp) (some ⟨V.heap.size, 0, none⟩) 2 2 (inn_lit (n := 2) (zs := [1, 6]) KU2.out (by omega) (by omega) rfl _ _ _))
      clear hV SU
      have x0 : V2.cell? ⟨w2.heap.size, 0, none⟩ = some (.slice (some ⟨g7, 0, none⟩) 7 c7) := by rw [S4.out.kx.cell]; rfl
      have x1 : V2.cell? ⟨w2.heap.size, 1, none⟩ = some (.int .i64 wk) := by rw [S4.out.kx.cell]; rfl
      have x2 : V2.cell? ⟨w2.heap.size, 2, none⟩ = some (.int .i64 cp) := by rw [S4.out.kx.cell]; rfl
      have y0 : V2.cell? ⟨w.heap.size, 0, none⟩ = some (.slice none 0 0) := by rw [S4.out.kr.cell]; rfl
      have yf0 := S4.out.kr.frozen 0
      have y1 : V2.cell? ⟨w.heap.size, 1, none⟩ = some (.int .i64 0) := by rw [S4.out.kr.cell]; rfl
      have yf1 := S4.out.kr.frozen 1
      have y2 : V2.cell? ⟨w.heap.size, 2, none⟩ = some (.int .i64 0) := by rw [S4.out.kr.cell]; rfl
      have yf2 := S4.out.kr.frozen 2
      go_wp2_with fail
      generalize hWf : (((V2.setCell _ _).setCell _ _).setCell _ _) = Wf
      obtain ⟨kf, of, jf, cf, gf⟩ := S4.out.fin hWf
      have e0 : Wf.cell? ⟨w.heap.size, 0, none⟩ = some (.slice (some ⟨g7, 0, none⟩) 7 c7) := by rw [kf.cell]; rfl
      have e1 : Wf.cell? ⟨w.heap.size, 1, none⟩ = some (.int .i64 wk) := by rw [kf.cell]; rfl
      have e2 : Wf.cell? ⟨w.heap.size, 2, none⟩ = some (.int .i64 cp) := by rw [kf.cell]; rfl
      exact bodyPost_ret (v := .agg #[.slice (some ⟨g7, 0, none⟩) 7 c7, .int .i64 wk, .int .i64 cp]) (by simp [results, Try.results52, go_sem, e0, e1, e2]) rfl ⟨(some ⟨g7, 0, none⟩), 7, c7, wk, cp, _, by omega, by omega, rfl, rfl, of, jf, by simp, by simp [ob_none, ob_some, List.filterMap_cons]; omega, cf, gf⟩
    have d3 : ((y6 : Int) == 3) = false := by simp; omega
    go_upto_region 21 with fail
    have x0 : w15.cell? ⟨w2.heap.size, 0, none⟩ = some (.slice (some ⟨w12.heap.size, 0, none⟩) 6 6) := by rw [S1.out.kx.cell]; rfl
    have x1 : w15.cell? ⟨w2.heap.size, 1, none⟩ = some (.int .i64 wk) := by rw [S1.out.kx.cell]; rfl
    have x2 : w15.cell? ⟨w2.heap.size, 2, none⟩ = some (.int .i64 cp) := by rw [S1.out.kx.cell]; rfl
    have y0 : w15.cell? ⟨w.heap.size, 0, none⟩ = some (.slice none 0 0) := by rw [S1.out.kr.cell]; rfl
    have yf0 := S1.out.kr.frozen 0
    have y1 : w15.cell? ⟨w.heap.size, 1, none⟩ = some (.int .i64 0) := by rw [S1.out.kr.cell]; rfl
    have yf1 := S1.out.kr.frozen 1
    have y2 : w15.cell? ⟨w.heap.size, 2, none⟩ = some (.int .i64 0) := by rw [S1.out.kr.cell]; rfl
    have yf2 := S1.out.kr.frozen 2
    go_wp2_with fail
    generalize hWf : (((w15.setCell _ _).setCell _ _).setCell _ _) = Wf
    obtain ⟨kf, of, jf, cf, gf⟩ := S1.out.fin hWf
    have e0 : Wf.cell? ⟨w.heap.size, 0, none⟩ = some (.slice (some ⟨w12.heap.size, 0, none⟩) 6 6) := by rw [kf.cell]; rfl
    have e1 : Wf.cell? ⟨w.heap.size, 1, none⟩ = some (.int .i64 wk) := by rw [kf.cell]; rfl
    have e2 : Wf.cell? ⟨w.heap.size, 2, none⟩ = some (.int .i64 cp) := by rw [kf.cell]; rfl
    exact bodyPost_ret (v := .agg #[.slice (some ⟨w12.heap.size, 0, none⟩) 6 6, .int .i64 wk, .int .i64 cp]) (by simp [results, Try.results52, go_sem, e0, e1, e2]) rfl ⟨(some ⟨w12.heap.size, 0, none⟩), 6, 6, wk, cp, _, by omega, by omega, rfl, rfl, of, jf, by simp, by simp [ob_none, ob_some, List.filterMap_cons]; omega, cf, gf⟩

end Go.Proofs.Ytbbagpnjjjohpaa.hexes

