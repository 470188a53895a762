/-
  The ring of a link: the contract of impl.ringOf.
-/
import Derived.Test.YthkkleicekhelaaRing
import Derived.Deep.RegionWith
namespace Go.Proofs.Ythkkleicekhelaa.hexes
open Go.RowKit

theorem ringinfo : (Try.prog.info? 69).map (·.size) = some 20 := by kernel_rfl
theorem rcCells_size {rs : List Rc} (h : rs.length = 4) : (rcCells rs).toArray.size = 20 := by simp [rcCells_length, h]
theorem rcCells_all {rs : List Rc} : (rcCells rs).toArray.all (·.oneCell') = true := Array.all_eq_true_iff_forall_mem.2 (fun v hv => rcCells_one (by simpa using hv))

theorem inRing_put {rs zs : List Rc} {G k d : Nat} (hr : rs.length = 4) (hk : k < zs.length) (hz : zs.length ≤ 4) (hd : (G + k) % 4 = d) (h : InRing rs G (zs.take k)) : InRing (rs.set d zs[k]) G (zs.take (k + 1)) := by
  intro j hj
  rw [List.length_take] at hj
  rw [List.getElem_take]
  by_cases e : j = k
  · subst e
    rw [hd, List.getElem?_set_self (by omega)]
  · have hne : (G + j) % 4 ≠ d := by omega
    rw [List.getElem?_set_ne (fun e => hne e.symm)]
    have := h j (by rw [List.length_take]; omega)
    rw [List.getElem_take] at this
    exact this

set_option maxRecDepth 100000 in
set_option maxHeartbeats 4000000 in
theorem implRing_any (n : Nat) (zs : List Rc) (hz : zs.length = n) (A : Option Addr) (c : Nat) (p a b s : Int) (G : Nat) (w : World) (h1 : Rcs w A zs) (hn : n ≤ 4) (hG : G ≤ 1000000000) :
    Calls Try.prog 45 #[.agg #[.int .i64 p, .slice A n c, .int .i64 a, .int .i64 b, .int .i64 s, .int .i64 (G : Int)]] w fun e w' => ∃ rs : List Rc, rs.length = 4 ∧ InRing rs G zs ∧ e = .returned (.agg (rcCells rs).toArray) ∧ Below w.heap.size w w' := by
  have H1 := Lib.hid h1
  have HZ := Lib.hid hz
  clear h1 hz
  obtain ⟨V0, hV0⟩ : ∃ V0, ((w.alloc (.cells #[.int .i64 p, .slice A n c, .int .i64 a, .int .i64 b, .int .i64 s, .int .i64 (G : Int)] 26)).alloc (.cells #[.int .i64 0, .int .i64 0, .int .i64 0, .int .i64 0, .int .i64 0, .int .i64 0, .int .i64 0, .int .i64 0, .int .i64 0, .int .i64 0, .int .i64 0, .int .i64 0, .int .i64 0, .int .i64 0, .int .i64 0, .int .i64 0, .int .i64 0, .int .i64 0, .int .i64 0, .int .i64 0] 69)).alloc (.cells #[.int .i64 0, .int .i64 0, .int .i64 0, .int .i64 0, .int .i64 0, .int .i64 0, .int .i64 0, .int .i64 0, .int .i64 0, .int .i64 0, .int .i64 0, .int .i64 0, .int .i64 0, .int .i64 0, .int .i64 0, .int .i64 0, .int .i64 0, .int .i64 0, .int .i64 0, .int .i64 0] 69) = V0 := ⟨_, rfl⟩
  have B0 := Lib.hid (show Below w.heap.size w V0 by rw [← hV0]; exact ((((Below.refl _ _).alloc (by first | (simp; done) | (simp; omega) | omega) _).alloc (by first | (simp; done) | (simp; omega) | omega) _).alloc (by first | (simp; done) | (simp; omega) | omega) _))
  have K0 := Lib.hid (show Blk V0 w.heap.size 26 #[.int .i64 p, .slice A n c, .int .i64 a, .int .i64 b, .int .i64 s, .int .i64 (G : Int)] by rw [← hV0]; exact (Below.heap_alloc _ _ _ (by simp; omega)).trans ((Below.heap_alloc _ _ _ (by simp)).trans (Blk.new _ _ _)))
  have K1 := Lib.hid (show Blk V0 (w.heap.size + 1) 69 #[.int .i64 0, .int .i64 0, .int .i64 0, .int .i64 0, .int .i64 0, .int .i64 0, .int .i64 0, .int .i64 0, .int .i64 0, .int .i64 0, .int .i64 0, .int .i64 0, .int .i64 0, .int .i64 0, .int .i64 0, .int .i64 0, .int .i64 0, .int .i64 0, .int .i64 0, .int .i64 0] by rw [← hV0]; exact (Below.heap_alloc _ _ _ (by simp)).trans ((show w.heap.size + 1 = (w.alloc _).heap.size by simp) ▸ Blk.new _ _ _))
  have K2 := Lib.hid (show Blk V0 (w.heap.size + 1 + 1) 69 #[.int .i64 0, .int .i64 0, .int .i64 0, .int .i64 0, .int .i64 0, .int .i64 0, .int .i64 0, .int .i64 0, .int .i64 0, .int .i64 0, .int .i64 0, .int .i64 0, .int .i64 0, .int .i64 0, .int .i64 0, .int .i64 0, .int .i64 0, .int .i64 0, .int .i64 0, .int .i64 0] by rw [← hV0]; exact (show w.heap.size + 1 + 1 = ((w.alloc _).alloc _).heap.size by simp) ▸ Blk.new _ _ _)
  go_enter Try.func45, Try.ntmps45
  go_wp2_with (refine wpList_store_blk rfl 69 _ _ rfl (w.heap.size + 1 + 1) #[.int .i64 0, .int .i64 0, .int .i64 0, .int .i64 0, .int .i64 0, .int .i64 0, .int .i64 0, .int .i64 0, .int .i64 0, .int .i64 0, .int .i64 0, .int .i64 0, .int .i64 0, .int .i64 0, .int .i64 0, .int .i64 0, .int .i64 0, .int .i64 0, .int .i64 0, .int .i64 0] (by rfl) (by rfl) 69 _ K2.out ringinfo rfl (rcCells_all (rs := List.replicate 4 (0, (0, 0), 0, 0))) ?_; intro V1 kb gr; generalize hGG : wpList _ _ _ _ _ _ = GG)
  subst hGG
  have B1 := Lib.hid (B0.out.grown gr B0.out.size (fun j hj => by simp only [Option.some.injEq] at hj; omega))
  have L0 := Lib.hid (K0.out.grown gr (by first | (simp; done) | (simp; omega)))
  have L1 := Lib.hid (K1.out.grown gr (by first | (simp; done) | (simp; omega)))
  have L2 := Lib.hid kb
  clear gr kb hV0 K0 K1 K2 B0
  have x1 : V1.cell? ⟨w.heap.size, 1, none⟩ = some (.slice A n c) := by rw [L0.out.cell]; rfl
  go_wp2
  clear x1
  go_loopw [10] (fun i wr => ∃ (k : Nat) (rs : List Rc), k ≤ n ∧ i = .int .i64 k ∧ rs.length = 4 ∧ InRing rs G (zs.take k) ∧ Blk wr (w.heap.size + 1 + 1) 69 (rcCells rs).toArray ∧ Blk wr (w.heap.size + 1) 69 #[.int .i64 0, .int .i64 0, .int .i64 0, .int .i64 0, .int .i64 0, .int .i64 0, .int .i64 0, .int .i64 0, .int .i64 0, .int .i64 0, .int .i64 0, .int .i64 0, .int .i64 0, .int .i64 0, .int .i64 0, .int .i64 0, .int .i64 0, .int .i64 0, .int .i64 0, .int .i64 0] ∧ Blk wr w.heap.size 26 #[.int .i64 p, .slice A n c, .int .i64 a, .int .i64 b, .int .i64 s, .int .i64 (G : Int)] ∧ Below w.heap.size w wr) (fun i _ => n - (intOf i).toNat)
  case atStart => exact ⟨0, List.replicate 4 (0, (0, 0), 0, 0), Nat.zero_le _, rfl, rfl, fun j hj => absurd hj (by simp), L2.out, L1.out, L0.out, B1.out⟩
  case round =>
    obtain ⟨k, rs, hk, rfl, hr, hat, hk2, hk1, hk0, hb⟩ := hrel
    have HR := Lib.hid hr
    have HAT := Lib.hid hat
    have M0 := Lib.hid hk0
    have M1 := Lib.hid hk1
    have M2 := Lib.hid hk2
    have HB := Lib.hid hb
    clear hr hat hk2 hk1 hk0 hb
    by_cases hlt : k < n
    · have l1 : k < zs.length := by rw [HZ.out]; exact hlt
      obtain ⟨b1, o1, p0, p1, p2, p3, p4, rfl, y1, e0, e1, e2, e3, e4⟩ := (H1.out.below HB.out).at l1
      obtain ⟨d, hd⟩ : ∃ d, (G + k) % 4 = d := ⟨_, rfl⟩
      have hd4 : d < 4 := by omega
      have i0 : (0 : Int) ≤ (k : Int) := by omega
      have i1 : (k : Int) < (n : Int) := by omega
      have i3 : (0 : Int) ≤ (d : Int) := by omega
      have i4 : (d : Int) < 4 := by omega
      have E := Lib.hid (fun W => implSlot_is (x := (G : Int) + (k : Int)) (d := d) (by omega) (by omega) (by omega) W)
      have m2 : IntKind.i64.wrap ((G : Int) + (k : Int)) = (G : Int) + (k : Int) := IntWalk.i64_in _ (by omega)
      have HI := Lib.hid (inRing_put HR.out l1 (by rw [HZ.out]; omega) hd HAT.out)
      rw [y1] at HI
      obtain ⟨z, hzd⟩ : ∃ z, rs[d]? = some z := ⟨_, List.getElem?_eq_getElem (by rw [HR.out]; omega)⟩
      obtain ⟨V, hV⟩ : ∃ V, wr.alloc (.cells #[.int .i64 p0, .int .i64 p1, .int .i64 p2, .int .i64 p3, .int .i64 p4] 30) = V := ⟨_, rfl⟩
      have bV : Below wr.heap.size wr V := by rw [← hV]; exact (Below.refl _ _).alloc (Nat.le_refl _) _
      have N0 := Lib.hid (M0.out.below bV)
      have N1 := Lib.hid (M1.out.below bV)
      have N2 := Lib.hid (M2.out.below bV)
      have BV := Lib.hid (below_chain HB.out bV)
      have NR := Lib.hid (show Blk V wr.heap.size 30 #[.int .i64 p0, .int .i64 p1, .int .i64 p2, .int .i64 p3, .int .i64 p4] by rw [← hV]; exact Blk.new _ _ _)
      obtain ⟨c0, c1, c2, c3, c4⟩ := inRing_cells N2.out hzd
      have f0 := N2.out.frozen (d * 5)
      have f1 := N2.out.frozen (d * 5 + 1)
      have f2 := N2.out.frozen (d * 5 + 2)
      have f3 := N2.out.frozen (d * 5 + 3)
      have f4 := N2.out.frozen (d * 5 + 4)
      have g5 : V.cell? ⟨w.heap.size, 5, none⟩ = some (.int .i64 (G : Int)) := by rw [N0.out.cell]; rfl
      have r0 : V.cell? ⟨wr.heap.size, 0, none⟩ = some (.int .i64 p0) := by rw [NR.out.cell]; rfl
      have r1 : V.cell? ⟨wr.heap.size, 1, none⟩ = some (.int .i64 p1) := by rw [NR.out.cell]; rfl
      have r2 : V.cell? ⟨wr.heap.size, 2, none⟩ = some (.int .i64 p2) := by rw [NR.out.cell]; rfl
      have r3 : V.cell? ⟨wr.heap.size, 3, none⟩ = some (.int .i64 p3) := by rw [NR.out.cell]; rfl
      have r4 : V.cell? ⟨wr.heap.size, 4, none⟩ = some (.int .i64 p4) := by rw [NR.out.cell]; rfl
      clear hd hzd y1 l1 bV M0 M1 M2
      go_wp2
      go_region_with (go_at_call 46; refine (E.out _).mono ?_; rintro e w1 ⟨rfl, rfl⟩)
      all_goals
        clear c0 c1 c2 c3 c4 f0 f1 f2 f3 f4 g5 r0 r1 r2 r3 r4
        generalize hV2 : (((((V.setCell _ _).setCell _ _).setCell _ _).setCell _ _).setCell _ _).drew = V2
        have P2 := Lib.hid (show Blk V2 (w.heap.size + 1 + 1) 69 (rcCells (rs.set d (p0, (p1, p2), p3, p4))).toArray by rw [← hV2]; exact (ring_put N2.out d p0 p1 p2 p3 p4).drewN 1)
        have P1 := Lib.hid (show Blk V2 (w.heap.size + 1) 69 #[.int .i64 0, .int .i64 0, .int .i64 0, .int .i64 0, .int .i64 0, .int .i64 0, .int .i64 0, .int .i64 0, .int .i64 0, .int .i64 0, .int .i64 0, .int .i64 0, .int .i64 0, .int .i64 0, .int .i64 0, .int .i64 0, .int .i64 0, .int .i64 0, .int .i64 0, .int .i64 0] by rw [← hV2]; exact (((((N1.out.other (by first | (simp; done) | (simp; omega) | omega) _).other (by first | (simp; done) | (simp; omega) | omega) _).other (by first | (simp; done) | (simp; omega) | omega) _).other (by first | (simp; done) | (simp; omega) | omega) _).other (by first | (simp; done) | (simp; omega) | omega) _).drewN 1)
        have P0 := Lib.hid (show Blk V2 w.heap.size 26 #[.int .i64 p, .slice (some ⟨b1, o1, none⟩) n c, .int .i64 a, .int .i64 b, .int .i64 s, .int .i64 (G : Int)] by rw [← hV2]; exact (((((N0.out.other (by first | (simp; done) | (simp; omega) | omega) _).other (by first | (simp; done) | (simp; omega) | omega) _).other (by first | (simp; done) | (simp; omega) | omega) _).other (by first | (simp; done) | (simp; omega) | omega) _).other (by first | (simp; done) | (simp; omega) | omega) _).drewN 1)
        have PB := Lib.hid (show Below w.heap.size w V2 by rw [← hV2]; exact (((((BV.out.setCell (by first | (simp; done) | (simp; omega) | omega) _).setCell (by first | (simp; done) | (simp; omega) | omega) _).setCell (by first | (simp; done) | (simp; omega) | omega) _).setCell (by first | (simp; done) | (simp; omega) | omega) _).setCell (by first | (simp; done) | (simp; omega) | omega) _).drew)
        have HL := Lib.hid (show (rs.set d (p0, (p1, p2), p3, p4)).length = 4 by rw [List.length_set]; exact HR.out)
        clear hV2 hV
        go_wp2
        go_roundw
        case rel => exact ⟨k + 1, rs.set d (p0, (p1, p2), p3, p4), by omega, by go_num, HL.out, HI.out, P2.out, P1.out, P0.out, PB.out⟩
        case measure => simp [intOf]; omega
    · have hkn : k = n := by omega
      subst hkn
      have HAT2 := Lib.hid (show InRing rs G zs by have h3 := HAT.out; rwa [List.take_of_length_le (by rw [HZ.out]; omega)] at h3)
      have SZ := Lib.hid (rcCells_size HR.out)
      go_wp2_with (first
        | (refine wpList_load_row rfl 69 _ rfl (w.heap.size + 1 + 1) (by rfl) 69 (rcCells rs).toArray (0, 0) _ M2.out Try.underlying69 rfl (by rw [SZ.out]; exact ringinfo) ?_)
        | (refine wpList_store_blk rfl 69 _ _ rfl (w.heap.size + 1) (rcCells rs).toArray (by rfl) (by rfl) 69 _ M1.out (by rw [SZ.out]; exact ringinfo) (by rw [SZ.out]; rfl) rcCells_all ?_; intro V2 kb gr))
      have PB := Lib.hid (HB.out.grown gr HB.out.size (fun j hj => by simp only [Option.some.injEq] at hj; omega))
      have P1 := Lib.hid kb
      clear gr kb
      have hrun := run_loadVar_row (P := Try.prog) V2 (w.heap.size + 1) 69 69 (rcCells rs).toArray (0, 0) _ P1.out Try.underlying69 rfl (by rw [SZ.out]; exact ringinfo)
      exact bodyPost_ret (v := .agg (rcCells rs).toArray) (by simp [results, Try.results45, Act.put, asAddr, hrun]) rfl ⟨rs, HR.out, HAT2.out, rfl, PB.out⟩
end Go.Proofs.Ythkkleicekhelaa.hexes
