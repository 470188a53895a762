/-
  The program's Capped: the contract of impl.Capped.
-/
import Derived.Test.YtlanmkimaambgaaJ34
import Derived.Test.YtlanmkimaambgaaJ46

namespace Go.Proofs.Ytlanmkimaambgaa.hexes
open Go.RowKit

set_option maxRecDepth 1000000 in
set_option maxHeartbeats 8000000 in
theorem implCap_any (gs : List Nd) (wk cp : Int) (A : Option Addr) (n c : Nat) (hl : gs.length = n) (ho : ∀ x ∈ gs, x.2.2.2.length ≤ 1048576) (hn : n ≤ 1048576) (r0 r1 r2 r3 r4 : Int) (w : World) (h : Nds w A gs) :
    Calls Try.prog 12 #[.agg #[.slice A n c, .int .i64 wk, .int .i64 cp], .agg #[.int .i64 r0, .int .i64 r1, .int .i64 r2, .int .i64 r3, .int .i64 r4]] w fun e w' => e = .returned (.bool (capG gs wk cp (r0, (r1, r2), r3, r4))) ∧ Below w.heap.size w w' := by
  obtain ⟨⟨k, a, b, zs⟩, hx⟩ : ∃ x, nodeAt gs r0 = x := ⟨_, rfl⟩
  obtain ⟨m, hm⟩ : ∃ m, zs.length = m := ⟨_, rfl⟩
  obtain ⟨gk, hgk⟩ : ∃ q, (hasB gs r0 && okGr gs dec1 wk cp && okRc (r0, (r1, r2), r3, r4)) = q := ⟨_, rfl⟩
  obtain ⟨ny, hny⟩ : ∃ y, nextY r1 r2 = y := ⟨_, rfl⟩
  obtain ⟨hv, hhv⟩ : ∃ y, hasNext r1 r2 = y := ⟨_, rfl⟩
  obtain ⟨res, hres⟩ : ∃ q, capG gs wk cp (r0, (r1, r2), r3, r4) = q := ⟨_, rfl⟩
  rw [hres]
  have SN := Lib.hid (show res = (gk && decide (k = 7) && decide (0 < m) && !hv) by
    rw [← hres]
    unfold capG
    simp only [hx, hm, hhv, hgk])
  have HX := Lib.hid hx
  have HM := Lib.hid hm
  have HGK := Lib.hid hgk
  have HNY := Lib.hid hny
  have HHV := Lib.hid hhv
  have HL := Lib.hid hl
  have HO := Lib.hid ho
  have S0 := Lib.hid h
  clear hx hm hgk hny hhv hl ho h hres
  obtain ⟨V, hW⟩ : ∃ z, ((w.alloc (.cells #[.slice A n c, .int .i64 wk, .int .i64 cp] 26)).alloc (.cells #[.int .i64 r0, .int .i64 r1, .int .i64 r2, .int .i64 r3, .int .i64 r4] 31)) = z := ⟨_, rfl⟩
  have hb : Below w.heap.size w V := by rw [← hW]; exact (((Below.refl _ _).alloc (by first | (simp; done) | (simp; omega) | omega) _).alloc (by first | (simp; done) | (simp; omega) | omega) _)
  have az : V.heap.size = w.heap.size + 2 := by rw [← hW]; simp
  have NG := Lib.hid (show Blk V (w.heap.size) 26 #[.slice A n c, .int .i64 wk, .int .i64 cp] by rw [← hW]; exact ((Below.heap_alloc _ _ _ (by first | (simp; done) | (simp; omega))).trans (Blk.new _ _ _)))
  have NR := Lib.hid (show Blk V (w.heap.size + 1) 31 #[.int .i64 r0, .int .i64 r1, .int .i64 r2, .int .i64 r3, .int .i64 r4] by rw [← hW]; exact ((show w.heap.size + 1 = ((w.alloc _)).heap.size by simp) ▸ Blk.new _ _ _))
  have AZV := Lib.hid az
  clear az
  have sz1 := hb.size
  have B1 := Lib.hid (hb)
  clear hb
  have G_1 := NG
  clear NG
  have ltG : w.heap.size < V.heap.size := G_1.out.lt
  have R_1 := NR
  clear NR
  have ltR : w.heap.size + 1 < V.heap.size := R_1.out.lt
  go_enter Try.func12, Try.ntmps12
  have xG0 : V.cell? ⟨w.heap.size, 0, none⟩ = some (.slice A n c) := by rw [G_1.out.cell]; rfl
  have xG1 : V.cell? ⟨w.heap.size, 1, none⟩ = some (.int .i64 wk) := by rw [G_1.out.cell]; rfl
  have xG2 : V.cell? ⟨w.heap.size, 2, none⟩ = some (.int .i64 cp) := by rw [G_1.out.cell]; rfl
  have xR0 : V.cell? ⟨w.heap.size + 1, 0, none⟩ = some (.int .i64 r0) := by rw [R_1.out.cell]; rfl
  have xR1 : V.cell? ⟨w.heap.size + 1, 1, none⟩ = some (.int .i64 r1) := by rw [R_1.out.cell]; rfl
  have xR2 : V.cell? ⟨w.heap.size + 1, 2, none⟩ = some (.int .i64 r2) := by rw [R_1.out.cell]; rfl
  have xR3 : V.cell? ⟨w.heap.size + 1, 3, none⟩ = some (.int .i64 r3) := by rw [R_1.out.cell]; rfl
  have xR4 : V.cell? ⟨w.heap.size + 1, 4, none⟩ = some (.int .i64 r4) := by rw [R_1.out.cell]; rfl
  go_wp2_with fail
  cases gk with
  | false =>
    clear hW xG0 xG1 xG2 xR0 xR1 xR2 xR3 xR4
    refine (nodeFor_no gs wk cp A n c HL.out HO.out hn r0 r1 r2 r3 r4 _ (S0.out.below B1.out) HGK.out).mono ?_
    rintro e w4 ⟨rfl, hb⟩
    have sz2 := hb.size
    have B2 := Lib.hid (below_chain B1.out hb)
    have G_2 := Lib.hid (G_1.out.below hb)
    have R_2 := Lib.hid (R_1.out.below hb)
    clear hb B1 G_1 R_1
    obtain rfl : res = false := by rw [SN.out]; rfl
    go_wp2
    go_ret
    exact ⟨rfl, B2.out.alloc B2.out.size _⟩
  | true =>
    obtain ⟨⟨hb0, hg0⟩, hr0⟩ : (hasB gs r0 = true ∧ okGr gs dec1 wk cp = true) ∧ okRc (r0, (r1, r2), r3, r4) = true := by
      have h := HGK.out
      simpa only [Bool.and_eq_true] using h
    clear hW xG0 xG1 xG2 xR0 xR1 xR2 xR3 xR4
    refine (nodeFor_yes gs wk cp A n c HL.out HO.out hn r0 r1 r2 r3 r4 _ (S0.out.below B1.out) HX.out HM.out hb0 hg0 hr0).mono ?_
    rintro e w4 ⟨An, cn, rfl, rZ, hb⟩
    have sz2 := hb.size
    have B2 := Lib.hid (below_chain B1.out hb)
    have G_2 := Lib.hid (G_1.out.below hb)
    have R_2 := Lib.hid (R_1.out.below hb)
    clear hb B1 G_1 R_1
    have Z_2 := Lib.hid rZ
    clear rZ
    clear hb0 hg0 hr0
    by_cases m0 : 0 < m
    rotate_left
    · skip
      obtain rfl : m = 0 := by omega
      obtain rfl : res = false := by rw [SN.out]; simp
      go_wp2
      go_ret
      exact ⟨rfl, B2.out.alloc B2.out.size _⟩
    have qm : ((m : Int) == 0) = false := by simp; omega
    obtain ⟨V4, hW⟩ : ∃ z, (w4.alloc (.cells #[.int .i64 k, .int .i64 a, .int .i64 b, .slice An m cn] 42)) = z := ⟨_, rfl⟩
    have hb : Below w4.heap.size w4 V4 := by rw [← hW]; exact ((Below.refl _ _).alloc (by first | (simp; done) | (simp; omega) | omega) _)
    have az : V4.heap.size = w4.heap.size + 1 := by rw [← hW]; simp
    have NN := Lib.hid (show Blk V4 (w4.heap.size) 42 #[.int .i64 k, .int .i64 a, .int .i64 b, .slice An m cn] by rw [← hW]; exact (Blk.new _ _ _))
    have AZV4 := Lib.hid az
    clear az
    have sz3 := hb.size
    have B3 := Lib.hid (below_chain B2.out hb)
    have Z_3 := Lib.hid (Z_2.out.below hb)
    have G_3 := Lib.hid (G_2.out.below hb)
    have R_3 := Lib.hid (R_2.out.below hb)
    clear hb B2 Z_2 G_2 R_2
    have N_3 := NN
    clear NN
    have ltN : w4.heap.size < V4.heap.size := N_3.out.lt
    have xN0 : V4.cell? ⟨w4.heap.size, 0, none⟩ = some (.int .i64 k) := by rw [N_3.out.cell]; rfl
    have xN1 : V4.cell? ⟨w4.heap.size, 1, none⟩ = some (.int .i64 a) := by rw [N_3.out.cell]; rfl
    have xN2 : V4.cell? ⟨w4.heap.size, 2, none⟩ = some (.int .i64 b) := by rw [N_3.out.cell]; rfl
    have xN3 : V4.cell? ⟨w4.heap.size, 3, none⟩ = some (.slice An m cn) := by rw [N_3.out.cell]; rfl
    go_wp2_with fail
    by_cases hr : remB k = true
    · skip
      have KH := Lib.hid (show k ≠ 7 by rintro rfl; exact absurd hr (by decide))
      clear hW xN0 xN1 xN2 xN3
      refine (opOf_mem k a b An m cn hr _).mono ?_
      rintro e w5 ⟨rfl, hb⟩
      have sz4 := hb.size
      have B4 := Lib.hid (below_chain B3.out hb)
      have Z_4 := Lib.hid (Z_3.out.below hb)
      have G_4 := Lib.hid (G_3.out.below hb)
      have R_4 := Lib.hid (R_3.out.below hb)
      have N_4 := Lib.hid (N_3.out.below hb)
      clear hb B3 Z_3 G_3 R_3 N_3
      clear hr
      obtain ⟨yy, zz, q1⟩ : ∃ (yy : Int) (zz : Nat), ∀ (xT : TypeId) (v : Value) (w : World), (Instr.typeAssert (.iface 111 v) xT 89 true).run Try.prog w = .ok (.tuple #[.agg #[.int .i64 yy, .int .i64 yy, .int .i64 yy, .slice none zz 0], .bool false]) w := ⟨0, 0, as_not_back (by decide)⟩
      obtain ⟨V5, hW⟩ : ∃ z, (w5.alloc (.cells #[.int .i64 yy, .int .i64 yy, .int .i64 yy, .slice none zz 0] 89)) = z := ⟨_, rfl⟩
      have hb : Below w5.heap.size w5 V5 := by rw [← hW]; exact ((Below.refl _ _).alloc (by first | (simp; done) | (simp; omega) | omega) _)
      have az : V5.heap.size = w5.heap.size + 1 := by rw [← hW]; simp
      have NF := Lib.hid (show Blk V5 (w5.heap.size) 89 #[.int .i64 yy, .int .i64 yy, .int .i64 yy, .slice none zz 0] by rw [← hW]; exact (Blk.new _ _ _))
      have AZV5 := Lib.hid az
      clear az
      have sz5 := hb.size
      have B5 := Lib.hid (below_chain B4.out hb)
      have Z_5 := Lib.hid (Z_4.out.below hb)
      have G_5 := Lib.hid (G_4.out.below hb)
      have R_5 := Lib.hid (R_4.out.below hb)
      have N_5 := Lib.hid (N_4.out.below hb)
      clear hb B4 Z_4 G_4 R_4 N_4
      have F_5 := NF
      clear NF
      have ltF : w5.heap.size < V5.heap.size := F_5.out.lt
      have xR0 : V5.cell? ⟨w.heap.size + 1, 0, none⟩ = some (.int .i64 r0) := by rw [R_5.out.cell]; rfl
      have xR1 : V5.cell? ⟨w.heap.size + 1, 1, none⟩ = some (.int .i64 r1) := by rw [R_5.out.cell]; rfl
      have xR2 : V5.cell? ⟨w.heap.size + 1, 2, none⟩ = some (.int .i64 r2) := by rw [R_5.out.cell]; rfl
      have xR3 : V5.cell? ⟨w.heap.size + 1, 3, none⟩ = some (.int .i64 r3) := by rw [R_5.out.cell]; rfl
      have xR4 : V5.cell? ⟨w.heap.size + 1, 4, none⟩ = some (.int .i64 r4) := by rw [R_5.out.cell]; rfl
      go_wp2_with fail
      clear hW xR0 xR1 xR2 xR3 xR4
      refine (implNext_any r1 r2 _).mono ?_
      rintro e w6 ⟨rfl, hb⟩
      rw [HNY.out, HHV.out]
      have sz6 := hb.size
      have B6 := Lib.hid (below_chain B5.out hb)
      have Z_6 := Lib.hid (Z_5.out.below hb)
      have G_6 := Lib.hid (G_5.out.below hb)
      have R_6 := Lib.hid (R_5.out.below hb)
      have N_6 := Lib.hid (N_5.out.below hb)
      have F_6 := Lib.hid (F_5.out.below hb)
      clear hb B5 Z_5 G_5 R_5 N_5 F_5
      obtain rfl : res = false := by rw [SN.out]; simp [KH.out]
      go_wp2
      go_ret
      exact ⟨rfl, B6.out.alloc B6.out.size _⟩
    replace hr : remB k = false := by simpa using hr
    by_cases hk : k = 7
    · skip
      have KH := Lib.hid hk
      clear hk
      clear hW xN0 xN1 xN2 xN3
      refine (opOf_back k a b An m cn hr KH.out _).mono ?_
      rintro e w5 ⟨rfl, hb⟩
      have sz4 := hb.size
      have B4 := Lib.hid (below_chain B3.out hb)
      have Z_4 := Lib.hid (Z_3.out.below hb)
      have G_4 := Lib.hid (G_3.out.below hb)
      have R_4 := Lib.hid (R_3.out.below hb)
      have N_4 := Lib.hid (N_3.out.below hb)
      clear hb B3 Z_3 G_3 R_3 N_3
      clear hr
      have q1 := as_back
      obtain ⟨V5, hW⟩ : ∃ z, (w5.alloc (.cells #[.int .i64 k, .int .i64 a, .int .i64 b, .slice An m cn] 89)) = z := ⟨_, rfl⟩
      have hb : Below w5.heap.size w5 V5 := by rw [← hW]; exact ((Below.refl _ _).alloc (by first | (simp; done) | (simp; omega) | omega) _)
      have az : V5.heap.size = w5.heap.size + 1 := by rw [← hW]; simp
      have NF := Lib.hid (show Blk V5 (w5.heap.size) 89 #[.int .i64 k, .int .i64 a, .int .i64 b, .slice An m cn] by rw [← hW]; exact (Blk.new _ _ _))
      have AZV5 := Lib.hid az
      clear az
      have sz5 := hb.size
      have B5 := Lib.hid (below_chain B4.out hb)
      have Z_5 := Lib.hid (Z_4.out.below hb)
      have G_5 := Lib.hid (G_4.out.below hb)
      have R_5 := Lib.hid (R_4.out.below hb)
      have N_5 := Lib.hid (N_4.out.below hb)
      clear hb B4 Z_4 G_4 R_4 N_4
      have F_5 := NF
      clear NF
      have ltF : w5.heap.size < V5.heap.size := F_5.out.lt
      have xR0 : V5.cell? ⟨w.heap.size + 1, 0, none⟩ = some (.int .i64 r0) := by rw [R_5.out.cell]; rfl
      have xR1 : V5.cell? ⟨w.heap.size + 1, 1, none⟩ = some (.int .i64 r1) := by rw [R_5.out.cell]; rfl
      have xR2 : V5.cell? ⟨w.heap.size + 1, 2, none⟩ = some (.int .i64 r2) := by rw [R_5.out.cell]; rfl
      have xR3 : V5.cell? ⟨w.heap.size + 1, 3, none⟩ = some (.int .i64 r3) := by rw [R_5.out.cell]; rfl
      have xR4 : V5.cell? ⟨w.heap.size + 1, 4, none⟩ = some (.int .i64 r4) := by rw [R_5.out.cell]; rfl
      go_wp2_with fail
      clear hW xR0 xR1 xR2 xR3 xR4
      refine (implNext_any r1 r2 _).mono ?_
      rintro e w6 ⟨rfl, hb⟩
      rw [HNY.out, HHV.out]
      have sz6 := hb.size
      have B6 := Lib.hid (below_chain B5.out hb)
      have Z_6 := Lib.hid (Z_5.out.below hb)
      have G_6 := Lib.hid (G_5.out.below hb)
      have R_6 := Lib.hid (R_5.out.below hb)
      have N_6 := Lib.hid (N_5.out.below hb)
      have F_6 := Lib.hid (F_5.out.below hb)
      clear hb B5 Z_5 G_5 R_5 N_5 F_5
      cases hv with
      | false =>
        obtain rfl : res = true := by rw [SN.out]; simp [KH.out, m0]
        go_wp2
        go_ret
        exact ⟨rfl, B6.out.alloc B6.out.size _⟩
      | true =>
        obtain rfl : res = false := by rw [SN.out]; simp [KH.out, m0]
        go_wp2
        go_ret
        exact ⟨rfl, B6.out.alloc B6.out.size _⟩
    · skip
      have KH := Lib.hid hk
      clear hk
      clear hW xN0 xN1 xN2 xN3
      refine (opOf_else k a b An m cn hr KH.out _).mono ?_
      rintro e w5 ⟨rfl, hb⟩
      have sz4 := hb.size
      have B4 := Lib.hid (below_chain B3.out hb)
      have Z_4 := Lib.hid (Z_3.out.below hb)
      have G_4 := Lib.hid (G_3.out.below hb)
      have R_4 := Lib.hid (R_3.out.below hb)
      have N_4 := Lib.hid (N_3.out.below hb)
      clear hb B3 Z_3 G_3 R_3 N_3
      clear hr
      obtain ⟨yy, zz, q1⟩ : ∃ (yy : Int) (zz : Nat), ∀ (xT : TypeId) (v : Value) (w : World), (Instr.typeAssert (.iface 121 v) xT 89 true).run Try.prog w = .ok (.tuple #[.agg #[.int .i64 yy, .int .i64 yy, .int .i64 yy, .slice none zz 0], .bool false]) w := ⟨0, 0, as_not_back (by decide)⟩
      obtain ⟨V5, hW⟩ : ∃ z, (w5.alloc (.cells #[.int .i64 yy, .int .i64 yy, .int .i64 yy, .slice none zz 0] 89)) = z := ⟨_, rfl⟩
      have hb : Below w5.heap.size w5 V5 := by rw [← hW]; exact ((Below.refl _ _).alloc (by first | (simp; done) | (simp; omega) | omega) _)
      have az : V5.heap.size = w5.heap.size + 1 := by rw [← hW]; simp
      have NF := Lib.hid (show Blk V5 (w5.heap.size) 89 #[.int .i64 yy, .int .i64 yy, .int .i64 yy, .slice none zz 0] by rw [← hW]; exact (Blk.new _ _ _))
      have AZV5 := Lib.hid az
      clear az
      have sz5 := hb.size
      have B5 := Lib.hid (below_chain B4.out hb)
      have Z_5 := Lib.hid (Z_4.out.below hb)
      have G_5 := Lib.hid (G_4.out.below hb)
      have R_5 := Lib.hid (R_4.out.below hb)
      have N_5 := Lib.hid (N_4.out.below hb)
      clear hb B4 Z_4 G_4 R_4 N_4
      have F_5 := NF
      clear NF
      have ltF : w5.heap.size < V5.heap.size := F_5.out.lt
      have xR0 : V5.cell? ⟨w.heap.size + 1, 0, none⟩ = some (.int .i64 r0) := by rw [R_5.out.cell]; rfl
      have xR1 : V5.cell? ⟨w.heap.size + 1, 1, none⟩ = some (.int .i64 r1) := by rw [R_5.out.cell]; rfl
      have xR2 : V5.cell? ⟨w.heap.size + 1, 2, none⟩ = some (.int .i64 r2) := by rw [R_5.out.cell]; rfl
      have xR3 : V5.cell? ⟨w.heap.size + 1, 3, none⟩ = some (.int .i64 r3) := by rw [R_5.out.cell]; rfl
      have xR4 : V5.cell? ⟨w.heap.size + 1, 4, none⟩ = some (.int .i64 r4) := by rw [R_5.out.cell]; rfl
      go_wp2_with fail
      clear hW xR0 xR1 xR2 xR3 xR4
      refine (implNext_any r1 r2 _).mono ?_
      rintro e w6 ⟨rfl, hb⟩
      rw [HNY.out, HHV.out]
      have sz6 := hb.size
      have B6 := Lib.hid (below_chain B5.out hb)
      have Z_6 := Lib.hid (Z_5.out.below hb)
      have G_6 := Lib.hid (G_5.out.below hb)
      have R_6 := Lib.hid (R_5.out.below hb)
      have N_6 := Lib.hid (N_5.out.below hb)
      have F_6 := Lib.hid (F_5.out.below hb)
      clear hb B5 Z_5 G_5 R_5 N_5 F_5
      obtain rfl : res = false := by rw [SN.out]; simp [KH.out]
      go_wp2
      go_ret
      exact ⟨rfl, B6.out.alloc B6.out.size _⟩
end Go.Proofs.Ytlanmkimaambgaa.hexes

