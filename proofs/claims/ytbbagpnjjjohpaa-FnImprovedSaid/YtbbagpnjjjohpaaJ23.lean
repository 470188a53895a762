/-
  The program's nodeFor: the node that processes a record, where the graph and the record are right.
-/
import Derived.Test.YtbbagpnjjjohpaaJ8
import Derived.Test.YtbbagpnjjjohpaaJ10
import Derived.Test.YtbbagpnjjjohpaaJ6
import Derived.Test.YtbbagpnjjjohpaaJ7
import Derived.Test.YtbbagpnjjjohpaaJ22
import Derived.Test.YtbbagpnjjjohpaaJ4

namespace Go.Proofs.Ytbbagpnjjjohpaa.hexes
open Go.RowKit

theorem implRcOkG_is {p0 p1 p2 p3 p4 : Int} {b : Bool} (h : okRc (p0, (p1, p2), p3, p4) = b) (w : World) : Calls Try.prog 74 #[.agg #[.int .i64 p0, .int .i64 p1, .int .i64 p2, .int .i64 p3, .int .i64 p4]] w fun e w' => e = .returned (.bool b) ∧ Below w.heap.size w w' := by
  subst h; exact (implRcOk_any _ _ _ _ _ w).mono fun _ _ h => ⟨h.1, by first | exact h.2 | exact h.2 ▸ Below.refl _ _⟩

set_option maxRecDepth 100000 in
set_option maxHeartbeats 4000000 in
theorem nodeFor_yes (gs : List Nd) (wk cp : Int) (A : Option Addr) (n c : Nat) (hl : gs.length = n) (ho : ∀ x ∈ gs, x.2.2.2.length ≤ 1048576) (hn : n ≤ 1048576) (r0 r1 r2 r3 r4 : Int) (w : World) (h : Nds w A gs) {k a b : Int} {zs : List Int} {m : Nat} (hx : nodeAt gs r0 = (k, a, b, zs)) (hm : zs.length = m) (hq : hasB gs r0 = true) (hgk : okGr gs dec1 wk cp = true) (hrk : okRc (r0, (r1, r2), r3, r4) = true) :
    Calls Try.prog 76 #[.agg #[.slice A n c, .int .i64 wk, .int .i64 cp], .agg #[.int .i64 r0, .int .i64 r1, .int .i64 r2, .int .i64 r3, .int .i64 r4]] w fun e w' => ∃ A1 c1, e = .returned (.tuple #[.agg #[.int .i64 k, .int .i64 a, .int .i64 b, .slice A1 m c1], .bool true]) ∧ Row w' w.heap.size w'.heap.size 3 1 A1 m c1 (isCells zs) ∧ Below w.heap.size w w' := by
  have HX := Lib.hid hx
  have HM := Lib.hid hm
  have HQ := Lib.hid hq
  have HGK := Lib.hid hgk
  have HRK := Lib.hid hrk
  have HL := Lib.hid hl
  have HO := Lib.hid ho
  have S0 := Lib.hid h
  clear hx hm hq hgk hrk hl ho h
  obtain ⟨V, hW⟩ : ∃ z, (((w.alloc (.cells #[.slice A n c, .int .i64 wk, .int .i64 cp] 26)).alloc (.cells #[.int .i64 r0, .int .i64 r1, .int .i64 r2, .int .i64 r3, .int .i64 r4] 51)).alloc (.cells #[.int .i64 0, .int .i64 0, .int .i64 0, .slice none 0 0] 46)) = z := ⟨_, rfl⟩
  have hb : Below w.heap.size w V := by rw [← hW]; exact ((((Below.refl _ _).alloc (by first | (simp; done) | (simp; omega) | omega) _).alloc (by first | (simp; done) | (simp; omega) | omega) _).alloc (by first | (simp; done) | (simp; omega) | omega) _)
  have az : V.heap.size = w.heap.size + 3 := by rw [← hW]; simp
  have NG := Lib.hid (show Blk V (w.heap.size) 26 #[.slice A n c, .int .i64 wk, .int .i64 cp] by rw [← hW]; exact ((Below.heap_alloc _ _ _ (by first | (simp; done) | (simp; omega))).trans ((Below.heap_alloc _ _ _ (by first | (simp; done) | (simp; omega))).trans (Blk.new _ _ _))))
  have NR := Lib.hid (show Blk V (w.heap.size + 1) 51 #[.int .i64 r0, .int .i64 r1, .int .i64 r2, .int .i64 r3, .int .i64 r4] by rw [← hW]; exact ((Below.heap_alloc _ _ _ (by first | (simp; done) | (simp; omega))).trans ((show w.heap.size + 1 = ((w.alloc _)).heap.size by simp) ▸ Blk.new _ _ _)))
  have NN := Lib.hid (show Blk V (w.heap.size + 2) 46 #[.int .i64 0, .int .i64 0, .int .i64 0, .slice none 0 0] by rw [← hW]; exact ((show w.heap.size + 2 = (((w.alloc _).alloc _)).heap.size by simp) ▸ Blk.new _ _ _))
  have AZV := Lib.hid az
  clear az
  have sz1 := hb.size
  have B1 := Lib.hid (hb)
  clear hb
  have G_1 := NG
  clear NG
  have ltG : w.heap.size < V.heap.size := G_1.out.lt
  have R_1 := NR
  clear NR
  have ltR : w.heap.size + 1 < V.heap.size := R_1.out.lt
  have N_1 := NN
  clear NN
  have ltN : w.heap.size + 2 < V.heap.size := N_1.out.lt
  go_enter Try.func76, Try.ntmps76
  have xG0 : V.cell? ⟨w.heap.size, 0, none⟩ = some (.slice A n c) := by rw [G_1.out.cell]; rfl
  have xG1 : V.cell? ⟨w.heap.size, 1, none⟩ = some (.int .i64 wk) := by rw [G_1.out.cell]; rfl
  have xG2 : V.cell? ⟨w.heap.size, 2, none⟩ = some (.int .i64 cp) := by rw [G_1.out.cell]; rfl
  go_wp2_with fail
  clear hW xG0 xG1 xG2
  refine (implGrOk_any gs wk cp A n c HL.out HO.out hn HGK.out _ (S0.out.below B1.out)).mono ?_
  rintro e w5 ⟨rfl, hb⟩
  have sz2 := hb.size
  have B2 := Lib.hid (below_chain B1.out hb)
  have G_2 := Lib.hid (G_1.out.below hb)
  have R_2 := Lib.hid (R_1.out.below hb)
  have N_2 := Lib.hid (N_1.out.below hb)
  clear hb B1 G_1 R_1 N_1
  have xR0 : w5.cell? ⟨w.heap.size + 1, 0, none⟩ = some (.int .i64 r0) := by rw [R_2.out.cell]; rfl
  have xR1 : w5.cell? ⟨w.heap.size + 1, 1, none⟩ = some (.int .i64 r1) := by rw [R_2.out.cell]; rfl
  have xR2 : w5.cell? ⟨w.heap.size + 1, 2, none⟩ = some (.int .i64 r2) := by rw [R_2.out.cell]; rfl
  have xR3 : w5.cell? ⟨w.heap.size + 1, 3, none⟩ = some (.int .i64 r3) := by rw [R_2.out.cell]; rfl
  have xR4 : w5.cell? ⟨w.heap.size + 1, 4, none⟩ = some (.int .i64 r4) := by rw [R_2.out.cell]; rfl
  go_wp2_with fail
  clear xR0 xR1 xR2 xR3 xR4
  refine (implRcOkG_is HRK.out _).mono ?_
  rintro e w6 ⟨rfl, hb⟩
  have sz3 := hb.size
  have B3 := Lib.hid (below_chain B2.out hb)
  have G_3 := Lib.hid (G_2.out.below hb)
  have R_3 := Lib.hid (R_2.out.below hb)
  have N_3 := Lib.hid (N_2.out.below hb)
  clear hb B2 G_2 R_2 N_2
  have xG0 : w6.cell? ⟨w.heap.size, 0, none⟩ = some (.slice A n c) := by rw [G_3.out.cell]; rfl
  have xG1 : w6.cell? ⟨w.heap.size, 1, none⟩ = some (.int .i64 wk) := by rw [G_3.out.cell]; rfl
  have xG2 : w6.cell? ⟨w.heap.size, 2, none⟩ = some (.int .i64 cp) := by rw [G_3.out.cell]; rfl
  have xR0 : w6.cell? ⟨w.heap.size + 1, 0, none⟩ = some (.int .i64 r0) := by rw [R_3.out.cell]; rfl
  have xR1 : w6.cell? ⟨w.heap.size + 1, 1, none⟩ = some (.int .i64 r1) := by rw [R_3.out.cell]; rfl
  have xR2 : w6.cell? ⟨w.heap.size + 1, 2, none⟩ = some (.int .i64 r2) := by rw [R_3.out.cell]; rfl
  have xR3 : w6.cell? ⟨w.heap.size + 1, 3, none⟩ = some (.int .i64 r3) := by rw [R_3.out.cell]; rfl
  have xR4 : w6.cell? ⟨w.heap.size + 1, 4, none⟩ = some (.int .i64 r4) := by rw [R_3.out.cell]; rfl
  go_wp2_with fail
  clear xG0 xG1 xG2 xR0 xR1 xR2 xR3 xR4
  refine (implNodeOf_row HX.out HM.out HQ.out wk cp A n c HL.out HO.out hn _ (S0.out.below B3.out)).mono ?_
  rintro e w7 ⟨An, cn, rfl, rZ, hb⟩
  have sz4 := hb.size
  have B4 := Lib.hid (below_chain B3.out hb)
  have G_4 := Lib.hid (G_3.out.below hb)
  have R_4 := Lib.hid (R_3.out.below hb)
  have N_4 := Lib.hid (N_3.out.below hb)
  clear hb B3 G_3 R_3 N_3
  have Z_4 := Lib.hid rZ
  clear rZ
  have xN0 : w7.cell? ⟨w.heap.size + 1 + 1, 0, none⟩ = some (.int .i64 0) := by rw [N_4.out.cell]; rfl
  have xN1 : w7.cell? ⟨w.heap.size + 1 + 1, 1, none⟩ = some (.int .i64 0) := by rw [N_4.out.cell]; rfl
  have xN2 : w7.cell? ⟨w.heap.size + 1 + 1, 2, none⟩ = some (.int .i64 0) := by rw [N_4.out.cell]; rfl
  have xN3 : w7.cell? ⟨w.heap.size + 1 + 1, 3, none⟩ = some (.slice none 0 0) := by rw [N_4.out.cell]; rfl
  have ft0 : w7.frozen? ⟨w.heap.size + 1 + 1, 0, none⟩ = false := N_4.out.frozen 0
  have ft1 : w7.frozen? ⟨w.heap.size + 1 + 1, 1, none⟩ = false := N_4.out.frozen 1
  have ft2 : w7.frozen? ⟨w.heap.size + 1 + 1, 2, none⟩ = false := N_4.out.frozen 2
  have ft3 : w7.frozen? ⟨w.heap.size + 1 + 1, 3, none⟩ = false := N_4.out.frozen 3
  go_wp2_with fail
  clear xN0 xN1 xN2 xN3 ft0 ft1 ft2 ft3
  generalize hWf : (((w7.setCell _ _).setCell _ _).setCell _ _).setCell _ _ = Wf
  have bf : Blk Wf (w.heap.size + 1 + 1) 46 #[.int .i64 k, .int .i64 a, .int .i64 b, .slice An m cn] := by rw [← hWf]; exact ((((N_4.out.put 0 _).put 1 _).put 2 _).put 3 _)
  have hb : Below w.heap.size w Wf := by rw [← hWf]; exact ((((B4.out.setCell (by first | (simp; done) | (simp; omega)) _).setCell (by first | (simp; done) | (simp; omega)) _).setCell (by first | (simp; done) | (simp; omega)) _).setCell (by first | (simp; done) | (simp; omega)) _)
  have e0 : Wf.cell? ⟨w.heap.size + 1 + 1, 0, none⟩ = some (.int .i64 k) := by rw [bf.cell]; rfl
  have e1 : Wf.cell? ⟨w.heap.size + 1 + 1, 1, none⟩ = some (.int .i64 a) := by rw [bf.cell]; rfl
  have e2 : Wf.cell? ⟨w.heap.size + 1 + 1, 2, none⟩ = some (.int .i64 b) := by rw [bf.cell]; rfl
  have e3 : Wf.cell? ⟨w.heap.size + 1 + 1, 3, none⟩ = some (.slice An m cn) := by rw [bf.cell]; rfl
  have ho : Wf.ownsRow w.heap.size 3 1 (.slice An m cn) m (isCells zs) := by
    rw [← hWf]
    exact own_base (own_set (own_set (own_set (own_set Z_4.out.own _ (by simp; omega)) _ (by simp; omega)) _ (by simp; omega)) _ (by simp; omega)) (by omega)
  obtain ⟨A9, c9, he, hr⟩ := row_of ho
  simp only [Value.slice.injEq, true_and] at he
  obtain ⟨rfl, rfl⟩ := he
  exact bodyPost_ret (v := .tuple #[.agg #[.int .i64 k, .int .i64 a, .int .i64 b, .slice An m cn], .bool true]) (by simp [results, Try.results76, go_sem, e0, e1, e2, e3]) rfl ⟨An, cn, rfl, hr, hb⟩

set_option maxRecDepth 100000 in
set_option maxHeartbeats 4000000 in
theorem implNodeOf_none {gs : List Nd} {op : Int} (hq : hasB gs op = false) (wk cp : Int) (A : Option Addr) (n c : Nat) (hl : gs.length = n) (hn : n ≤ 1048576) (w : World) :
    Calls Try.prog 62 #[.agg #[.slice A n c, .int .i64 wk, .int .i64 cp], .int .i64 op] w fun e w' => e = .returned (.tuple #[.agg #[.int .i64 0, .int .i64 0, .int .i64 0, .slice none 0 0], .bool false]) ∧ Below w.heap.size w w' := by
  have HQ := Lib.hid hq
  have HL := Lib.hid hl
  clear hq hl
  obtain ⟨V, hW⟩ : ∃ z, ((w.alloc (.cells #[.slice A n c, .int .i64 wk, .int .i64 cp] 26)).alloc (.cells #[.int .i64 0, .int .i64 0, .int .i64 0, .slice none 0 0] 46)) = z := ⟨_, rfl⟩
  have hb : Below w.heap.size w V := by rw [← hW]; exact (((Below.refl _ _).alloc (by first | (simp; done) | (simp; omega) | omega) _).alloc (by first | (simp; done) | (simp; omega) | omega) _)
  have az : V.heap.size = w.heap.size + 2 := by rw [← hW]; simp
  have NG := Lib.hid (show Blk V (w.heap.size) 26 #[.slice A n c, .int .i64 wk, .int .i64 cp] by rw [← hW]; exact ((Below.heap_alloc _ _ _ (by first | (simp; done) | (simp; omega))).trans (Blk.new _ _ _)))
  have NN := Lib.hid (show Blk V (w.heap.size + 1) 46 #[.int .i64 0, .int .i64 0, .int .i64 0, .slice none 0 0] by rw [← hW]; exact ((show w.heap.size + 1 = ((w.alloc _)).heap.size by simp) ▸ Blk.new _ _ _))
  have AZV := Lib.hid az
  clear az
  have sz1 := hb.size
  have B1 := Lib.hid (hb)
  clear hb
  have G_1 := NG
  clear NG
  have ltG : w.heap.size < V.heap.size := G_1.out.lt
  have N_1 := NN
  clear NN
  have ltN : w.heap.size + 1 < V.heap.size := N_1.out.lt
  go_enter Try.func62, Try.ntmps62
  have xG0 : V.cell? ⟨w.heap.size, 0, none⟩ = some (.slice A n c) := by rw [G_1.out.cell]; rfl
  have xG1 : V.cell? ⟨w.heap.size, 1, none⟩ = some (.int .i64 wk) := by rw [G_1.out.cell]; rfl
  have xG2 : V.cell? ⟨w.heap.size, 2, none⟩ = some (.int .i64 cp) := by rw [G_1.out.cell]; rfl
  go_wp2_with fail
  clear hW xG0 xG1 xG2
  refine (hasNode_is (n := n) (r := false) (by rw [← HL.out]; exact HQ.out) A c hn _).mono ?_
  rintro e w1 ⟨rfl, rfl⟩
  have xG0 : V.cell? ⟨w.heap.size, 0, none⟩ = some (.slice A n c) := by rw [G_1.out.cell]; rfl
  have xG1 : V.cell? ⟨w.heap.size, 1, none⟩ = some (.int .i64 wk) := by rw [G_1.out.cell]; rfl
  have xG2 : V.cell? ⟨w.heap.size, 2, none⟩ = some (.int .i64 cp) := by rw [G_1.out.cell]; rfl
  have xN0 : V.cell? ⟨w.heap.size + 1, 0, none⟩ = some (.int .i64 0) := by rw [N_1.out.cell]; rfl
  have xN1 : V.cell? ⟨w.heap.size + 1, 1, none⟩ = some (.int .i64 0) := by rw [N_1.out.cell]; rfl
  have xN2 : V.cell? ⟨w.heap.size + 1, 2, none⟩ = some (.int .i64 0) := by rw [N_1.out.cell]; rfl
  have xN3 : V.cell? ⟨w.heap.size + 1, 3, none⟩ = some (.slice none 0 0) := by rw [N_1.out.cell]; rfl
  have ft0 : V.frozen? ⟨w.heap.size + 1, 0, none⟩ = false := N_1.out.frozen 0
  have ft1 : V.frozen? ⟨w.heap.size + 1, 1, none⟩ = false := N_1.out.frozen 1
  have ft2 : V.frozen? ⟨w.heap.size + 1, 2, none⟩ = false := N_1.out.frozen 2
  have ft3 : V.frozen? ⟨w.heap.size + 1, 3, none⟩ = false := N_1.out.frozen 3
  go_wp2_with fail
  clear xG0 xG1 xG2 xN0 xN1 xN2 xN3 ft0 ft1 ft2 ft3
  generalize hWf : (((V.setCell _ _).setCell _ _).setCell _ _).setCell _ _ = Wf
  have bf : Blk Wf (w.heap.size + 1) 46 #[.int .i64 0, .int .i64 0, .int .i64 0, .slice none 0 0] := by rw [← hWf]; exact ((((N_1.out.put 0 _).put 1 _).put 2 _).put 3 _)
  have hb : Below w.heap.size w Wf := by rw [← hWf]; exact ((((B1.out.setCell (by first | (simp; done) | (simp; omega)) _).setCell (by first | (simp; done) | (simp; omega)) _).setCell (by first | (simp; done) | (simp; omega)) _).setCell (by first | (simp; done) | (simp; omega)) _)
  have e0 : Wf.cell? ⟨w.heap.size + 1, 0, none⟩ = some (.int .i64 0) := by rw [bf.cell]; rfl
  have e1 : Wf.cell? ⟨w.heap.size + 1, 1, none⟩ = some (.int .i64 0) := by rw [bf.cell]; rfl
  have e2 : Wf.cell? ⟨w.heap.size + 1, 2, none⟩ = some (.int .i64 0) := by rw [bf.cell]; rfl
  have e3 : Wf.cell? ⟨w.heap.size + 1, 3, none⟩ = some (.slice none 0 0) := by rw [bf.cell]; rfl
  exact bodyPost_ret (v := .tuple #[.agg #[.int .i64 0, .int .i64 0, .int .i64 0, .slice none 0 0], .bool false]) (by simp [results, Try.results62, go_sem, e0, e1, e2, e3]) rfl ⟨rfl, hb⟩

set_option maxRecDepth 100000 in
set_option maxHeartbeats 4000000 in
theorem nodeFor_no (gs : List Nd) (wk cp : Int) (A : Option Addr) (n c : Nat) (hl : gs.length = n) (ho : ∀ x ∈ gs, x.2.2.2.length ≤ 1048576) (hn : n ≤ 1048576) (r0 r1 r2 r3 r4 : Int) (w : World) (h : Nds w A gs) (hno : (hasB gs r0 && okGr gs dec1 wk cp && okRc (r0, (r1, r2), r3, r4)) = false) :
    Calls Try.prog 76 #[.agg #[.slice A n c, .int .i64 wk, .int .i64 cp], .agg #[.int .i64 r0, .int .i64 r1, .int .i64 r2, .int .i64 r3, .int .i64 r4]] w fun e w' => e = .returned (.tuple #[.agg #[.int .i64 0, .int .i64 0, .int .i64 0, .slice none 0 0], .bool false]) ∧ Below w.heap.size w w' := by
  obtain ⟨⟨k, a, b, zs⟩, hx⟩ : ∃ x, nodeAt gs r0 = x := ⟨_, rfl⟩
  obtain ⟨m, hm⟩ : ∃ m, zs.length = m := ⟨_, rfl⟩
  obtain ⟨q, hq⟩ : ∃ q, hasB gs r0 = q := ⟨_, rfl⟩
  obtain ⟨gk, hgk⟩ : ∃ q, okGr gs dec1 wk cp = q := ⟨_, rfl⟩
  obtain ⟨rk, hrk⟩ : ∃ q, okRc (r0, (r1, r2), r3, r4) = q := ⟨_, rfl⟩
  rw [hq, hgk, hrk] at hno
  have HN := Lib.hid hno
  clear hno
  have HX := Lib.hid hx
  have HM := Lib.hid hm
  have HQ := Lib.hid hq
  have HGK := Lib.hid hgk
  have HRK := Lib.hid hrk
  have HL := Lib.hid hl
  have HO := Lib.hid ho
  have S0 := Lib.hid h
  clear hx hm hq hgk hrk hl ho h
  obtain ⟨V, hW⟩ : ∃ z, (((w.alloc (.cells #[.slice A n c, .int .i64 wk, .int .i64 cp] 26)).alloc (.cells #[.int .i64 r0, .int .i64 r1, .int .i64 r2, .int .i64 r3, .int .i64 r4] 51)).alloc (.cells #[.int .i64 0, .int .i64 0, .int .i64 0, .slice none 0 0] 46)) = z := ⟨_, rfl⟩
  have hb : Below w.heap.size w V := by rw [← hW]; exact ((((Below.refl _ _).alloc (by first | (simp; done) | (simp; omega) | omega) _).alloc (by first | (simp; done) | (simp; omega) | omega) _).alloc (by first | (simp; done) | (simp; omega) | omega) _)
  have az : V.heap.size = w.heap.size + 3 := by rw [← hW]; simp
  have NG := Lib.hid (show Blk V (w.heap.size) 26 #[.slice A n c, .int .i64 wk, .int .i64 cp] by rw [← hW]; exact ((Below.heap_alloc _ _ _ (by first | (simp; done) | (simp; omega))).trans ((Below.heap_alloc _ _ _ (by first | (simp; done) | (simp; omega))).trans (Blk.new _ _ _))))
  have NR := Lib.hid (show Blk V (w.heap.size + 1) 51 #[.int .i64 r0, .int .i64 r1, .int .i64 r2, .int .i64 r3, .int .i64 r4] by rw [← hW]; exact ((Below.heap_alloc _ _ _ (by first | (simp; done) | (simp; omega))).trans ((show w.heap.size + 1 = ((w.alloc _)).heap.size by simp) ▸ Blk.new _ _ _)))
  have NN := Lib.hid (show Blk V (w.heap.size + 2) 46 #[.int .i64 0, .int .i64 0, .int .i64 0, .slice none 0 0] by rw [← hW]; exact ((show w.heap.size + 2 = (((w.alloc _).alloc _)).heap.size by simp) ▸ Blk.new _ _ _))
  have AZV := Lib.hid az
  clear az
  have sz1 := hb.size
  have B1 := Lib.hid (hb)
  clear hb
  have G_1 := NG
  clear NG
  have ltG : w.heap.size < V.heap.size := G_1.out.lt
  have R_1 := NR
  clear NR
  have ltR : w.heap.size + 1 < V.heap.size := R_1.out.lt
  have N_1 := NN
  clear NN
  have ltN : w.heap.size + 2 < V.heap.size := N_1.out.lt
  go_enter Try.func76, Try.ntmps76
  have xG0 : V.cell? ⟨w.heap.size, 0, none⟩ = some (.slice A n c) := by rw [G_1.out.cell]; rfl
  have xG1 : V.cell? ⟨w.heap.size, 1, none⟩ = some (.int .i64 wk) := by rw [G_1.out.cell]; rfl
  have xG2 : V.cell? ⟨w.heap.size, 2, none⟩ = some (.int .i64 cp) := by rw [G_1.out.cell]; rfl
  go_wp2_with fail
  clear hW xG0 xG1 xG2
  refine (implGrOk_any gs wk cp A n c HL.out HO.out hn HGK.out _ (S0.out.below B1.out)).mono ?_
  rintro e w5 ⟨rfl, hb⟩
  have sz2 := hb.size
  have B2 := Lib.hid (below_chain B1.out hb)
  have G_2 := Lib.hid (G_1.out.below hb)
  have R_2 := Lib.hid (R_1.out.below hb)
  have N_2 := Lib.hid (N_1.out.below hb)
  clear hb B1 G_1 R_1 N_1
  cases gk with
  | false =>
    have xN0 : w5.cell? ⟨w.heap.size + 1 + 1, 0, none⟩ = some (.int .i64 0) := by rw [N_2.out.cell]; rfl
    have xN1 : w5.cell? ⟨w.heap.size + 1 + 1, 1, none⟩ = some (.int .i64 0) := by rw [N_2.out.cell]; rfl
    have xN2 : w5.cell? ⟨w.heap.size + 1 + 1, 2, none⟩ = some (.int .i64 0) := by rw [N_2.out.cell]; rfl
    have xN3 : w5.cell? ⟨w.heap.size + 1 + 1, 3, none⟩ = some (.slice none 0 0) := by rw [N_2.out.cell]; rfl
    have ft0 : w5.frozen? ⟨w.heap.size + 1 + 1, 0, none⟩ = false := N_2.out.frozen 0
    have ft1 : w5.frozen? ⟨w.heap.size + 1 + 1, 1, none⟩ = false := N_2.out.frozen 1
    have ft2 : w5.frozen? ⟨w.heap.size + 1 + 1, 2, none⟩ = false := N_2.out.frozen 2
    have ft3 : w5.frozen? ⟨w.heap.size + 1 + 1, 3, none⟩ = false := N_2.out.frozen 3
    go_wp2_with fail
    clear xN0 xN1 xN2 xN3 ft0 ft1 ft2 ft3
    generalize hWf : (((w5.setCell _ _).setCell _ _).setCell _ _).setCell _ _ = Wf
    have bf : Blk Wf (w.heap.size + 1 + 1) 46 #[.int .i64 0, .int .i64 0, .int .i64 0, .slice none 0 0] := by rw [← hWf]; exact ((((N_2.out.put 0 _).put 1 _).put 2 _).put 3 _)
    have hb : Below w.heap.size w Wf := by rw [← hWf]; exact ((((B2.out.setCell (by first | (simp; done) | (simp; omega)) _).setCell (by first | (simp; done) | (simp; omega)) _).setCell (by first | (simp; done) | (simp; omega)) _).setCell (by first | (simp; done) | (simp; omega)) _)
    have e0 : Wf.cell? ⟨w.heap.size + 1 + 1, 0, none⟩ = some (.int .i64 0) := by rw [bf.cell]; rfl
    have e1 : Wf.cell? ⟨w.heap.size + 1 + 1, 1, none⟩ = some (.int .i64 0) := by rw [bf.cell]; rfl
    have e2 : Wf.cell? ⟨w.heap.size + 1 + 1, 2, none⟩ = some (.int .i64 0) := by rw [bf.cell]; rfl
    have e3 : Wf.cell? ⟨w.heap.size + 1 + 1, 3, none⟩ = some (.slice none 0 0) := by rw [bf.cell]; rfl
    exact bodyPost_ret (v := .tuple #[.agg #[.int .i64 0, .int .i64 0, .int .i64 0, .slice none 0 0], .bool false]) (by simp [results, Try.results76, go_sem, e0, e1, e2, e3]) rfl ⟨rfl, hb⟩
  | true =>
    have xR0 : w5.cell? ⟨w.heap.size + 1, 0, none⟩ = some (.int .i64 r0) := by rw [R_2.out.cell]; rfl
    have xR1 : w5.cell? ⟨w.heap.size + 1, 1, none⟩ = some (.int .i64 r1) := by rw [R_2.out.cell]; rfl
    have xR2 : w5.cell? ⟨w.heap.size + 1, 2, none⟩ = some (.int .i64 r2) := by rw [R_2.out.cell]; rfl
    have xR3 : w5.cell? ⟨w.heap.size + 1, 3, none⟩ = some (.int .i64 r3) := by rw [R_2.out.cell]; rfl
    have xR4 : w5.cell? ⟨w.heap.size + 1, 4, none⟩ = some (.int .i64 r4) := by rw [R_2.out.cell]; rfl
    go_wp2_with fail
    clear xR0 xR1 xR2 xR3 xR4
    refine (implRcOkG_is HRK.out _).mono ?_
    rintro e w6 ⟨rfl, hb⟩
    have sz3 := hb.size
    have B3 := Lib.hid (below_chain B2.out hb)
    have G_3 := Lib.hid (G_2.out.below hb)
    have R_3 := Lib.hid (R_2.out.below hb)
    have N_3 := Lib.hid (N_2.out.below hb)
    clear hb B2 G_2 R_2 N_2
    cases rk with
    | false =>
      have xN0 : w6.cell? ⟨w.heap.size + 1 + 1, 0, none⟩ = some (.int .i64 0) := by rw [N_3.out.cell]; rfl
      have xN1 : w6.cell? ⟨w.heap.size + 1 + 1, 1, none⟩ = some (.int .i64 0) := by rw [N_3.out.cell]; rfl
      have xN2 : w6.cell? ⟨w.heap.size + 1 + 1, 2, none⟩ = some (.int .i64 0) := by rw [N_3.out.cell]; rfl
      have xN3 : w6.cell? ⟨w.heap.size + 1 + 1, 3, none⟩ = some (.slice none 0 0) := by rw [N_3.out.cell]; rfl
      have ft0 : w6.frozen? ⟨w.heap.size + 1 + 1, 0, none⟩ = false := N_3.out.frozen 0
      have ft1 : w6.frozen? ⟨w.heap.size + 1 + 1, 1, none⟩ = false := N_3.out.frozen 1
      have ft2 : w6.frozen? ⟨w.heap.size + 1 + 1, 2, none⟩ = false := N_3.out.frozen 2
      have ft3 : w6.frozen? ⟨w.heap.size + 1 + 1, 3, none⟩ = false := N_3.out.frozen 3
      go_wp2_with fail
      clear xN0 xN1 xN2 xN3 ft0 ft1 ft2 ft3
      generalize hWf : (((w6.setCell _ _).setCell _ _).setCell _ _).setCell _ _ = Wf
      have bf : Blk Wf (w.heap.size + 1 + 1) 46 #[.int .i64 0, .int .i64 0, .int .i64 0, .slice none 0 0] := by rw [← hWf]; exact ((((N_3.out.put 0 _).put 1 _).put 2 _).put 3 _)
      have hb : Below w.heap.size w Wf := by rw [← hWf]; exact ((((B3.out.setCell (by first | (simp; done) | (simp; omega)) _).setCell (by first | (simp; done) | (simp; omega)) _).setCell (by first | (simp; done) | (simp; omega)) _).setCell (by first | (simp; done) | (simp; omega)) _)
      have e0 : Wf.cell? ⟨w.heap.size + 1 + 1, 0, none⟩ = some (.int .i64 0) := by rw [bf.cell]; rfl
      have e1 : Wf.cell? ⟨w.heap.size + 1 + 1, 1, none⟩ = some (.int .i64 0) := by rw [bf.cell]; rfl
      have e2 : Wf.cell? ⟨w.heap.size + 1 + 1, 2, none⟩ = some (.int .i64 0) := by rw [bf.cell]; rfl
      have e3 : Wf.cell? ⟨w.heap.size + 1 + 1, 3, none⟩ = some (.slice none 0 0) := by rw [bf.cell]; rfl
      exact bodyPost_ret (v := .tuple #[.agg #[.int .i64 0, .int .i64 0, .int .i64 0, .slice none 0 0], .bool false]) (by simp [results, Try.results76, go_sem, e0, e1, e2, e3]) rfl ⟨rfl, hb⟩
    | true =>
      obtain rfl : q = false := by have h := HN.out; simpa using h
      obtain ⟨rfl, rfl, rfl, rfl⟩ : k = 0 ∧ a = 0 ∧ b = 0 ∧ zs = [] := by
        have h := HX.out
        rw [nodeAt_none HQ.out] at h
        unfold nd0 at h
        simp only [Prod.mk.injEq] at h
        exact ⟨h.1.symm, h.2.1.symm, h.2.2.1.symm, h.2.2.2.symm⟩
      have xG0 : w6.cell? ⟨w.heap.size, 0, none⟩ = some (.slice A n c) := by rw [G_3.out.cell]; rfl
      have xG1 : w6.cell? ⟨w.heap.size, 1, none⟩ = some (.int .i64 wk) := by rw [G_3.out.cell]; rfl
      have xG2 : w6.cell? ⟨w.heap.size, 2, none⟩ = some (.int .i64 cp) := by rw [G_3.out.cell]; rfl
      have xR0 : w6.cell? ⟨w.heap.size + 1, 0, none⟩ = some (.int .i64 r0) := by rw [R_3.out.cell]; rfl
      have xR1 : w6.cell? ⟨w.heap.size + 1, 1, none⟩ = some (.int .i64 r1) := by rw [R_3.out.cell]; rfl
      have xR2 : w6.cell? ⟨w.heap.size + 1, 2, none⟩ = some (.int .i64 r2) := by rw [R_3.out.cell]; rfl
      have xR3 : w6.cell? ⟨w.heap.size + 1, 3, none⟩ = some (.int .i64 r3) := by rw [R_3.out.cell]; rfl
      have xR4 : w6.cell? ⟨w.heap.size + 1, 4, none⟩ = some (.int .i64 r4) := by rw [R_3.out.cell]; rfl
      go_wp2_with fail
      clear xG0 xG1 xG2 xR0 xR1 xR2 xR3 xR4
      refine (implNodeOf_none HQ.out wk cp A n c HL.out hn _).mono ?_
      rintro e w7 ⟨rfl, hb⟩
      have sz4 := hb.size
      have B4 := Lib.hid (below_chain B3.out hb)
      have G_4 := Lib.hid (G_3.out.below hb)
      have R_4 := Lib.hid (R_3.out.below hb)
      have N_4 := Lib.hid (N_3.out.below hb)
      clear hb B3 G_3 R_3 N_3
      have xN0 : w7.cell? ⟨w.heap.size + 1 + 1, 0, none⟩ = some (.int .i64 0) := by rw [N_4.out.cell]; rfl
      have xN1 : w7.cell? ⟨w.heap.size + 1 + 1, 1, none⟩ = some (.int .i64 0) := by rw [N_4.out.cell]; rfl
      have xN2 : w7.cell? ⟨w.heap.size + 1 + 1, 2, none⟩ = some (.int .i64 0) := by rw [N_4.out.cell]; rfl
      have xN3 : w7.cell? ⟨w.heap.size + 1 + 1, 3, none⟩ = some (.slice none 0 0) := by rw [N_4.out.cell]; rfl
      have ft0 : w7.frozen? ⟨w.heap.size + 1 + 1, 0, none⟩ = false := N_4.out.frozen 0
      have ft1 : w7.frozen? ⟨w.heap.size + 1 + 1, 1, none⟩ = false := N_4.out.frozen 1
      have ft2 : w7.frozen? ⟨w.heap.size + 1 + 1, 2, none⟩ = false := N_4.out.frozen 2
      have ft3 : w7.frozen? ⟨w.heap.size + 1 + 1, 3, none⟩ = false := N_4.out.frozen 3
      go_wp2_with fail
      clear xN0 xN1 xN2 xN3 ft0 ft1 ft2 ft3
      generalize hWf : (((w7.setCell _ _).setCell _ _).setCell _ _).setCell _ _ = Wf
      have bf : Blk Wf (w.heap.size + 1 + 1) 46 #[.int .i64 0, .int .i64 0, .int .i64 0, .slice none 0 0] := by rw [← hWf]; exact ((((N_4.out.put 0 _).put 1 _).put 2 _).put 3 _)
      have hb : Below w.heap.size w Wf := by rw [← hWf]; exact ((((B4.out.setCell (by first | (simp; done) | (simp; omega)) _).setCell (by first | (simp; done) | (simp; omega)) _).setCell (by first | (simp; done) | (simp; omega)) _).setCell (by first | (simp; done) | (simp; omega)) _)
      have e0 : Wf.cell? ⟨w.heap.size + 1 + 1, 0, none⟩ = some (.int .i64 0) := by rw [bf.cell]; rfl
      have e1 : Wf.cell? ⟨w.heap.size + 1 + 1, 1, none⟩ = some (.int .i64 0) := by rw [bf.cell]; rfl
      have e2 : Wf.cell? ⟨w.heap.size + 1 + 1, 2, none⟩ = some (.int .i64 0) := by rw [bf.cell]; rfl
      have e3 : Wf.cell? ⟨w.heap.size + 1 + 1, 3, none⟩ = some (.slice none 0 0) := by rw [bf.cell]; rfl
      exact bodyPost_ret (v := .tuple #[.agg #[.int .i64 0, .int .i64 0, .int .i64 0, .slice none 0 0], .bool false]) (by simp [results, Try.results76, go_sem, e0, e1, e2, e3]) rfl ⟨rfl, hb⟩
end Go.Proofs.Ytbbagpnjjjohpaa.hexes

