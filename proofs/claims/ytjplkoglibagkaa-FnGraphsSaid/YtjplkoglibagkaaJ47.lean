/-
  Chapter 8's draws: of the arguments of GraphOk, NodeOf, Reaches and SameGraph.
-/
import Derived.Test.YtjplkoglibagkaaJ43
import Derived.Test.YtjplkoglibagkaaJ44
import Derived.Test.YtjplkoglibagkaaRegG4
import Derived.Test.YtjplkoglibagkaaJ46

namespace Go.Proofs.Ytjplkoglibagkaa.hexes
open Go.RowKit

/-- A graph that a draw gave. -/
structure GrGot (w' : World) (A1 : Option Addr) (n : Nat) (gs : List Nd) : Prop where
  le : n ≤ 9
  len : gs.length = n
  outs : ∀ x ∈ gs, x.2.2.2.length ≤ 4
  nds : Nds w' A1 gs

theorem GrGot.below {w w' : World} {A : Option Addr} {n : Nat} {gs : List Nd} (h : GrGot w A n gs) (hb : Below w.heap.size w w') : GrGot w' A n gs := ⟨h.le, h.len, h.outs, h.nds.below hb⟩

def GrDraw (w : World) (e : Ending) (w' : World) : Prop := ∃ (A1 : Option Addr) (n c1 : Nat) (wk cp : Int) (gs : List Nd), GrGot w' A1 n gs ∧ e = .returned (.agg #[.slice A1 n c1, .int .i64 wk, .int .i64 cp]) ∧ Below w.heap.size w w'
def GrNumDraw (w : World) (e : Ending) (w' : World) : Prop := ∃ (A1 : Option Addr) (n c1 : Nat) (wk cp : Int) (gs : List Nd) (x : Int), GrGot w' A1 n gs ∧ e = .returned (.tuple #[.agg #[.slice A1 n c1, .int .i64 wk, .int .i64 cp], .int .i64 x]) ∧ Below w.heap.size w w'
def GrTwoDraw (w : World) (e : Ending) (w' : World) : Prop := ∃ (A1 : Option Addr) (n c1 : Nat) (wk cp : Int) (gs : List Nd) (x y : Int), GrGot w' A1 n gs ∧ e = .returned (.tuple #[.agg #[.slice A1 n c1, .int .i64 wk, .int .i64 cp], .int .i64 x, .int .i64 y]) ∧ Below w.heap.size w w'
def GrPairDraw (w : World) (e : Ending) (w' : World) : Prop := ∃ (A1 : Option Addr) (n c1 : Nat) (wk cp : Int) (gs : List Nd) (A12 : Option Addr) (n2 c12 : Nat) (wk2 cp2 : Int) (gs2 : List Nd), GrGot w' A1 n gs ∧ GrGot w' A12 n2 gs2 ∧ e = .returned (.tuple #[.agg #[.slice A1 n c1, .int .i64 wk, .int .i64 cp], .agg #[.slice A12 n2 c12, .int .i64 wk2, .int .i64 cp2]]) ∧ Below w.heap.size w w'

set_option maxRecDepth 100000 in
set_option maxHeartbeats 8000000 in
theorem drawGrOk_any (w : World) (A : Option Addr) (len cap : Nat) (hlen : len ≤ 2097152) (hcame : Came w A len) :
    Calls Try.prog 11 #[.slice A len cap] w (GrDraw w) := by
  have HC := Lib.hid hcame
  clear hcame
  go_enter Try.func11, Try.ntmps11
  go_wp2_with fail
  generalize hW : (w.alloc _) = W
  have bW : Below w.heap.size w W := by rw [← hW]; exact ((Below.refl _ _).alloc (by first | (simp; done) | (simp; omega)) _)
  have r0 : Blk W (w.heap.size) 26 #[.slice none 0 0, .int .i64 0, .int .i64 0] := by rw [← hW]; exact (Blk.new _ _ _)
  have hrl := r0.lt
  clear hW
  refine (new_any W A len cap hlen (HC.out.below bW)).mono ?_
  rintro e w1 ⟨c, rfl, hcw, hcur, hb1⟩
  have z1 := hb1.size
  have hck : ∀ k, some c = some k → w.heap.size ≤ k := fun k hk => by simp at hk; omega
  have C0 := Lib.hid hcur
  have hcl := hcur.lt
  have B0 := Lib.hid (below_chain bW hb1)
  have R0_0 := Lib.hid (r0.below hb1)
  clear hcur hb1 bW HC r0
  go_wp2_with fail
  refine (graphAny_draw w1 c A len cap hlen C0.out).mono ?_
  rintro e w2 ⟨A1, n, c1, wk, cp, gs, h9, hgl, hgo, rfl, hF, hc2, g2⟩
  have HL := Lib.hid hgl
  have HO := Lib.hid hgo
  have FF := Lib.hid (hF.lower (show w1.heap.size ≤ w1.heap.size by omega))
  clear hF hgl hgo
  have sz1 := g2.size
  have C1 := Lib.hid hc2
  have B1 := Lib.hid (B0.out.grown g2 B0.out.size hck)
  have R0_1 := Lib.hid (R0_0.out.grown g2 (by simp; omega))
  clear C0 B0 R0_0
  have F_1 := FF
  clear FF hc2 g2
  have y0 : w2.cell? ⟨w.heap.size, 0, none⟩ = some (.slice none 0 0) := by rw [R0_1.out.cell]; rfl
  have yf0 := R0_1.out.frozen 0
  have y1 : w2.cell? ⟨w.heap.size, 1, none⟩ = some (.int .i64 0) := by rw [R0_1.out.cell]; rfl
  have yf1 := R0_1.out.frozen 1
  have y2 : w2.cell? ⟨w.heap.size, 2, none⟩ = some (.int .i64 0) := by rw [R0_1.out.cell]; rfl
  have yf2 := R0_1.out.frozen 2
  go_wp2_with fail
  clear y0 yf0 y1 yf1 y2 yf2
  generalize hV : (((w2.setCell _ _).setCell _ _).setCell _ _) = Wf
  have R0_2 := Lib.hid (show Blk Wf (w.heap.size) 26 #[.slice A1 n c1, .int .i64 wk, .int .i64 cp] by rw [← hV]; exact (((R0_1.out.put 0 _).put 1 _).put 2 _))
  have B2 := Lib.hid (show Below w.heap.size w Wf by rw [← hV]; exact (((B1.out.setCell (by first | (simp; done) | (simp; omega) | omega) _).setCell (by first | (simp; done) | (simp; omega) | omega) _).setCell (by first | (simp; done) | (simp; omega) | omega) _))
  have F_2 := Lib.hid (show NdsF w1.heap.size Wf A1 gs by rw [← hV]; exact (NdsF.grown (NdsF.grown (NdsF.grown F_1.out (grown_set _ ⟨w.heap.size, 0, none⟩ _) (by first | (simp; done) | (simp; omega) | omega)) (grown_set _ ⟨w.heap.size, 1, none⟩ _) (by first | (simp; done) | (simp; omega) | omega)) (grown_set _ ⟨w.heap.size, 2, none⟩ _) (by first | (simp; done) | (simp; omega) | omega)))
  clear hV B1 R0_1 F_1
  have e0 : Wf.cell? ⟨w.heap.size, 0, none⟩ = some (.slice A1 n c1) := by rw [R0_2.out.cell]; rfl
  have e1 : Wf.cell? ⟨w.heap.size, 1, none⟩ = some (.int .i64 wk) := by rw [R0_2.out.cell]; rfl
  have e2 : Wf.cell? ⟨w.heap.size, 2, none⟩ = some (.int .i64 cp) := by rw [R0_2.out.cell]; rfl
  exact bodyPost_ret (v := .agg #[.slice A1 n c1, .int .i64 wk, .int .i64 cp]) (by simp [results, Try.results11, go_sem, e0, e1, e2]) rfl ⟨A1, n, c1, wk, cp, gs, ⟨h9, HL.out, HO.out, F_2.out.nds⟩, rfl, B2.out⟩

set_option maxRecDepth 100000 in
set_option maxHeartbeats 8000000 in
theorem drawReach_any (w : World) (A : Option Addr) (len cap : Nat) (hlen : len ≤ 2097152) (hcame : Came w A len) :
    Calls Try.prog 19 #[.slice A len cap] w (GrTwoDraw w) := by
  have HC := Lib.hid hcame
  clear hcame
  go_enter Try.func19, Try.ntmps19
  go_wp2_with fail
  generalize hW : (w.alloc _) = W
  have bW : Below w.heap.size w W := by rw [← hW]; exact ((Below.refl _ _).alloc (by first | (simp; done) | (simp; omega)) _)
  have r0 : Blk W (w.heap.size) 26 #[.slice none 0 0, .int .i64 0, .int .i64 0] := by rw [← hW]; exact (Blk.new _ _ _)
  have hrl := r0.lt
  clear hW
  refine (new_any W A len cap hlen (HC.out.below bW)).mono ?_
  rintro e w1 ⟨c, rfl, hcw, hcur, hb1⟩
  have z1 := hb1.size
  have hck : ∀ k, some c = some k → w.heap.size ≤ k := fun k hk => by simp at hk; omega
  have C0 := Lib.hid hcur
  have hcl := hcur.lt
  have B0 := Lib.hid (below_chain bW hb1)
  have R0_0 := Lib.hid (r0.below hb1)
  clear hcur hb1 bW HC r0
  go_wp2_with fail
  refine (graphAny_draw w1 c A len cap hlen C0.out).mono ?_
  rintro e w2 ⟨A1, n, c1, wk, cp, gs, h9, hgl, hgo, rfl, hF, hc2, g2⟩
  have HL := Lib.hid hgl
  have HO := Lib.hid hgo
  have FF := Lib.hid (hF.lower (show w1.heap.size ≤ w1.heap.size by omega))
  clear hF hgl hgo
  have sz1 := g2.size
  have C1 := Lib.hid hc2
  have B1 := Lib.hid (B0.out.grown g2 B0.out.size hck)
  have R0_1 := Lib.hid (R0_0.out.grown g2 (by simp; omega))
  clear C0 B0 R0_0
  have F_1 := FF
  clear FF hc2 g2
  go_wp2_with fail
  refine (below_any 9 (by omega) (by omega) w2 c A len cap hlen C1.out).mono ?_
  rintro e w3 ⟨y1, hy1, rfl, hc2, g2⟩
  have sz2 := g2.size
  have C2 := Lib.hid hc2
  have B2 := Lib.hid (B1.out.grown g2 B1.out.size hck)
  have R0_2 := Lib.hid (R0_1.out.grown g2 (by simp; omega))
  have F_2 := Lib.hid (F_1.out.grown g2 hcl)
  clear C1 B1 R0_1 F_1
  clear hc2 g2
  obtain ⟨p, hp⟩ : ∃ p : Int, (y1 : Int) - 1 = p := ⟨_, rfl⟩
  have mp : IntKind.i64.wrap p = p := IntWalk.i64_in _ (by omega)
  go_wp2_with fail
  refine (below_any 9 (by omega) (by omega) w3 c A len cap hlen C2.out).mono ?_
  rintro e w4 ⟨y2, hy2, rfl, hc2, g2⟩
  have sz3 := g2.size
  have C3 := Lib.hid hc2
  have B3 := Lib.hid (B2.out.grown g2 B2.out.size hck)
  have R0_3 := Lib.hid (R0_2.out.grown g2 (by simp; omega))
  have F_3 := Lib.hid (F_2.out.grown g2 hcl)
  clear C2 B2 R0_2 F_2
  clear hc2 g2
  obtain ⟨q, hq⟩ : ∃ p : Int, (y2 : Int) - 1 = p := ⟨_, rfl⟩
  have mq : IntKind.i64.wrap q = q := IntWalk.i64_in _ (by omega)
  have y0 : w4.cell? ⟨w.heap.size, 0, none⟩ = some (.slice none 0 0) := by rw [R0_3.out.cell]; rfl
  have yf0 := R0_3.out.frozen 0
  have y1 : w4.cell? ⟨w.heap.size, 1, none⟩ = some (.int .i64 0) := by rw [R0_3.out.cell]; rfl
  have yf1 := R0_3.out.frozen 1
  have y2 : w4.cell? ⟨w.heap.size, 2, none⟩ = some (.int .i64 0) := by rw [R0_3.out.cell]; rfl
  have yf2 := R0_3.out.frozen 2
  go_wp2_with fail
  clear y0 yf0 y1 yf1 y2 yf2
  generalize hV : (((w4.setCell _ _).setCell _ _).setCell _ _) = Wf
  have R0_4 := Lib.hid (show Blk Wf (w.heap.size) 26 #[.slice A1 n c1, .int .i64 wk, .int .i64 cp] by rw [← hV]; exact (((R0_3.out.put 0 _).put 1 _).put 2 _))
  have B4 := Lib.hid (show Below w.heap.size w Wf by rw [← hV]; exact (((B3.out.setCell (by first | (simp; done) | (simp; omega) | omega) _).setCell (by first | (simp; done) | (simp; omega) | omega) _).setCell (by first | (simp; done) | (simp; omega) | omega) _))
  have F_4 := Lib.hid (show NdsF w1.heap.size Wf A1 gs by rw [← hV]; exact (NdsF.grown (NdsF.grown (NdsF.grown F_3.out (grown_set _ ⟨w.heap.size, 0, none⟩ _) (by first | (simp; done) | (simp; omega) | omega)) (grown_set _ ⟨w.heap.size, 1, none⟩ _) (by first | (simp; done) | (simp; omega) | omega)) (grown_set _ ⟨w.heap.size, 2, none⟩ _) (by first | (simp; done) | (simp; omega) | omega)))
  clear hV B3 R0_3 F_3
  have e0 : Wf.cell? ⟨w.heap.size, 0, none⟩ = some (.slice A1 n c1) := by rw [R0_4.out.cell]; rfl
  have e1 : Wf.cell? ⟨w.heap.size, 1, none⟩ = some (.int .i64 wk) := by rw [R0_4.out.cell]; rfl
  have e2 : Wf.cell? ⟨w.heap.size, 2, none⟩ = some (.int .i64 cp) := by rw [R0_4.out.cell]; rfl
  exact bodyPost_ret (v := .tuple #[.agg #[.slice A1 n c1, .int .i64 wk, .int .i64 cp], .int .i64 p, .int .i64 q]) (by simp [results, Try.results19, go_sem, e0, e1, e2]) rfl ⟨A1, n, c1, wk, cp, gs, p, q, ⟨h9, HL.out, HO.out, F_4.out.nds⟩, rfl, B4.out⟩

set_option maxRecDepth 100000 in
set_option maxHeartbeats 8000000 in
theorem drawNodeOf_any (w : World) (A : Option Addr) (len cap : Nat) (hlen : len ≤ 2097152) (hcame : Came w A len) :
    Calls Try.prog 20 #[.slice A len cap] w (GrNumDraw w) := by
  have HC := Lib.hid hcame
  clear hcame
  go_enter Try.func20, Try.ntmps20
  go_wp2_with fail
  generalize hW : (w.alloc _) = W
  have bW : Below w.heap.size w W := by rw [← hW]; exact ((Below.refl _ _).alloc (by first | (simp; done) | (simp; omega)) _)
  have r0 : Blk W (w.heap.size) 26 #[.slice none 0 0, .int .i64 0, .int .i64 0] := by rw [← hW]; exact (Blk.new _ _ _)
  have hrl := r0.lt
  clear hW
  refine (new_any W A len cap hlen (HC.out.below bW)).mono ?_
  rintro e w1 ⟨c, rfl, hcw, hcur, hb1⟩
  have z1 := hb1.size
  have hck : ∀ k, some c = some k → w.heap.size ≤ k := fun k hk => by simp at hk; omega
  have C0 := Lib.hid hcur
  have hcl := hcur.lt
  have B0 := Lib.hid (below_chain bW hb1)
  have R0_0 := Lib.hid (r0.below hb1)
  clear hcur hb1 bW HC r0
  go_wp2_with fail
  refine (graphAny_draw w1 c A len cap hlen C0.out).mono ?_
  rintro e w2 ⟨A1, n, c1, wk, cp, gs, h9, hgl, hgo, rfl, hF, hc2, g2⟩
  have HL := Lib.hid hgl
  have HO := Lib.hid hgo
  have FF := Lib.hid (hF.lower (show w1.heap.size ≤ w1.heap.size by omega))
  clear hF hgl hgo
  have sz1 := g2.size
  have C1 := Lib.hid hc2
  have B1 := Lib.hid (B0.out.grown g2 B0.out.size hck)
  have R0_1 := Lib.hid (R0_0.out.grown g2 (by simp; omega))
  clear C0 B0 R0_0
  have F_1 := FF
  clear FF hc2 g2
  go_wp2_with fail
  generalize hV : w2.alloc _ = V
  have bV : Below w2.heap.size w2 V := by rw [← hV]; exact (Below.refl _ _).alloc (Nat.le_refl _) _
  have P := Lib.hid (show Blk V w2.heap.size 3 (([0, 1, 4, 7, 8, -1, 9223372036854775807] : List Int).map fun n => Value.int .i64 n).toArray by rw [← hV]; exact Blk.new _ _ _)
  have sz2 := bV.size
  have C2 := Lib.hid (C1.out.belowD bV)
  have B2 := Lib.hid (below_chain B1.out bV)
  have R0_2 := Lib.hid (R0_1.out.below bV)
  have F_2 := Lib.hid (F_1.out.below bV)
  clear C1 B1 R0_1 F_1
  clear bV hV
  have hcu := P.out.lt
  refine (pickInt_any V c w2.heap.size A len cap 7 [0, 1, 4, 7, 8, -1, 9223372036854775807] rfl (by omega) (by omega) hlen C2.out (by omega) P.out).mono ?_
  rintro e w3 ⟨v, hv, rfl, hc2, g2⟩
  have sz3 := g2.size
  have C3 := Lib.hid hc2
  have B3 := Lib.hid (B2.out.grown g2 B2.out.size hck)
  have R0_3 := Lib.hid (R0_2.out.grown g2 (by simp; omega))
  have F_3 := Lib.hid (F_2.out.grown g2 hcl)
  clear C2 B2 R0_2 F_2
  clear hc2 g2 P hv
  have y0 : w3.cell? ⟨w.heap.size, 0, none⟩ = some (.slice none 0 0) := by rw [R0_3.out.cell]; rfl
  have yf0 := R0_3.out.frozen 0
  have y1 : w3.cell? ⟨w.heap.size, 1, none⟩ = some (.int .i64 0) := by rw [R0_3.out.cell]; rfl
  have yf1 := R0_3.out.frozen 1
  have y2 : w3.cell? ⟨w.heap.size, 2, none⟩ = some (.int .i64 0) := by rw [R0_3.out.cell]; rfl
  have yf2 := R0_3.out.frozen 2
  go_wp2_with fail
  clear y0 yf0 y1 yf1 y2 yf2
  generalize hV : (((w3.setCell _ _).setCell _ _).setCell _ _) = Wf
  have R0_4 := Lib.hid (show Blk Wf (w.heap.size) 26 #[.slice A1 n c1, .int .i64 wk, .int .i64 cp] by rw [← hV]; exact (((R0_3.out.put 0 _).put 1 _).put 2 _))
  have B4 := Lib.hid (show Below w.heap.size w Wf by rw [← hV]; exact (((B3.out.setCell (by first | (simp; done) | (simp; omega) | omega) _).setCell (by first | (simp; done) | (simp; omega) | omega) _).setCell (by first | (simp; done) | (simp; omega) | omega) _))
  have F_4 := Lib.hid (show NdsF w1.heap.size Wf A1 gs by rw [← hV]; exact (NdsF.grown (NdsF.grown (NdsF.grown F_3.out (grown_set _ ⟨w.heap.size, 0, none⟩ _) (by first | (simp; done) | (simp; omega) | omega)) (grown_set _ ⟨w.heap.size, 1, none⟩ _) (by first | (simp; done) | (simp; omega) | omega)) (grown_set _ ⟨w.heap.size, 2, none⟩ _) (by first | (simp; done) | (simp; omega) | omega)))
  clear hV B3 R0_3 F_3
  have e0 : Wf.cell? ⟨w.heap.size, 0, none⟩ = some (.slice A1 n c1) := by rw [R0_4.out.cell]; rfl
  have e1 : Wf.cell? ⟨w.heap.size, 1, none⟩ = some (.int .i64 wk) := by rw [R0_4.out.cell]; rfl
  have e2 : Wf.cell? ⟨w.heap.size, 2, none⟩ = some (.int .i64 cp) := by rw [R0_4.out.cell]; rfl
  exact bodyPost_ret (v := .tuple #[.agg #[.slice A1 n c1, .int .i64 wk, .int .i64 cp], .int .i64 v]) (by simp [results, Try.results20, go_sem, e0, e1, e2]) rfl ⟨A1, n, c1, wk, cp, gs, v, ⟨h9, HL.out, HO.out, F_4.out.nds⟩, rfl, B4.out⟩

set_option maxRecDepth 100000 in
set_option maxHeartbeats 8000000 in
theorem drawSameG_any (w : World) (A : Option Addr) (len cap : Nat) (hlen : len ≤ 2097152) (hcame : Came w A len) :
    Calls Try.prog 23 #[.slice A len cap] w (GrPairDraw w) := by
  have HC := Lib.hid hcame
  clear hcame
  go_enter Try.func23, Try.ntmps23
  go_wp2_with fail
  generalize hW : ((w.alloc _).alloc _) = W
  have bW : Below w.heap.size w W := by rw [← hW]; exact (((Below.refl _ _).alloc (by first | (simp; done) | (simp; omega)) _).alloc (by first | (simp; done) | (simp; omega)) _)
  have r0 : Blk W (w.heap.size) 26 #[.slice none 0 0, .int .i64 0, .int .i64 0] := by rw [← hW]; exact ((Below.heap_alloc _ _ _ (by simp)).trans (Blk.new _ _ _))
  have r1 : Blk W (w.heap.size + 1) 26 #[.slice none 0 0, .int .i64 0, .int .i64 0] := by rw [← hW]; exact ((show w.heap.size + 1 = (w.alloc _).heap.size by simp) ▸ Blk.new _ _ _)
  have hrl := r1.lt
  clear hW
  refine (new_any W A len cap hlen (HC.out.below bW)).mono ?_
  rintro e w1 ⟨c, rfl, hcw, hcur, hb1⟩
  have z1 := hb1.size
  have hck : ∀ k, some c = some k → w.heap.size ≤ k := fun k hk => by simp at hk; omega
  have C0 := Lib.hid hcur
  have hcl := hcur.lt
  have B0 := Lib.hid (below_chain bW hb1)
  have R0_0 := Lib.hid (r0.below hb1)
  have R1_0 := Lib.hid (r1.below hb1)
  clear hcur hb1 bW HC r0 r1
  go_wp2_with fail
  refine (graphAny_draw w1 c A len cap hlen C0.out).mono ?_
  rintro e w2 ⟨A1, n, c1, wk, cp, gs, h9, hgl, hgo, rfl, hF, hc2, g2⟩
  have HL := Lib.hid hgl
  have HO := Lib.hid hgo
  have FF := Lib.hid (hF.lower (show w1.heap.size ≤ w1.heap.size by omega))
  clear hF hgl hgo
  have sz1 := g2.size
  have C1 := Lib.hid hc2
  have B1 := Lib.hid (B0.out.grown g2 B0.out.size hck)
  have R0_1 := Lib.hid (R0_0.out.grown g2 (by simp; omega))
  have R1_1 := Lib.hid (R1_0.out.grown g2 (by simp; omega))
  clear C0 B0 R0_0 R1_0
  have F_1 := FF
  clear FF hc2 g2
  go_upto_region 3 with fail
  generalize hU : w2.alloc _ = U
  have bU : Below w2.heap.size w2 U := by rw [← hU]; exact (Below.refl _ _).alloc (Nat.le_refl _) _
  obtain ⟨x, hx⟩ : ∃ x, w2.heap.size = x := ⟨_, rfl⟩
  have lx : w.heap.size + 1 < x := by rw [← hx]; exact R1_1.out.lt
  have lc : c < x := by rw [← hx]; exact C1.out.lt
  have KX := Lib.hid (show Blk U x 26 #[.slice A1 n c1, .int .i64 wk, .int .i64 cp] by rw [← hU, ← hx]; exact Blk.new _ _ _)
  rw [hx]
  clear hU hx
  have sz2 := bU.size
  have C2 := Lib.hid (C1.out.belowD bU)
  have B2 := Lib.hid (below_chain B1.out bU)
  have R0_2 := Lib.hid (R0_1.out.below bU)
  have R1_2 := Lib.hid (R1_1.out.below bU)
  have F_2 := Lib.hid (F_1.out.below bU)
  clear C1 B1 R0_1 R1_1 F_1
  clear bU
  go_wp2_with fail
  refine (once_any 2 (by omega) (by omega) U c A len cap hlen C2.out).mono ?_
  rintro e w3 ⟨o1, rfl, hc2, g2⟩
  have KX2 := Lib.hid (KX.out.grown g2 (by simp; omega))
  have sz3 := g2.size
  have C3 := Lib.hid hc2
  have B3 := Lib.hid (B2.out.grown g2 B2.out.size hck)
  have R0_3 := Lib.hid (R0_2.out.grown g2 (by simp; omega))
  have R1_3 := Lib.hid (R1_2.out.grown g2 (by simp; omega))
  have F_3 := Lib.hid (F_2.out.grown g2 hcl)
  clear C2 B2 R0_2 R1_2 F_2
  clear hc2 g2 KX
  cases o1
  · skip
    go_wp2_with fail
    obtain ⟨w4, hw4⟩ : ∃ z, w3.drew = z := ⟨_, rfl⟩
    have bd : Below w3.heap.size w3 w4 := by rw [← hw4]; exact (Below.refl _ _).drew
    have KX4 := Lib.hid (KX2.out.below bd)
    have sz4 := bd.size
    have C4 := Lib.hid (C3.out.belowD bd)
    have B4 := Lib.hid (below_chain B3.out bd)
    have R0_4 := Lib.hid (R0_3.out.below bd)
    have R1_4 := Lib.hid (R1_3.out.below bd)
    have F_4 := Lib.hid (F_3.out.below bd)
    clear C3 B3 R0_3 R1_3 F_3
    clear bd KX2
    refine wp_region_held_drew (S := (fun W' => Blk W' x 26 #[.slice A1 n c1, .int .i64 wk, .int .i64 cp])) (by kernel_rfl) ?_ (fun hHeld => ?_)
    · rw [hw4]; exact KX4.out
    change wpAnyH _ _ opsG6 _ _ 5 (#[false, false, false, false, false] : Array Bool) _ _
    rw [hw4] at hHeld ⊢
    clear hw4
    refine tG6_e_0 (.agg #[.slice A1 n c1, .int .i64 wk, .int .i64 cp]) (fun _ _ _ h => h) (Or.inl ⟨by rfl, fun W hSw => ?_⟩) hHeld ?_
    · skip
      unfold qG6_0
      have h0 : W.cell? ⟨x, 0, none⟩ = some (.slice A1 n c1) := by rw [Blk.cell hSw]; rfl
      have h1 : W.cell? ⟨x, 1, none⟩ = some (.int .i64 wk) := by rw [Blk.cell hSw]; rfl
      have h2 : W.cell? ⟨x, 2, none⟩ = some (.int .i64 cp) := by rw [Blk.cell hSw]; rfl
      go_simp
    try simp only [Act.put, List.setIfInBounds_toArray, List.set_cons_zero, List.set_cons_succ]
    refine tG6_0_1 (.pointer (some ⟨c, 0, none⟩)) (fun _ _ _ h => h) (Or.inl ⟨by rfl, fun W hSw => ?_⟩) hHeld ?_
    · skip
      unfold qG6_1
      go_simp
    try simp only [Act.put, List.setIfInBounds_toArray, List.set_cons_zero, List.set_cons_succ]
    refine cG6_01_2 (fun K hK => ?_)
    rw [if_pos (by rfl)]
    unfold qG6_2
    go_simp
    refine (graphAny_draw w4 c A len cap hlen C4.out).mono ?_
    rintro e v1 ⟨A12, n2, c12, wk2, cp2, gs2, h92, hgl2, hgo2, rfl, hF, hc2, g2⟩
    have HL2 := Lib.hid hgl2
    have HO2 := Lib.hid hgo2
    have KXv1 := Lib.hid (KX4.out.grown g2 (by simp; omega))
    have FF := Lib.hid (hF.lower (show w1.heap.size ≤ w4.heap.size by omega))
    clear hF hgl2 hgo2
    have sz5 := g2.size
    have C5 := Lib.hid hc2
    have B5 := Lib.hid (B4.out.grown g2 B4.out.size hck)
    have R0_5 := Lib.hid (R0_4.out.grown g2 (by simp; omega))
    have R1_5 := Lib.hid (R1_4.out.grown g2 (by simp; omega))
    have F_5 := Lib.hid (F_4.out.grown g2 hcl)
    clear C4 B4 R0_4 R1_4 F_4
    have F2_5 := FF
    clear FF hc2 g2
    refine Shut.out hK _ _ ?_ (fun hHeld => ?_)
    · exact KXv1.out
    clear hK K
    try simp only [Act.put, List.setIfInBounds_toArray, List.set_cons_zero, List.set_cons_succ]
    refine cG6_012_3 (fun K hK => ?_)
    rw [if_pos (by rfl)]
    unfold qG6_3
    have l0 : v1.cell? ⟨w.heap.size, 0, none⟩ = some (.slice none 0 0) := by rw [R0_5.out.cell]; rfl
    have lf0 := R0_5.out.frozen 0
    have l1 : v1.cell? ⟨w.heap.size, 1, none⟩ = some (.int .i64 0) := by rw [R0_5.out.cell]; rfl
    have lf1 := R0_5.out.frozen 1
    have l2 : v1.cell? ⟨w.heap.size, 2, none⟩ = some (.int .i64 0) := by rw [R0_5.out.cell]; rfl
    have lf2 := R0_5.out.frozen 2
    go_simp
    clear l0 lf0 l1 lf1 l2 lf2
    generalize hV : (((v1.setCell _ _).setCell _ _).setCell _ _) = v2
    have R0_6 := Lib.hid (show Blk v2 (w.heap.size) 26 #[.slice A1 n c1, .int .i64 wk, .int .i64 cp] by rw [← hV]; exact (((R0_5.out.put 0 _).put 1 _).put 2 _))
    have R1_6 := Lib.hid (show Blk v2 (w.heap.size + 1) 26 #[.slice none 0 0, .int .i64 0, .int .i64 0] by rw [← hV]; exact (((R1_5.out.other (by first | (simp; done) | (simp; omega) | omega) _).other (by first | (simp; done) | (simp; omega) | omega) _).other (by first | (simp; done) | (simp; omega) | omega) _))
    have B6 := Lib.hid (show Below w.heap.size w v2 by rw [← hV]; exact (((B5.out.setCell (by first | (simp; done) | (simp; omega) | omega) _).setCell (by first | (simp; done) | (simp; omega) | omega) _).setCell (by first | (simp; done) | (simp; omega) | omega) _))
    have F_6 := Lib.hid (show NdsF w1.heap.size v2 A1 gs by rw [← hV]; exact (NdsF.grown (NdsF.grown (NdsF.grown F_5.out (grown_set _ ⟨w.heap.size, 0, none⟩ _) (by first | (simp; done) | (simp; omega) | omega)) (grown_set _ ⟨w.heap.size, 1, none⟩ _) (by first | (simp; done) | (simp; omega) | omega)) (grown_set _ ⟨w.heap.size, 2, none⟩ _) (by first | (simp; done) | (simp; omega) | omega)))
    have F2_6 := Lib.hid (show NdsF w1.heap.size v2 A12 gs2 by rw [← hV]; exact (NdsF.grown (NdsF.grown (NdsF.grown F2_5.out (grown_set _ ⟨w.heap.size, 0, none⟩ _) (by first | (simp; done) | (simp; omega) | omega)) (grown_set _ ⟨w.heap.size, 1, none⟩ _) (by first | (simp; done) | (simp; omega) | omega)) (grown_set _ ⟨w.heap.size, 2, none⟩ _) (by first | (simp; done) | (simp; omega) | omega)))
    have KXv2 := Lib.hid (show Blk v2 x 26 #[.slice A1 n c1, .int .i64 wk, .int .i64 cp] by rw [← hV]; exact (((KXv1.out.other (by first | (simp; done) | (simp; omega) | omega) _).other (by first | (simp; done) | (simp; omega) | omega) _).other (by first | (simp; done) | (simp; omega) | omega) _))
    clear hV B5 R0_5 R1_5 F_5 F2_5
    refine Shut.out hK _ _ ?_ (fun hHeld => ?_)
    · exact KXv2.out
    clear hK K
    try simp only [Act.put, List.setIfInBounds_toArray, List.set_cons_zero, List.set_cons_succ]
    refine cG6_0123_4 (fun K hK => ?_)
    rw [if_pos (by rfl)]
    unfold qG6_4
    have l0 : v2.cell? ⟨w.heap.size + 1, 0, none⟩ = some (.slice none 0 0) := by rw [R1_6.out.cell]; rfl
    have lf0 := R1_6.out.frozen 0
    have l1 : v2.cell? ⟨w.heap.size + 1, 1, none⟩ = some (.int .i64 0) := by rw [R1_6.out.cell]; rfl
    have lf1 := R1_6.out.frozen 1
    have l2 : v2.cell? ⟨w.heap.size + 1, 2, none⟩ = some (.int .i64 0) := by rw [R1_6.out.cell]; rfl
    have lf2 := R1_6.out.frozen 2
    go_simp
    clear l0 lf0 l1 lf1 l2 lf2
    generalize hV : (((v2.setCell _ _).setCell _ _).setCell _ _) = v3
    have R0_7 := Lib.hid (show Blk v3 (w.heap.size) 26 #[.slice A1 n c1, .int .i64 wk, .int .i64 cp] by rw [← hV]; exact (((R0_6.out.other (by first | (simp; done) | (simp; omega) | omega) _).other (by first | (simp; done) | (simp; omega) | omega) _).other (by first | (simp; done) | (simp; omega) | omega) _))
    have R1_7 := Lib.hid (show Blk v3 (w.heap.size + 1) 26 #[.slice A12 n2 c12, .int .i64 wk2, .int .i64 cp2] by rw [← hV]; exact (((R1_6.out.put 0 _).put 1 _).put 2 _))
    have B7 := Lib.hid (show Below w.heap.size w v3 by rw [← hV]; exact (((B6.out.setCell (by first | (simp; done) | (simp; omega) | omega) _).setCell (by first | (simp; done) | (simp; omega) | omega) _).setCell (by first | (simp; done) | (simp; omega) | omega) _))
    have F_7 := Lib.hid (show NdsF w1.heap.size v3 A1 gs by rw [← hV]; exact (NdsF.grown (NdsF.grown (NdsF.grown F_6.out (grown_set _ ⟨w.heap.size + 1, 0, none⟩ _) (by first | (simp; done) | (simp; omega) | omega)) (grown_set _ ⟨w.heap.size + 1, 1, none⟩ _) (by first | (simp; done) | (simp; omega) | omega)) (grown_set _ ⟨w.heap.size + 1, 2, none⟩ _) (by first | (simp; done) | (simp; omega) | omega)))
    have F2_7 := Lib.hid (show NdsF w1.heap.size v3 A12 gs2 by rw [← hV]; exact (NdsF.grown (NdsF.grown (NdsF.grown F2_6.out (grown_set _ ⟨w.heap.size + 1, 0, none⟩ _) (by first | (simp; done) | (simp; omega) | omega)) (grown_set _ ⟨w.heap.size + 1, 1, none⟩ _) (by first | (simp; done) | (simp; omega) | omega)) (grown_set _ ⟨w.heap.size + 1, 2, none⟩ _) (by first | (simp; done) | (simp; omega) | omega)))
    have KXv3 := Lib.hid (show Blk v3 x 26 #[.slice A1 n c1, .int .i64 wk, .int .i64 cp] by rw [← hV]; exact (((KXv2.out.other (by first | (simp; done) | (simp; omega) | omega) _).other (by first | (simp; done) | (simp; omega) | omega) _).other (by first | (simp; done) | (simp; omega) | omega) _))
    clear hV B6 R0_6 R1_6 F_6 F2_6
    refine Shut.out hK _ _ ?_ (fun hHeld => ?_)
    · exact KXv3.out
    clear hK K
    try simp only [Act.put, List.setIfInBounds_toArray, List.set_cons_zero, List.set_cons_succ]
    refine wpAnyH_done (by kernel_rfl) ?_ _
    clear hHeld
    have e0 : v3.cell? ⟨w.heap.size, 0, none⟩ = some (.slice A1 n c1) := by rw [R0_7.out.cell]; rfl
    have e1 : v3.cell? ⟨w.heap.size, 1, none⟩ = some (.int .i64 wk) := by rw [R0_7.out.cell]; rfl
    have e2 : v3.cell? ⟨w.heap.size, 2, none⟩ = some (.int .i64 cp) := by rw [R0_7.out.cell]; rfl
    have f0 : v3.cell? ⟨w.heap.size + 1, 0, none⟩ = some (.slice A12 n2 c12) := by rw [R1_7.out.cell]; rfl
    have f1 : v3.cell? ⟨w.heap.size + 1, 1, none⟩ = some (.int .i64 wk2) := by rw [R1_7.out.cell]; rfl
    have f2 : v3.cell? ⟨w.heap.size + 1, 2, none⟩ = some (.int .i64 cp2) := by rw [R1_7.out.cell]; rfl
    go_wp2_with fail
    exact bodyPost_ret (v := .tuple #[.agg #[.slice A1 n c1, .int .i64 wk, .int .i64 cp], .agg #[.slice A12 n2 c12, .int .i64 wk2, .int .i64 cp2]]) (by simp [results, Try.results23, go_sem, e0, e1, e2, f0, f1, f2]) rfl ⟨A1, n, c1, wk, cp, gs, A12, n2, c12, wk2, cp2, gs2, ⟨h9, HL.out, HO.out, F_7.out.nds⟩, ⟨h92, HL2.out, HO2.out, F2_7.out.nds⟩, rfl, B7.out⟩
  · skip
    go_wp2_with fail
    obtain ⟨w4, hw4⟩ : ∃ z, w3.drew = z := ⟨_, rfl⟩
    have bd : Below w3.heap.size w3 w4 := by rw [← hw4]; exact (Below.refl _ _).drew
    have KX4 := Lib.hid (KX2.out.below bd)
    have sz4 := bd.size
    have C4 := Lib.hid (C3.out.belowD bd)
    have B4 := Lib.hid (below_chain B3.out bd)
    have R0_4 := Lib.hid (R0_3.out.below bd)
    have R1_4 := Lib.hid (R1_3.out.below bd)
    have F_4 := Lib.hid (F_3.out.below bd)
    clear C3 B3 R0_3 R1_3 F_3
    clear bd KX2
    refine wp_region_held_drew (S := (fun W' => Blk W' x 26 #[.slice A1 n c1, .int .i64 wk, .int .i64 cp])) (by kernel_rfl) ?_ (fun hHeld => ?_)
    · rw [hw4]; exact KX4.out
    change wpAnyH _ _ opsG4 _ _ 5 (#[false, false, false, false, false] : Array Bool) _ _
    rw [hw4] at hHeld ⊢
    clear hw4
    refine tG4_e_0 (.agg #[.slice A1 n c1, .int .i64 wk, .int .i64 cp]) (fun _ _ _ h => h) (Or.inl ⟨by rfl, fun W hSw => ?_⟩) hHeld ?_
    · skip
      unfold qG4_0
      have h0 : W.cell? ⟨x, 0, none⟩ = some (.slice A1 n c1) := by rw [Blk.cell hSw]; rfl
      have h1 : W.cell? ⟨x, 1, none⟩ = some (.int .i64 wk) := by rw [Blk.cell hSw]; rfl
      have h2 : W.cell? ⟨x, 2, none⟩ = some (.int .i64 cp) := by rw [Blk.cell hSw]; rfl
      go_simp
    try simp only [Act.put, List.setIfInBounds_toArray, List.set_cons_zero, List.set_cons_succ]
    refine tG4_0_1 (.agg #[.slice A1 n c1, .int .i64 wk, .int .i64 cp]) (fun _ _ _ h => h) (Or.inl ⟨by rfl, fun W hSw => ?_⟩) hHeld ?_
    · skip
      unfold qG4_1
      have h0 : W.cell? ⟨x, 0, none⟩ = some (.slice A1 n c1) := by rw [Blk.cell hSw]; rfl
      have h1 : W.cell? ⟨x, 1, none⟩ = some (.int .i64 wk) := by rw [Blk.cell hSw]; rfl
      have h2 : W.cell? ⟨x, 2, none⟩ = some (.int .i64 cp) := by rw [Blk.cell hSw]; rfl
      go_simp
    try simp only [Act.put, List.setIfInBounds_toArray, List.set_cons_zero, List.set_cons_succ]
    refine cG4_01_2 (fun K hK => ?_)
    rw [if_pos (by rfl)]
    unfold qG4_2
    go_simp
    refine (copy_any gs n HL.out (fun y hy => Nat.le_trans (HO.out y hy) (by omega)) (by omega) wk cp A1 c1 _ F_4.out.nds).mono ?_
    rintro e v1 ⟨A12, c12, rfl, hF, hb⟩
    have FF := Lib.hid (hF.lower (show w1.heap.size ≤ w4.heap.size by omega))
    have KXv1 := Lib.hid (KX4.out.below hb)
    clear hF
    have sz5 := hb.size
    have C5 := Lib.hid (C4.out.belowD hb)
    have B5 := Lib.hid (below_chain B4.out hb)
    have R0_5 := Lib.hid (R0_4.out.below hb)
    have R1_5 := Lib.hid (R1_4.out.below hb)
    have F_5 := Lib.hid (F_4.out.below hb)
    clear C4 B4 R0_4 R1_4 F_4
    clear hb
    have F2_5 := FF
    clear FF
    refine Shut.out hK _ _ ?_ (fun hHeld => ?_)
    · exact KXv1.out
    clear hK K
    try simp only [Act.put, List.setIfInBounds_toArray, List.set_cons_zero, List.set_cons_succ]
    refine cG4_012_3 (fun K hK => ?_)
    rw [if_pos (by rfl)]
    unfold qG4_3
    have l0 : v1.cell? ⟨w.heap.size, 0, none⟩ = some (.slice none 0 0) := by rw [R0_5.out.cell]; rfl
    have lf0 := R0_5.out.frozen 0
    have l1 : v1.cell? ⟨w.heap.size, 1, none⟩ = some (.int .i64 0) := by rw [R0_5.out.cell]; rfl
    have lf1 := R0_5.out.frozen 1
    have l2 : v1.cell? ⟨w.heap.size, 2, none⟩ = some (.int .i64 0) := by rw [R0_5.out.cell]; rfl
    have lf2 := R0_5.out.frozen 2
    go_simp
    clear l0 lf0 l1 lf1 l2 lf2
    generalize hV : (((v1.setCell _ _).setCell _ _).setCell _ _) = v2
    have R0_6 := Lib.hid (show Blk v2 (w.heap.size) 26 #[.slice A1 n c1, .int .i64 wk, .int .i64 cp] by rw [← hV]; exact (((R0_5.out.put 0 _).put 1 _).put 2 _))
    have R1_6 := Lib.hid (show Blk v2 (w.heap.size + 1) 26 #[.slice none 0 0, .int .i64 0, .int .i64 0] by rw [← hV]; exact (((R1_5.out.other (by first | (simp; done) | (simp; omega) | omega) _).other (by first | (simp; done) | (simp; omega) | omega) _).other (by first | (simp; done) | (simp; omega) | omega) _))
    have B6 := Lib.hid (show Below w.heap.size w v2 by rw [← hV]; exact (((B5.out.setCell (by first | (simp; done) | (simp; omega) | omega) _).setCell (by first | (simp; done) | (simp; omega) | omega) _).setCell (by first | (simp; done) | (simp; omega) | omega) _))
    have F_6 := Lib.hid (show NdsF w1.heap.size v2 A1 gs by rw [← hV]; exact (NdsF.grown (NdsF.grown (NdsF.grown F_5.out (grown_set _ ⟨w.heap.size, 0, none⟩ _) (by first | (simp; done) | (simp; omega) | omega)) (grown_set _ ⟨w.heap.size, 1, none⟩ _) (by first | (simp; done) | (simp; omega) | omega)) (grown_set _ ⟨w.heap.size, 2, none⟩ _) (by first | (simp; done) | (simp; omega) | omega)))
    have F2_6 := Lib.hid (show NdsF w1.heap.size v2 A12 gs by rw [← hV]; exact (NdsF.grown (NdsF.grown (NdsF.grown F2_5.out (grown_set _ ⟨w.heap.size, 0, none⟩ _) (by first | (simp; done) | (simp; omega) | omega)) (grown_set _ ⟨w.heap.size, 1, none⟩ _) (by first | (simp; done) | (simp; omega) | omega)) (grown_set _ ⟨w.heap.size, 2, none⟩ _) (by first | (simp; done) | (simp; omega) | omega)))
    have KXv2 := Lib.hid (show Blk v2 x 26 #[.slice A1 n c1, .int .i64 wk, .int .i64 cp] by rw [← hV]; exact (((KXv1.out.other (by first | (simp; done) | (simp; omega) | omega) _).other (by first | (simp; done) | (simp; omega) | omega) _).other (by first | (simp; done) | (simp; omega) | omega) _))
    clear hV B5 R0_5 R1_5 F_5 F2_5
    refine Shut.out hK _ _ ?_ (fun hHeld => ?_)
    · exact KXv2.out
    clear hK K
    try simp only [Act.put, List.setIfInBounds_toArray, List.set_cons_zero, List.set_cons_succ]
    refine cG4_0123_4 (fun K hK => ?_)
    rw [if_pos (by rfl)]
    unfold qG4_4
    have l0 : v2.cell? ⟨w.heap.size + 1, 0, none⟩ = some (.slice none 0 0) := by rw [R1_6.out.cell]; rfl
    have lf0 := R1_6.out.frozen 0
    have l1 : v2.cell? ⟨w.heap.size + 1, 1, none⟩ = some (.int .i64 0) := by rw [R1_6.out.cell]; rfl
    have lf1 := R1_6.out.frozen 1
    have l2 : v2.cell? ⟨w.heap.size + 1, 2, none⟩ = some (.int .i64 0) := by rw [R1_6.out.cell]; rfl
    have lf2 := R1_6.out.frozen 2
    go_simp
    clear l0 lf0 l1 lf1 l2 lf2
    generalize hV : (((v2.setCell _ _).setCell _ _).setCell _ _) = v3
    have R0_7 := Lib.hid (show Blk v3 (w.heap.size) 26 #[.slice A1 n c1, .int .i64 wk, .int .i64 cp] by rw [← hV]; exact (((R0_6.out.other (by first | (simp; done) | (simp; omega) | omega) _).other (by first | (simp; done) | (simp; omega) | omega) _).other (by first | (simp; done) | (simp; omega) | omega) _))
    have R1_7 := Lib.hid (show Blk v3 (w.heap.size + 1) 26 #[.slice A12 n c12, .int .i64 wk, .int .i64 cp] by rw [← hV]; exact (((R1_6.out.put 0 _).put 1 _).put 2 _))
    have B7 := Lib.hid (show Below w.heap.size w v3 by rw [← hV]; exact (((B6.out.setCell (by first | (simp; done) | (simp; omega) | omega) _).setCell (by first | (simp; done) | (simp; omega) | omega) _).setCell (by first | (simp; done) | (simp; omega) | omega) _))
    have F_7 := Lib.hid (show NdsF w1.heap.size v3 A1 gs by rw [← hV]; exact (NdsF.grown (NdsF.grown (NdsF.grown F_6.out (grown_set _ ⟨w.heap.size + 1, 0, none⟩ _) (by first | (simp; done) | (simp; omega) | omega)) (grown_set _ ⟨w.heap.size + 1, 1, none⟩ _) (by first | (simp; done) | (simp; omega) | omega)) (grown_set _ ⟨w.heap.size + 1, 2, none⟩ _) (by first | (simp; done) | (simp; omega) | omega)))
    have F2_7 := Lib.hid (show NdsF w1.heap.size v3 A12 gs by rw [← hV]; exact (NdsF.grown (NdsF.grown (NdsF.grown F2_6.out (grown_set _ ⟨w.heap.size + 1, 0, none⟩ _) (by first | (simp; done) | (simp; omega) | omega)) (grown_set _ ⟨w.heap.size + 1, 1, none⟩ _) (by first | (simp; done) | (simp; omega) | omega)) (grown_set _ ⟨w.heap.size + 1, 2, none⟩ _) (by first | (simp; done) | (simp; omega) | omega)))
    have KXv3 := Lib.hid (show Blk v3 x 26 #[.slice A1 n c1, .int .i64 wk, .int .i64 cp] by rw [← hV]; exact (((KXv2.out.other (by first | (simp; done) | (simp; omega) | omega) _).other (by first | (simp; done) | (simp; omega) | omega) _).other (by first | (simp; done) | (simp; omega) | omega) _))
    clear hV B6 R0_6 R1_6 F_6 F2_6
    refine Shut.out hK _ _ ?_ (fun hHeld => ?_)
    · exact KXv3.out
    clear hK K
    try simp only [Act.put, List.setIfInBounds_toArray, List.set_cons_zero, List.set_cons_succ]
    refine wpAnyH_done (by kernel_rfl) ?_ _
    clear hHeld
    have e0 : v3.cell? ⟨w.heap.size, 0, none⟩ = some (.slice A1 n c1) := by rw [R0_7.out.cell]; rfl
    have e1 : v3.cell? ⟨w.heap.size, 1, none⟩ = some (.int .i64 wk) := by rw [R0_7.out.cell]; rfl
    have e2 : v3.cell? ⟨w.heap.size, 2, none⟩ = some (.int .i64 cp) := by rw [R0_7.out.cell]; rfl
    have f0 : v3.cell? ⟨w.heap.size + 1, 0, none⟩ = some (.slice A12 n c12) := by rw [R1_7.out.cell]; rfl
    have f1 : v3.cell? ⟨w.heap.size + 1, 1, none⟩ = some (.int .i64 wk) := by rw [R1_7.out.cell]; rfl
    have f2 : v3.cell? ⟨w.heap.size + 1, 2, none⟩ = some (.int .i64 cp) := by rw [R1_7.out.cell]; rfl
    go_wp2_with fail
    exact bodyPost_ret (v := .tuple #[.agg #[.slice A1 n c1, .int .i64 wk, .int .i64 cp], .agg #[.slice A12 n c12, .int .i64 wk, .int .i64 cp]]) (by simp [results, Try.results23, go_sem, e0, e1, e2, f0, f1, f2]) rfl ⟨A1, n, c1, wk, cp, gs, A12, n, c12, wk, cp, gs, ⟨h9, HL.out, HO.out, F_7.out.nds⟩, ⟨h9, HL.out, HO.out, F2_7.out.nds⟩, rfl, B7.out⟩

end Go.Proofs.Ytjplkoglibagkaa.hexes

