/-
  Chapter 6's draws: of the arguments of SendOn, TakeFrom, CreditBack, InFlight and SameLink.
-/
import Derived.Test.YthkkleicekhelaaDrawLkAny
import Derived.Test.YthkkleicekhelaaRegQ
import Derived.Test.YthkkleicekhelaaCame
namespace Go.Proofs.Ythkkleicekhelaa.hexes
open Go.RowKit

/-- A link that a draw gave. -/
structure LkGot (w w' : World) (a g : Int) (A1 : Option Addr) (n c1 : Nat) (zs : List Rc) : Prop where
  len : zs.length = n
  le : n ≤ 10
  ab : -2000000000 ≤ a ∧ a ≤ 2000000000
  gb : -2000000000 ≤ g ∧ g ≤ 2000000000
  row : w'.ownsRow w.heap.size 30 5 (.slice A1 n c1) n (rcCells zs)

def LkDraw (w : World) (e : Ending) (w' : World) : Prop := ∃ (p a bb s g : Int) (A1 : Option Addr) (n c1 : Nat) (zs : List Rc), LkGot w w' a g A1 n c1 zs ∧ e = .returned (.agg #[.int .i64 p, .slice A1 n c1, .int .i64 a, .int .i64 bb, .int .i64 s, .int .i64 g]) ∧ Below w.heap.size w w'
def LkRcDraw (w : World) (e : Ending) (w' : World) : Prop := ∃ (p a bb s g : Int) (A1 : Option Addr) (n c1 : Nat) (zs : List Rc) (p0 p1 p2 p3 p4 : Int), LkGot w w' a g A1 n c1 zs ∧ e = .returned (.tuple #[.agg #[.int .i64 p, .slice A1 n c1, .int .i64 a, .int .i64 bb, .int .i64 s, .int .i64 g], .agg #[.int .i64 p0, .int .i64 p1, .int .i64 p2, .int .i64 p3, .int .i64 p4]]) ∧ Below w.heap.size w w'
def LkNumDraw (w : World) (e : Ending) (w' : World) : Prop := ∃ (p a bb s g : Int) (A1 : Option Addr) (n c1 : Nat) (zs : List Rc) (x : Int), LkGot w w' a g A1 n c1 zs ∧ e = .returned (.tuple #[.agg #[.int .i64 p, .slice A1 n c1, .int .i64 a, .int .i64 bb, .int .i64 s, .int .i64 g], .int .i64 x]) ∧ Below w.heap.size w w'
def LkTwoDraw (w : World) (e : Ending) (w' : World) : Prop := ∃ (p a bb s g : Int) (A1 : Option Addr) (n c1 : Nat) (zs : List Rc) (p2 a2 bb2 s2 g2 : Int) (A2 : Option Addr) (n2 c2 : Nat) (ys : List Rc), LkGot w w' a g A1 n c1 zs ∧ LkGot w w' a2 g2 A2 n2 c2 ys ∧ e = .returned (.tuple #[.agg #[.int .i64 p, .slice A1 n c1, .int .i64 a, .int .i64 bb, .int .i64 s, .int .i64 g], .agg #[.int .i64 p2, .slice A2 n2 c2, .int .i64 a2, .int .i64 bb2, .int .i64 s2, .int .i64 g2]]) ∧ Below w.heap.size w w'

set_option maxRecDepth 100000 in
set_option maxHeartbeats 8000000 in
theorem drawTake_any (w : World) (A : Option Addr) (len cap : Nat) (hlen : len ≤ 2097152) (hcame : Came w A len) :
    Calls Try.prog 16 #[.slice A len cap] w (LkDraw w) := by
  have HC := Lib.hid hcame
  clear hcame
  go_enter Try.func16, Try.ntmps16
  go_wp2_with fail
  generalize hW : (w.alloc _) = W
  have bW : Below w.heap.size w W := by rw [← hW]; exact ((Below.refl _ _).alloc (by first | (simp; done) | (simp; omega)) _)
  have r0 : Blk W (w.heap.size) 26 #[.int .i64 0, .slice none 0 0, .int .i64 0, .int .i64 0, .int .i64 0, .int .i64 0] := by rw [← hW]; exact (Blk.new _ _ _)
  have hrl := r0.lt
  clear hW
  refine (new_any W A len cap hlen (HC.out.below bW)).mono ?_
  rintro e w1 ⟨c, rfl, hcw, hcur, hb1⟩
  have z1 := hb1.size
  have hck : ∀ k, some c = some k → w.heap.size ≤ k := fun k hk => by simp at hk; omega
  have R_0 := Lib.hid (r0.below hb1)
  have C_0 := Lib.hid (hcur)
  have B_0 := Lib.hid (below_chain bW hb1)
  clear hcur hb1 bW HC r0
  go_wp2_with fail
  refine (linkAny_draw w1 c A len cap hlen C_0.out).mono ?_
  rintro e w2 ⟨p, a, bb, s, g, A1, n, c1, zs, hn, hl, jp, ja, jb, js, jg, rfl, ho, hc2, g2⟩
  have HL := Lib.hid hl
  have om := w1.heap.size
  have bz := B_0.out.size
  have ho2 := Lib.hid (own_base ho (show w.heap.size ≤ w1.heap.size by omega))
  clear om bz ho hl
  obtain ⟨ci, ch, cle, cblk⟩ := C_0.out.at_
  have R_1 := Lib.hid (R_0.out.grown g2 (by simp; omega))
  have C_1 := Lib.hid (hc2)
  have B_1 := Lib.hid (B_0.out.grown g2 B_0.out.size hck)
  clear cblk cle R_0 C_0 B_0
  clear hc2 g2
  have O_0 := ho2
  clear ho2
  have y0 : w2.cell? ⟨w.heap.size, 0, none⟩ = some (.int .i64 0) := by rw [R_1.out.cell]; rfl
  have yf0 := R_1.out.frozen 0
  have y1 : w2.cell? ⟨w.heap.size, 1, none⟩ = some (.slice none 0 0) := by rw [R_1.out.cell]; rfl
  have yf1 := R_1.out.frozen 1
  have y2 : w2.cell? ⟨w.heap.size, 2, none⟩ = some (.int .i64 0) := by rw [R_1.out.cell]; rfl
  have yf2 := R_1.out.frozen 2
  have y3 : w2.cell? ⟨w.heap.size, 3, none⟩ = some (.int .i64 0) := by rw [R_1.out.cell]; rfl
  have yf3 := R_1.out.frozen 3
  have y4 : w2.cell? ⟨w.heap.size, 4, none⟩ = some (.int .i64 0) := by rw [R_1.out.cell]; rfl
  have yf4 := R_1.out.frozen 4
  have y5 : w2.cell? ⟨w.heap.size, 5, none⟩ = some (.int .i64 0) := by rw [R_1.out.cell]; rfl
  have yf5 := R_1.out.frozen 5
  go_wp2_with fail
  clear y0 y1 y2 y3 y4 y5 yf0 yf1 yf2 yf3 yf4 yf5
  generalize hV : ((((((w2.setCell _ _).setCell _ _).setCell _ _).setCell _ _).setCell _ _).setCell _ _) = Wf
  have R_2 := Lib.hid (show Blk Wf (w.heap.size) 26 #[.int .i64 p, .slice A1 n c1, .int .i64 a, .int .i64 bb, .int .i64 s, .int .i64 g] by rw [← hV]; exact ((((((R_1.out.put 0 _).put 1 _).put 2 _).put 3 _).put 4 _).put 5 _))
  have B_2 := Lib.hid (show Below w.heap.size w Wf by rw [← hV]; exact ((((((B_1.out.setCell (by first | (simp; done) | (simp; omega) | omega) _).setCell (by first | (simp; done) | (simp; omega) | omega) _).setCell (by first | (simp; done) | (simp; omega) | omega) _).setCell (by first | (simp; done) | (simp; omega) | omega) _).setCell (by first | (simp; done) | (simp; omega) | omega) _).setCell (by first | (simp; done) | (simp; omega) | omega) _))
  have q0 := O_0.out.kept (grown_set _ ⟨w.heap.size, 0, none⟩ (.int .i64 p)) (.inr (own_type O_0.out R_1.out (by decide)))
  have q1 := q0.kept (grown_set _ ⟨w.heap.size, 1, none⟩ (.slice A1 n c1)) (.inr (own_type q0 (R_1.out.put 0 (.int .i64 p)) (by decide)))
  have q2 := q1.kept (grown_set _ ⟨w.heap.size, 2, none⟩ (.int .i64 a)) (.inr (own_type q1 ((R_1.out.put 0 (.int .i64 p)).put 1 (.slice A1 n c1)) (by decide)))
  have q3 := q2.kept (grown_set _ ⟨w.heap.size, 3, none⟩ (.int .i64 bb)) (.inr (own_type q2 (((R_1.out.put 0 (.int .i64 p)).put 1 (.slice A1 n c1)).put 2 (.int .i64 a)) (by decide)))
  have q4 := q3.kept (grown_set _ ⟨w.heap.size, 4, none⟩ (.int .i64 s)) (.inr (own_type q3 ((((R_1.out.put 0 (.int .i64 p)).put 1 (.slice A1 n c1)).put 2 (.int .i64 a)).put 3 (.int .i64 bb)) (by decide)))
  have q5 := q4.kept (grown_set _ ⟨w.heap.size, 5, none⟩ (.int .i64 g)) (.inr (own_type q4 (((((R_1.out.put 0 (.int .i64 p)).put 1 (.slice A1 n c1)).put 2 (.int .i64 a)).put 3 (.int .i64 bb)).put 4 (.int .i64 s)) (by decide)))
  rw [hV] at q5
  have O_1 := Lib.hid q5
  clear q0 q1 q2 q3 q4 q5
  clear hV R_1 B_1 O_0
  have e0 : Wf.cell? ⟨w.heap.size, 0, none⟩ = some (.int .i64 p) := by rw [R_2.out.cell]; rfl
  have e1 : Wf.cell? ⟨w.heap.size, 1, none⟩ = some (.slice A1 n c1) := by rw [R_2.out.cell]; rfl
  have e2 : Wf.cell? ⟨w.heap.size, 2, none⟩ = some (.int .i64 a) := by rw [R_2.out.cell]; rfl
  have e3 : Wf.cell? ⟨w.heap.size, 3, none⟩ = some (.int .i64 bb) := by rw [R_2.out.cell]; rfl
  have e4 : Wf.cell? ⟨w.heap.size, 4, none⟩ = some (.int .i64 s) := by rw [R_2.out.cell]; rfl
  have e5 : Wf.cell? ⟨w.heap.size, 5, none⟩ = some (.int .i64 g) := by rw [R_2.out.cell]; rfl
  exact bodyPost_ret (v := .agg #[.int .i64 p, .slice A1 n c1, .int .i64 a, .int .i64 bb, .int .i64 s, .int .i64 g]) (by simp [results, Try.results16, go_sem, e0, e1, e2, e3, e4, e5]) rfl ⟨p, a, bb, s, g, A1, n, c1, zs, ⟨HL.out, by omega, by omega, by omega, O_1.out⟩, rfl, B_2.out⟩

set_option maxRecDepth 100000 in
set_option maxHeartbeats 8000000 in
theorem drawBack_any (w : World) (A : Option Addr) (len cap : Nat) (hlen : len ≤ 2097152) (hcame : Came w A len) :
    Calls Try.prog 19 #[.slice A len cap] w (LkDraw w) := by
  have HC := Lib.hid hcame
  clear hcame
  go_enter Try.func19, Try.ntmps19
  go_wp2_with fail
  generalize hW : (w.alloc _) = W
  have bW : Below w.heap.size w W := by rw [← hW]; exact ((Below.refl _ _).alloc (by first | (simp; done) | (simp; omega)) _)
  have r0 : Blk W (w.heap.size) 26 #[.int .i64 0, .slice none 0 0, .int .i64 0, .int .i64 0, .int .i64 0, .int .i64 0] := by rw [← hW]; exact (Blk.new _ _ _)
  have hrl := r0.lt
  clear hW
  refine (new_any W A len cap hlen (HC.out.below bW)).mono ?_
  rintro e w1 ⟨c, rfl, hcw, hcur, hb1⟩
  have z1 := hb1.size
  have hck : ∀ k, some c = some k → w.heap.size ≤ k := fun k hk => by simp at hk; omega
  have R_0 := Lib.hid (r0.below hb1)
  have C_0 := Lib.hid (hcur)
  have B_0 := Lib.hid (below_chain bW hb1)
  clear hcur hb1 bW HC r0
  go_wp2_with fail
  refine (linkAny_draw w1 c A len cap hlen C_0.out).mono ?_
  rintro e w2 ⟨p, a, bb, s, g, A1, n, c1, zs, hn, hl, jp, ja, jb, js, jg, rfl, ho, hc2, g2⟩
  have HL := Lib.hid hl
  have om := w1.heap.size
  have bz := B_0.out.size
  have ho2 := Lib.hid (own_base ho (show w.heap.size ≤ w1.heap.size by omega))
  clear om bz ho hl
  obtain ⟨ci, ch, cle, cblk⟩ := C_0.out.at_
  have R_1 := Lib.hid (R_0.out.grown g2 (by simp; omega))
  have C_1 := Lib.hid (hc2)
  have B_1 := Lib.hid (B_0.out.grown g2 B_0.out.size hck)
  clear cblk cle R_0 C_0 B_0
  clear hc2 g2
  have O_0 := ho2
  clear ho2
  have y0 : w2.cell? ⟨w.heap.size, 0, none⟩ = some (.int .i64 0) := by rw [R_1.out.cell]; rfl
  have yf0 := R_1.out.frozen 0
  have y1 : w2.cell? ⟨w.heap.size, 1, none⟩ = some (.slice none 0 0) := by rw [R_1.out.cell]; rfl
  have yf1 := R_1.out.frozen 1
  have y2 : w2.cell? ⟨w.heap.size, 2, none⟩ = some (.int .i64 0) := by rw [R_1.out.cell]; rfl
  have yf2 := R_1.out.frozen 2
  have y3 : w2.cell? ⟨w.heap.size, 3, none⟩ = some (.int .i64 0) := by rw [R_1.out.cell]; rfl
  have yf3 := R_1.out.frozen 3
  have y4 : w2.cell? ⟨w.heap.size, 4, none⟩ = some (.int .i64 0) := by rw [R_1.out.cell]; rfl
  have yf4 := R_1.out.frozen 4
  have y5 : w2.cell? ⟨w.heap.size, 5, none⟩ = some (.int .i64 0) := by rw [R_1.out.cell]; rfl
  have yf5 := R_1.out.frozen 5
  go_wp2_with fail
  clear y0 y1 y2 y3 y4 y5 yf0 yf1 yf2 yf3 yf4 yf5
  generalize hV : ((((((w2.setCell _ _).setCell _ _).setCell _ _).setCell _ _).setCell _ _).setCell _ _) = Wf
  have R_2 := Lib.hid (show Blk Wf (w.heap.size) 26 #[.int .i64 p, .slice A1 n c1, .int .i64 a, .int .i64 bb, .int .i64 s, .int .i64 g] by rw [← hV]; exact ((((((R_1.out.put 0 _).put 1 _).put 2 _).put 3 _).put 4 _).put 5 _))
  have B_2 := Lib.hid (show Below w.heap.size w Wf by rw [← hV]; exact ((((((B_1.out.setCell (by first | (simp; done) | (simp; omega) | omega) _).setCell (by first | (simp; done) | (simp; omega) | omega) _).setCell (by first | (simp; done) | (simp; omega) | omega) _).setCell (by first | (simp; done) | (simp; omega) | omega) _).setCell (by first | (simp; done) | (simp; omega) | omega) _).setCell (by first | (simp; done) | (simp; omega) | omega) _))
  have q0 := O_0.out.kept (grown_set _ ⟨w.heap.size, 0, none⟩ (.int .i64 p)) (.inr (own_type O_0.out R_1.out (by decide)))
  have q1 := q0.kept (grown_set _ ⟨w.heap.size, 1, none⟩ (.slice A1 n c1)) (.inr (own_type q0 (R_1.out.put 0 (.int .i64 p)) (by decide)))
  have q2 := q1.kept (grown_set _ ⟨w.heap.size, 2, none⟩ (.int .i64 a)) (.inr (own_type q1 ((R_1.out.put 0 (.int .i64 p)).put 1 (.slice A1 n c1)) (by decide)))
  have q3 := q2.kept (grown_set _ ⟨w.heap.size, 3, none⟩ (.int .i64 bb)) (.inr (own_type q2 (((R_1.out.put 0 (.int .i64 p)).put 1 (.slice A1 n c1)).put 2 (.int .i64 a)) (by decide)))
  have q4 := q3.kept (grown_set _ ⟨w.heap.size, 4, none⟩ (.int .i64 s)) (.inr (own_type q3 ((((R_1.out.put 0 (.int .i64 p)).put 1 (.slice A1 n c1)).put 2 (.int .i64 a)).put 3 (.int .i64 bb)) (by decide)))
  have q5 := q4.kept (grown_set _ ⟨w.heap.size, 5, none⟩ (.int .i64 g)) (.inr (own_type q4 (((((R_1.out.put 0 (.int .i64 p)).put 1 (.slice A1 n c1)).put 2 (.int .i64 a)).put 3 (.int .i64 bb)).put 4 (.int .i64 s)) (by decide)))
  rw [hV] at q5
  have O_1 := Lib.hid q5
  clear q0 q1 q2 q3 q4 q5
  clear hV R_1 B_1 O_0
  have e0 : Wf.cell? ⟨w.heap.size, 0, none⟩ = some (.int .i64 p) := by rw [R_2.out.cell]; rfl
  have e1 : Wf.cell? ⟨w.heap.size, 1, none⟩ = some (.slice A1 n c1) := by rw [R_2.out.cell]; rfl
  have e2 : Wf.cell? ⟨w.heap.size, 2, none⟩ = some (.int .i64 a) := by rw [R_2.out.cell]; rfl
  have e3 : Wf.cell? ⟨w.heap.size, 3, none⟩ = some (.int .i64 bb) := by rw [R_2.out.cell]; rfl
  have e4 : Wf.cell? ⟨w.heap.size, 4, none⟩ = some (.int .i64 s) := by rw [R_2.out.cell]; rfl
  have e5 : Wf.cell? ⟨w.heap.size, 5, none⟩ = some (.int .i64 g) := by rw [R_2.out.cell]; rfl
  exact bodyPost_ret (v := .agg #[.int .i64 p, .slice A1 n c1, .int .i64 a, .int .i64 bb, .int .i64 s, .int .i64 g]) (by simp [results, Try.results19, go_sem, e0, e1, e2, e3, e4, e5]) rfl ⟨p, a, bb, s, g, A1, n, c1, zs, ⟨HL.out, by omega, by omega, by omega, O_1.out⟩, rfl, B_2.out⟩

set_option maxRecDepth 100000 in
set_option maxHeartbeats 8000000 in
theorem drawSend_any (w : World) (A : Option Addr) (len cap : Nat) (hlen : len ≤ 2097152) (hcame : Came w A len) :
    Calls Try.prog 10 #[.slice A len cap] w (LkRcDraw w) := by
  have HC := Lib.hid hcame
  clear hcame
  go_enter Try.func10, Try.ntmps10
  go_wp2_with fail
  generalize hW : ((w.alloc _).alloc _) = W
  have bW : Below w.heap.size w W := by rw [← hW]; exact (((Below.refl _ _).alloc (by first | (simp; done) | (simp; omega)) _).alloc (by first | (simp; done) | (simp; omega)) _)
  have r0 : Blk W (w.heap.size) 26 #[.int .i64 0, .slice none 0 0, .int .i64 0, .int .i64 0, .int .i64 0, .int .i64 0] := by rw [← hW]; exact ((Below.heap_alloc _ _ _ (by simp)).trans (Blk.new _ _ _))
  have r1 : Blk W (w.heap.size + 1) 30 #[.int .i64 0, .int .i64 0, .int .i64 0, .int .i64 0, .int .i64 0] := by rw [← hW]; exact ((show w.heap.size + 1 = (w.alloc _).heap.size by simp) ▸ Blk.new _ _ _)
  have hrl := r1.lt
  clear hW
  refine (new_any W A len cap hlen (HC.out.below bW)).mono ?_
  rintro e w1 ⟨c, rfl, hcw, hcur, hb1⟩
  have z1 := hb1.size
  have hck : ∀ k, some c = some k → w.heap.size ≤ k := fun k hk => by simp at hk; omega
  have R_0 := Lib.hid (r0.below hb1)
  have Q_0 := Lib.hid (r1.below hb1)
  have C_0 := Lib.hid (hcur)
  have B_0 := Lib.hid (below_chain bW hb1)
  clear hcur hb1 bW HC r0 r1
  go_wp2_with fail
  refine (linkAny_draw w1 c A len cap hlen C_0.out).mono ?_
  rintro e w2 ⟨p, a, bb, s, g, A1, n, c1, zs, hn, hl, jp, ja, jb, js, jg, rfl, ho, hc2, g2⟩
  have HL := Lib.hid hl
  have om := w1.heap.size
  have bz := B_0.out.size
  have ho2 := Lib.hid (own_base ho (show w.heap.size + 2 ≤ w1.heap.size by omega))
  clear om bz ho hl
  obtain ⟨ci, ch, cle, cblk⟩ := C_0.out.at_
  have R_1 := Lib.hid (R_0.out.grown g2 (by simp; omega))
  have Q_1 := Lib.hid (Q_0.out.grown g2 (by simp; omega))
  have C_1 := Lib.hid (hc2)
  have B_1 := Lib.hid (B_0.out.grown g2 B_0.out.size hck)
  clear cblk cle R_0 Q_0 C_0 B_0
  clear hc2 g2
  have O_0 := ho2
  clear ho2
  go_wp2_with fail
  refine (anyRc_draw w2 c A len cap hlen C_1.out).mono ?_
  rintro e w3 ⟨p0, p1, p2, p3, p4, _, rfl, hc2, g2⟩
  obtain ⟨ci, ch, cle, cblk⟩ := C_1.out.at_
  have R_2 := Lib.hid (R_1.out.grown g2 (by simp; omega))
  have Q_2 := Lib.hid (Q_1.out.grown g2 (by simp; omega))
  have C_2 := Lib.hid (hc2)
  have B_2 := Lib.hid (B_1.out.grown g2 B_1.out.size hck)
  have O_1 := Lib.hid (O_0.out.kept g2 (.inr (own_type O_0.out cblk (by decide))))
  clear cblk cle R_1 Q_1 C_1 B_1 O_0
  clear hc2 g2
  have y0 : w3.cell? ⟨w.heap.size, 0, none⟩ = some (.int .i64 0) := by rw [R_2.out.cell]; rfl
  have yf0 := R_2.out.frozen 0
  have y1 : w3.cell? ⟨w.heap.size, 1, none⟩ = some (.slice none 0 0) := by rw [R_2.out.cell]; rfl
  have yf1 := R_2.out.frozen 1
  have y2 : w3.cell? ⟨w.heap.size, 2, none⟩ = some (.int .i64 0) := by rw [R_2.out.cell]; rfl
  have yf2 := R_2.out.frozen 2
  have y3 : w3.cell? ⟨w.heap.size, 3, none⟩ = some (.int .i64 0) := by rw [R_2.out.cell]; rfl
  have yf3 := R_2.out.frozen 3
  have y4 : w3.cell? ⟨w.heap.size, 4, none⟩ = some (.int .i64 0) := by rw [R_2.out.cell]; rfl
  have yf4 := R_2.out.frozen 4
  have y5 : w3.cell? ⟨w.heap.size, 5, none⟩ = some (.int .i64 0) := by rw [R_2.out.cell]; rfl
  have yf5 := R_2.out.frozen 5
  have z0 : w3.cell? ⟨w.heap.size + 1, 0, none⟩ = some (.int .i64 0) := by rw [Q_2.out.cell]; rfl
  have zf0 := Q_2.out.frozen 0
  have z1 : w3.cell? ⟨w.heap.size + 1, 1, none⟩ = some (.int .i64 0) := by rw [Q_2.out.cell]; rfl
  have zf1 := Q_2.out.frozen 1
  have z2 : w3.cell? ⟨w.heap.size + 1, 2, none⟩ = some (.int .i64 0) := by rw [Q_2.out.cell]; rfl
  have zf2 := Q_2.out.frozen 2
  have z3 : w3.cell? ⟨w.heap.size + 1, 3, none⟩ = some (.int .i64 0) := by rw [Q_2.out.cell]; rfl
  have zf3 := Q_2.out.frozen 3
  have z4 : w3.cell? ⟨w.heap.size + 1, 4, none⟩ = some (.int .i64 0) := by rw [Q_2.out.cell]; rfl
  have zf4 := Q_2.out.frozen 4
  go_wp2_with fail
  clear y0 y1 y2 y3 y4 y5 yf0 yf1 yf2 yf3 yf4 yf5
  clear z0 z1 z2 z3 z4 zf0 zf1 zf2 zf3 zf4
  generalize hV : (((((((((((w3.setCell _ _).setCell _ _).setCell _ _).setCell _ _).setCell _ _).setCell _ _).setCell _ _).setCell _ _).setCell _ _).setCell _ _).setCell _ _) = Wf
  have R_3 := Lib.hid (show Blk Wf (w.heap.size) 26 #[.int .i64 p, .slice A1 n c1, .int .i64 a, .int .i64 bb, .int .i64 s, .int .i64 g] by rw [← hV]; exact (((((((((((R_2.out.put 0 _).put 1 _).put 2 _).put 3 _).put 4 _).put 5 _).other (by first | (simp; done) | (simp; omega) | omega) _).other (by first | (simp; done) | (simp; omega) | omega) _).other (by first | (simp; done) | (simp; omega) | omega) _).other (by first | (simp; done) | (simp; omega) | omega) _).other (by first | (simp; done) | (simp; omega) | omega) _))
  have Q_3 := Lib.hid (show Blk Wf (w.heap.size + 1) 30 #[.int .i64 p0, .int .i64 p1, .int .i64 p2, .int .i64 p3, .int .i64 p4] by rw [← hV]; exact (((((((((((Q_2.out.other (by first | (simp; done) | (simp; omega) | omega) _).other (by first | (simp; done) | (simp; omega) | omega) _).other (by first | (simp; done) | (simp; omega) | omega) _).other (by first | (simp; done) | (simp; omega) | omega) _).other (by first | (simp; done) | (simp; omega) | omega) _).other (by first | (simp; done) | (simp; omega) | omega) _).put 0 _).put 1 _).put 2 _).put 3 _).put 4 _))
  have B_3 := Lib.hid (show Below w.heap.size w Wf by rw [← hV]; exact (((((((((((B_2.out.setCell (by first | (simp; done) | (simp; omega) | omega) _).setCell (by first | (simp; done) | (simp; omega) | omega) _).setCell (by first | (simp; done) | (simp; omega) | omega) _).setCell (by first | (simp; done) | (simp; omega) | omega) _).setCell (by first | (simp; done) | (simp; omega) | omega) _).setCell (by first | (simp; done) | (simp; omega) | omega) _).setCell (by first | (simp; done) | (simp; omega) | omega) _).setCell (by first | (simp; done) | (simp; omega) | omega) _).setCell (by first | (simp; done) | (simp; omega) | omega) _).setCell (by first | (simp; done) | (simp; omega) | omega) _).setCell (by first | (simp; done) | (simp; omega) | omega) _))
  have q0 := O_1.out.kept (grown_set _ ⟨w.heap.size, 0, none⟩ (.int .i64 p)) (.inr (own_type O_1.out R_2.out (by decide)))
  have q1 := q0.kept (grown_set _ ⟨w.heap.size, 1, none⟩ (.slice A1 n c1)) (.inr (own_type q0 (R_2.out.put 0 (.int .i64 p)) (by decide)))
  have q2 := q1.kept (grown_set _ ⟨w.heap.size, 2, none⟩ (.int .i64 a)) (.inr (own_type q1 ((R_2.out.put 0 (.int .i64 p)).put 1 (.slice A1 n c1)) (by decide)))
  have q3 := q2.kept (grown_set _ ⟨w.heap.size, 3, none⟩ (.int .i64 bb)) (.inr (own_type q2 (((R_2.out.put 0 (.int .i64 p)).put 1 (.slice A1 n c1)).put 2 (.int .i64 a)) (by decide)))
  have q4 := q3.kept (grown_set _ ⟨w.heap.size, 4, none⟩ (.int .i64 s)) (.inr (own_type q3 ((((R_2.out.put 0 (.int .i64 p)).put 1 (.slice A1 n c1)).put 2 (.int .i64 a)).put 3 (.int .i64 bb)) (by decide)))
  have q5 := q4.kept (grown_set _ ⟨w.heap.size, 5, none⟩ (.int .i64 g)) (.inr (own_type q4 (((((R_2.out.put 0 (.int .i64 p)).put 1 (.slice A1 n c1)).put 2 (.int .i64 a)).put 3 (.int .i64 bb)).put 4 (.int .i64 s)) (by decide)))
  have q6 := q5.kept (grown_set _ ⟨w.heap.size + 1, 0, none⟩ (.int .i64 p0)) (.inr (fun e => by have h9 := own_ge q5 _ e; first | omega | (simp at h9)))
  have q7 := q6.kept (grown_set _ ⟨w.heap.size + 1, 1, none⟩ (.int .i64 p1)) (.inr (fun e => by have h9 := own_ge q6 _ e; first | omega | (simp at h9)))
  have q8 := q7.kept (grown_set _ ⟨w.heap.size + 1, 2, none⟩ (.int .i64 p2)) (.inr (fun e => by have h9 := own_ge q7 _ e; first | omega | (simp at h9)))
  have q9 := q8.kept (grown_set _ ⟨w.heap.size + 1, 3, none⟩ (.int .i64 p3)) (.inr (fun e => by have h9 := own_ge q8 _ e; first | omega | (simp at h9)))
  have q10 := q9.kept (grown_set _ ⟨w.heap.size + 1, 4, none⟩ (.int .i64 p4)) (.inr (fun e => by have h9 := own_ge q9 _ e; first | omega | (simp at h9)))
  rw [hV] at q10
  have O_2 := Lib.hid q10
  clear q0 q1 q2 q3 q4 q5 q6 q7 q8 q9 q10
  clear hV R_2 Q_2 B_2 O_1
  have e0 : Wf.cell? ⟨w.heap.size, 0, none⟩ = some (.int .i64 p) := by rw [R_3.out.cell]; rfl
  have e1 : Wf.cell? ⟨w.heap.size, 1, none⟩ = some (.slice A1 n c1) := by rw [R_3.out.cell]; rfl
  have e2 : Wf.cell? ⟨w.heap.size, 2, none⟩ = some (.int .i64 a) := by rw [R_3.out.cell]; rfl
  have e3 : Wf.cell? ⟨w.heap.size, 3, none⟩ = some (.int .i64 bb) := by rw [R_3.out.cell]; rfl
  have e4 : Wf.cell? ⟨w.heap.size, 4, none⟩ = some (.int .i64 s) := by rw [R_3.out.cell]; rfl
  have e5 : Wf.cell? ⟨w.heap.size, 5, none⟩ = some (.int .i64 g) := by rw [R_3.out.cell]; rfl
  have f0 : Wf.cell? ⟨w.heap.size + 1, 0, none⟩ = some (.int .i64 p0) := by rw [Q_3.out.cell]; rfl
  have f1 : Wf.cell? ⟨w.heap.size + 1, 1, none⟩ = some (.int .i64 p1) := by rw [Q_3.out.cell]; rfl
  have f2 : Wf.cell? ⟨w.heap.size + 1, 2, none⟩ = some (.int .i64 p2) := by rw [Q_3.out.cell]; rfl
  have f3 : Wf.cell? ⟨w.heap.size + 1, 3, none⟩ = some (.int .i64 p3) := by rw [Q_3.out.cell]; rfl
  have f4 : Wf.cell? ⟨w.heap.size + 1, 4, none⟩ = some (.int .i64 p4) := by rw [Q_3.out.cell]; rfl
  exact bodyPost_ret (v := .tuple #[.agg #[.int .i64 p, .slice A1 n c1, .int .i64 a, .int .i64 bb, .int .i64 s, .int .i64 g], .agg #[.int .i64 p0, .int .i64 p1, .int .i64 p2, .int .i64 p3, .int .i64 p4]]) (by simp [results, Try.results10, go_sem, e0, e1, e2, e3, e4, e5, f0, f1, f2, f3, f4]) rfl ⟨p, a, bb, s, g, A1, n, c1, zs, p0, p1, p2, p3, p4, ⟨HL.out, by omega, by omega, by omega, own_base O_2.out (by omega)⟩, rfl, B_3.out⟩

set_option maxRecDepth 100000 in
set_option maxHeartbeats 8000000 in
theorem drawFlight_any (w : World) (A : Option Addr) (len cap : Nat) (hlen : len ≤ 2097152) (hcame : Came w A len) :
    Calls Try.prog 22 #[.slice A len cap] w (LkNumDraw w) := by
  have HC := Lib.hid hcame
  clear hcame
  go_enter Try.func22, Try.ntmps22
  go_wp2_with fail
  generalize hW : (w.alloc _) = W
  have bW : Below w.heap.size w W := by rw [← hW]; exact ((Below.refl _ _).alloc (by first | (simp; done) | (simp; omega)) _)
  have r0 : Blk W (w.heap.size) 26 #[.int .i64 0, .slice none 0 0, .int .i64 0, .int .i64 0, .int .i64 0, .int .i64 0] := by rw [← hW]; exact (Blk.new _ _ _)
  have hrl := r0.lt
  clear hW
  refine (new_any W A len cap hlen (HC.out.below bW)).mono ?_
  rintro e w1 ⟨c, rfl, hcw, hcur, hb1⟩
  have z1 := hb1.size
  have hck : ∀ k, some c = some k → w.heap.size ≤ k := fun k hk => by simp at hk; omega
  have R_0 := Lib.hid (r0.below hb1)
  have C_0 := Lib.hid (hcur)
  have B_0 := Lib.hid (below_chain bW hb1)
  clear hcur hb1 bW HC r0
  go_wp2_with fail
  refine (linkAny_draw w1 c A len cap hlen C_0.out).mono ?_
  rintro e w2 ⟨p, a, bb, s, g, A1, n, c1, zs, hn, hl, jp, ja, jb, js, jg, rfl, ho, hc2, g2⟩
  have HL := Lib.hid hl
  have om := w1.heap.size
  have bz := B_0.out.size
  have ho2 := Lib.hid (own_base ho (show w.heap.size ≤ w1.heap.size by omega))
  clear om bz ho hl
  obtain ⟨ci, ch, cle, cblk⟩ := C_0.out.at_
  have R_1 := Lib.hid (R_0.out.grown g2 (by simp; omega))
  have C_1 := Lib.hid (hc2)
  have B_1 := Lib.hid (B_0.out.grown g2 B_0.out.size hck)
  clear cblk cle R_0 C_0 B_0
  clear hc2 g2
  have O_0 := ho2
  clear ho2
  go_wp2_with fail
  refine (below_any 6 (by omega) (by omega) w2 c A len cap hlen C_1.out).mono ?_
  rintro e w3 ⟨y, hy, rfl, hc2, g2⟩
  obtain ⟨ci, ch, cle, cblk⟩ := C_1.out.at_
  have R_2 := Lib.hid (R_1.out.grown g2 (by simp; omega))
  have C_2 := Lib.hid (hc2)
  have B_2 := Lib.hid (B_1.out.grown g2 B_1.out.size hck)
  have O_1 := Lib.hid (O_0.out.kept g2 (.inr (own_type O_0.out cblk (by decide))))
  clear cblk cle R_1 C_1 B_1 O_0
  clear hc2 g2
  obtain ⟨x, hx⟩ : ∃ x : Int, (y : Int) - 1 = x := ⟨_, rfl⟩
  have mx : IntKind.i64.wrap x = x := IntWalk.i64_in _ (by omega)
  have y0 : w3.cell? ⟨w.heap.size, 0, none⟩ = some (.int .i64 0) := by rw [R_2.out.cell]; rfl
  have yf0 := R_2.out.frozen 0
  have y1 : w3.cell? ⟨w.heap.size, 1, none⟩ = some (.slice none 0 0) := by rw [R_2.out.cell]; rfl
  have yf1 := R_2.out.frozen 1
  have y2 : w3.cell? ⟨w.heap.size, 2, none⟩ = some (.int .i64 0) := by rw [R_2.out.cell]; rfl
  have yf2 := R_2.out.frozen 2
  have y3 : w3.cell? ⟨w.heap.size, 3, none⟩ = some (.int .i64 0) := by rw [R_2.out.cell]; rfl
  have yf3 := R_2.out.frozen 3
  have y4 : w3.cell? ⟨w.heap.size, 4, none⟩ = some (.int .i64 0) := by rw [R_2.out.cell]; rfl
  have yf4 := R_2.out.frozen 4
  have y5 : w3.cell? ⟨w.heap.size, 5, none⟩ = some (.int .i64 0) := by rw [R_2.out.cell]; rfl
  have yf5 := R_2.out.frozen 5
  go_wp2_with fail
  clear y0 y1 y2 y3 y4 y5 yf0 yf1 yf2 yf3 yf4 yf5
  generalize hV : ((((((w3.setCell _ _).setCell _ _).setCell _ _).setCell _ _).setCell _ _).setCell _ _) = Wf
  have R_3 := Lib.hid (show Blk Wf (w.heap.size) 26 #[.int .i64 p, .slice A1 n c1, .int .i64 a, .int .i64 bb, .int .i64 s, .int .i64 g] by rw [← hV]; exact ((((((R_2.out.put 0 _).put 1 _).put 2 _).put 3 _).put 4 _).put 5 _))
  have B_3 := Lib.hid (show Below w.heap.size w Wf by rw [← hV]; exact ((((((B_2.out.setCell (by first | (simp; done) | (simp; omega) | omega) _).setCell (by first | (simp; done) | (simp; omega) | omega) _).setCell (by first | (simp; done) | (simp; omega) | omega) _).setCell (by first | (simp; done) | (simp; omega) | omega) _).setCell (by first | (simp; done) | (simp; omega) | omega) _).setCell (by first | (simp; done) | (simp; omega) | omega) _))
  have q0 := O_1.out.kept (grown_set _ ⟨w.heap.size, 0, none⟩ (.int .i64 p)) (.inr (own_type O_1.out R_2.out (by decide)))
  have q1 := q0.kept (grown_set _ ⟨w.heap.size, 1, none⟩ (.slice A1 n c1)) (.inr (own_type q0 (R_2.out.put 0 (.int .i64 p)) (by decide)))
  have q2 := q1.kept (grown_set _ ⟨w.heap.size, 2, none⟩ (.int .i64 a)) (.inr (own_type q1 ((R_2.out.put 0 (.int .i64 p)).put 1 (.slice A1 n c1)) (by decide)))
  have q3 := q2.kept (grown_set _ ⟨w.heap.size, 3, none⟩ (.int .i64 bb)) (.inr (own_type q2 (((R_2.out.put 0 (.int .i64 p)).put 1 (.slice A1 n c1)).put 2 (.int .i64 a)) (by decide)))
  have q4 := q3.kept (grown_set _ ⟨w.heap.size, 4, none⟩ (.int .i64 s)) (.inr (own_type q3 ((((R_2.out.put 0 (.int .i64 p)).put 1 (.slice A1 n c1)).put 2 (.int .i64 a)).put 3 (.int .i64 bb)) (by decide)))
  have q5 := q4.kept (grown_set _ ⟨w.heap.size, 5, none⟩ (.int .i64 g)) (.inr (own_type q4 (((((R_2.out.put 0 (.int .i64 p)).put 1 (.slice A1 n c1)).put 2 (.int .i64 a)).put 3 (.int .i64 bb)).put 4 (.int .i64 s)) (by decide)))
  rw [hV] at q5
  have O_2 := Lib.hid q5
  clear q0 q1 q2 q3 q4 q5
  clear hV R_2 B_2 O_1
  have e0 : Wf.cell? ⟨w.heap.size, 0, none⟩ = some (.int .i64 p) := by rw [R_3.out.cell]; rfl
  have e1 : Wf.cell? ⟨w.heap.size, 1, none⟩ = some (.slice A1 n c1) := by rw [R_3.out.cell]; rfl
  have e2 : Wf.cell? ⟨w.heap.size, 2, none⟩ = some (.int .i64 a) := by rw [R_3.out.cell]; rfl
  have e3 : Wf.cell? ⟨w.heap.size, 3, none⟩ = some (.int .i64 bb) := by rw [R_3.out.cell]; rfl
  have e4 : Wf.cell? ⟨w.heap.size, 4, none⟩ = some (.int .i64 s) := by rw [R_3.out.cell]; rfl
  have e5 : Wf.cell? ⟨w.heap.size, 5, none⟩ = some (.int .i64 g) := by rw [R_3.out.cell]; rfl
  exact bodyPost_ret (v := .tuple #[.agg #[.int .i64 p, .slice A1 n c1, .int .i64 a, .int .i64 bb, .int .i64 s, .int .i64 g], .int .i64 x]) (by simp [results, Try.results22, go_sem, e0, e1, e2, e3, e4, e5]) rfl ⟨p, a, bb, s, g, A1, n, c1, zs, x, ⟨HL.out, by omega, by omega, by omega, O_2.out⟩, rfl, B_3.out⟩

set_option maxRecDepth 100000 in
set_option maxHeartbeats 8000000 in
theorem drawSame_any (w : World) (A : Option Addr) (len cap : Nat) (hlen : len ≤ 2097152) (hcame : Came w A len) :
    Calls Try.prog 23 #[.slice A len cap] w (LkTwoDraw w) := by
  have HC := Lib.hid hcame
  clear hcame
  go_enter Try.func23, Try.ntmps23
  go_wp2_with fail
  generalize hW : ((w.alloc _).alloc _) = W
  have bW : Below w.heap.size w W := by rw [← hW]; exact (((Below.refl _ _).alloc (by first | (simp; done) | (simp; omega)) _).alloc (by first | (simp; done) | (simp; omega)) _)
  have r0 : Blk W (w.heap.size) 26 #[.int .i64 0, .slice none 0 0, .int .i64 0, .int .i64 0, .int .i64 0, .int .i64 0] := by rw [← hW]; exact ((Below.heap_alloc _ _ _ (by simp)).trans (Blk.new _ _ _))
  have r1 : Blk W (w.heap.size + 1) 26 #[.int .i64 0, .slice none 0 0, .int .i64 0, .int .i64 0, .int .i64 0, .int .i64 0] := by rw [← hW]; exact ((show w.heap.size + 1 = (w.alloc _).heap.size by simp) ▸ Blk.new _ _ _)
  have hrl := r1.lt
  clear hW
  refine (new_any W A len cap hlen (HC.out.below bW)).mono ?_
  rintro e w1 ⟨c, rfl, hcw, hcur, hb1⟩
  have z1 := hb1.size
  have hck : ∀ k, some c = some k → w.heap.size ≤ k := fun k hk => by simp at hk; omega
  have R_0 := Lib.hid (r0.below hb1)
  have Q_0 := Lib.hid (r1.below hb1)
  have C_0 := Lib.hid (hcur)
  have B_0 := Lib.hid (below_chain bW hb1)
  clear hcur hb1 bW HC r0 r1
  go_wp2_with fail
  refine (linkAny_draw w1 c A len cap hlen C_0.out).mono ?_
  rintro e w2 ⟨p, a, bb, s, g, A1, n, c1, zs, hn, hl, jp, ja, jb, js, jg, rfl, ho, hc2, g2⟩
  have HL := Lib.hid hl
  have om := w1.heap.size
  have bz := B_0.out.size
  have ho2 := Lib.hid (own_base ho (show w.heap.size ≤ w1.heap.size by omega))
  clear om bz ho hl
  obtain ⟨ci, ch, cle, cblk⟩ := C_0.out.at_
  have R_1 := Lib.hid (R_0.out.grown g2 (by simp; omega))
  have Q_1 := Lib.hid (Q_0.out.grown g2 (by simp; omega))
  have C_1 := Lib.hid (hc2)
  have B_1 := Lib.hid (B_0.out.grown g2 B_0.out.size hck)
  clear cblk cle R_0 Q_0 C_0 B_0
  clear hc2 g2
  have O_0 := ho2
  clear ho2
  go_upto_region 3 with fail
  generalize hU : w2.alloc _ = U
  have bU : Below w2.heap.size w2 U := by rw [← hU]; exact (Below.refl _ _).alloc (Nat.le_refl _) _
  obtain ⟨x, hx⟩ : ∃ x, w2.heap.size = x := ⟨_, rfl⟩
  have lx : w.heap.size + 1 < x := by rw [← hx]; exact Q_1.out.lt
  have lc : c < x := by rw [← hx]; exact C_1.out.lt
  have kx : Blk U x 26 #[.int .i64 p, .slice A1 n c1, .int .i64 a, .int .i64 bb, .int .i64 s, .int .i64 g] := by rw [← hU, ← hx]; exact Blk.new _ _ _
  rw [hx]
  clear hU hx
  have R_2 := Lib.hid (R_1.out.below bU)
  have Q_2 := Lib.hid (Q_1.out.below bU)
  have C_2 := Lib.hid (C_1.out.belowD bU)
  have B_2 := Lib.hid (below_chain B_1.out bU)
  have O_1 := Lib.hid (own_below O_0.out bU)
  clear R_1 Q_1 C_1 B_1 O_0
  have X_0 := Lib.hid (kx)
  clear kx bU
  go_wp2_with fail
  refine (once_any 2 (by omega) (by omega) U c A len cap hlen C_2.out).mono ?_
  rintro e w3 ⟨o1, rfl, hc2, g2⟩
  obtain ⟨ci, ch, cle, cblk⟩ := C_2.out.at_
  have R_3 := Lib.hid (R_2.out.grown g2 (by simp; omega))
  have Q_3 := Lib.hid (Q_2.out.grown g2 (by simp; omega))
  have C_3 := Lib.hid (hc2)
  have B_3 := Lib.hid (B_2.out.grown g2 B_2.out.size hck)
  have O_2 := Lib.hid (O_1.out.kept g2 (.inr (own_type O_1.out cblk (by decide))))
  have X_1 := Lib.hid (X_0.out.grown g2 (by simp; omega))
  clear cblk cle R_2 Q_2 C_2 B_2 O_1 X_0
  clear hc2 g2
  cases o1
  · skip
    go_wp2_with fail
    obtain ⟨w4, hw4⟩ : ∃ z, w3.drew = z := ⟨_, rfl⟩
    have bd : Below w3.heap.size w3 w4 := by rw [← hw4]; exact (Below.refl _ _).drew
    have R_4 := Lib.hid (R_3.out.below bd)
    have Q_4 := Lib.hid (Q_3.out.below bd)
    have C_4 := Lib.hid (C_3.out.belowD bd)
    have B_4 := Lib.hid (below_chain B_3.out bd)
    have O_3 := Lib.hid (own_below O_2.out bd)
    have X_2 := Lib.hid (X_1.out.below bd)
    clear R_3 Q_3 C_3 B_3 O_2 X_1
    clear bd
    refine wp_region_held_drew (S := fun _ => True) (by kernel_rfl) ?_ (fun hHeld => ?_)
    · exact trivial
    change wpAnyH _ _ opsQ5 _ _ 5 (#[false, false, false, false, false] : Array Bool) _ _
    rw [hw4]
    clear hw4
    refine tQ5_e_1 (.pointer (some ⟨c, 0, none⟩)) (fun _ _ _ h => h) (Or.inl ⟨by rfl, fun W hSw => ?_⟩) hHeld ?_
    · skip
      unfold qQ5_1
      go_simp
    try simp only [Act.put, List.setIfInBounds_toArray, List.set_cons_zero, List.set_cons_succ]
    refine cQ5_1_02 (fun K hK => ?_) (fun K hK => ?_)
    · rw [if_pos (by rfl)]
      unfold qQ5_0
      have l0 : w4.cell? ⟨x, 0, none⟩ = some (.int .i64 p) := by rw [X_2.out.cell]; rfl
      have l1 : w4.cell? ⟨x, 1, none⟩ = some (.slice A1 n c1) := by rw [X_2.out.cell]; rfl
      have l2 : w4.cell? ⟨x, 2, none⟩ = some (.int .i64 a) := by rw [X_2.out.cell]; rfl
      have l3 : w4.cell? ⟨x, 3, none⟩ = some (.int .i64 bb) := by rw [X_2.out.cell]; rfl
      have l4 : w4.cell? ⟨x, 4, none⟩ = some (.int .i64 s) := by rw [X_2.out.cell]; rfl
      have l5 : w4.cell? ⟨x, 5, none⟩ = some (.int .i64 g) := by rw [X_2.out.cell]; rfl
      go_simp
      clear l0 l1 l2 l3 l4 l5
      refine Shut.out hK _ _ ?_ (fun hHeld => ?_)
      · exact trivial
      clear hK K
      try simp only [Act.put, List.setIfInBounds_toArray, List.set_cons_zero, List.set_cons_succ]
      refine cQ5_01_2 (fun K hK => ?_)
      rw [if_pos (by rfl)]
      unfold qQ5_2
      go_simp
      refine (linkAny_draw w4 c A len cap hlen C_4.out).mono ?_
      rintro e v1 ⟨p2, a2, bb2, s2, g2, A12, n2, c12, zs2, hn2, hl2, jp2, ja2, jb2, js2, jg2, rfl, ho, hc2, g2⟩
      have HL2 := Lib.hid hl2
      have om := w4.heap.size
      have bz := B_4.out.size
      have ho2 := Lib.hid (own_base ho (show w.heap.size ≤ w4.heap.size by omega))
      clear om bz ho hl2
      obtain ⟨ci, ch, cle, cblk⟩ := C_4.out.at_
      have R_5 := Lib.hid (R_4.out.grown g2 (by simp; omega))
      have Q_5 := Lib.hid (Q_4.out.grown g2 (by simp; omega))
      have C_5 := Lib.hid (hc2)
      have B_5 := Lib.hid (B_4.out.grown g2 B_4.out.size hck)
      have O_4 := Lib.hid (O_3.out.kept g2 (.inr (own_type O_3.out cblk (by decide))))
      have X_3 := Lib.hid (X_2.out.grown g2 (by simp; omega))
      clear cblk cle R_4 Q_4 C_4 B_4 O_3 X_2
      clear hc2 g2
      have O2_0 := ho2
      clear ho2
      refine Shut.out hK _ _ ?_ (fun hHeld => ?_)
      · exact trivial
      clear hK K
      try simp only [Act.put, List.setIfInBounds_toArray, List.set_cons_zero, List.set_cons_succ]
      refine cQ5_012_3 (fun K hK => ?_)
      rw [if_pos (by rfl)]
      unfold qQ5_3
      have l0 : v1.cell? ⟨w.heap.size, 0, none⟩ = some (.int .i64 0) := by rw [R_5.out.cell]; rfl
      have lf0 := R_5.out.frozen 0
      have l1 : v1.cell? ⟨w.heap.size, 1, none⟩ = some (.slice none 0 0) := by rw [R_5.out.cell]; rfl
      have lf1 := R_5.out.frozen 1
      have l2 : v1.cell? ⟨w.heap.size, 2, none⟩ = some (.int .i64 0) := by rw [R_5.out.cell]; rfl
      have lf2 := R_5.out.frozen 2
      have l3 : v1.cell? ⟨w.heap.size, 3, none⟩ = some (.int .i64 0) := by rw [R_5.out.cell]; rfl
      have lf3 := R_5.out.frozen 3
      have l4 : v1.cell? ⟨w.heap.size, 4, none⟩ = some (.int .i64 0) := by rw [R_5.out.cell]; rfl
      have lf4 := R_5.out.frozen 4
      have l5 : v1.cell? ⟨w.heap.size, 5, none⟩ = some (.int .i64 0) := by rw [R_5.out.cell]; rfl
      have lf5 := R_5.out.frozen 5
      go_simp
      clear l0 l1 l2 l3 l4 l5 lf0 lf1 lf2 lf3 lf4 lf5
      generalize hV : ((((((v1.setCell _ _).setCell _ _).setCell _ _).setCell _ _).setCell _ _).setCell _ _) = v2
      have R_6 := Lib.hid (show Blk v2 (w.heap.size) 26 #[.int .i64 p, .slice A1 n c1, .int .i64 a, .int .i64 bb, .int .i64 s, .int .i64 g] by rw [← hV]; exact ((((((R_5.out.put 0 _).put 1 _).put 2 _).put 3 _).put 4 _).put 5 _))
      have Q_6 := Lib.hid (show Blk v2 (w.heap.size + 1) 26 #[.int .i64 0, .slice none 0 0, .int .i64 0, .int .i64 0, .int .i64 0, .int .i64 0] by rw [← hV]; exact ((((((Q_5.out.other (by first | (simp; done) | (simp; omega) | omega) _).other (by first | (simp; done) | (simp; omega) | omega) _).other (by first | (simp; done) | (simp; omega) | omega) _).other (by first | (simp; done) | (simp; omega) | omega) _).other (by first | (simp; done) | (simp; omega) | omega) _).other (by first | (simp; done) | (simp; omega) | omega) _))
      have B_6 := Lib.hid (show Below w.heap.size w v2 by rw [← hV]; exact ((((((B_5.out.setCell (by first | (simp; done) | (simp; omega) | omega) _).setCell (by first | (simp; done) | (simp; omega) | omega) _).setCell (by first | (simp; done) | (simp; omega) | omega) _).setCell (by first | (simp; done) | (simp; omega) | omega) _).setCell (by first | (simp; done) | (simp; omega) | omega) _).setCell (by first | (simp; done) | (simp; omega) | omega) _))
      have q0 := O_4.out.kept (grown_set _ ⟨w.heap.size, 0, none⟩ (.int .i64 p)) (.inr (own_type O_4.out R_5.out (by decide)))
      have q1 := q0.kept (grown_set _ ⟨w.heap.size, 1, none⟩ (.slice A1 n c1)) (.inr (own_type q0 (R_5.out.put 0 (.int .i64 p)) (by decide)))
      have q2 := q1.kept (grown_set _ ⟨w.heap.size, 2, none⟩ (.int .i64 a)) (.inr (own_type q1 ((R_5.out.put 0 (.int .i64 p)).put 1 (.slice A1 n c1)) (by decide)))
      have q3 := q2.kept (grown_set _ ⟨w.heap.size, 3, none⟩ (.int .i64 bb)) (.inr (own_type q2 (((R_5.out.put 0 (.int .i64 p)).put 1 (.slice A1 n c1)).put 2 (.int .i64 a)) (by decide)))
      have q4 := q3.kept (grown_set _ ⟨w.heap.size, 4, none⟩ (.int .i64 s)) (.inr (own_type q3 ((((R_5.out.put 0 (.int .i64 p)).put 1 (.slice A1 n c1)).put 2 (.int .i64 a)).put 3 (.int .i64 bb)) (by decide)))
      have q5 := q4.kept (grown_set _ ⟨w.heap.size, 5, none⟩ (.int .i64 g)) (.inr (own_type q4 (((((R_5.out.put 0 (.int .i64 p)).put 1 (.slice A1 n c1)).put 2 (.int .i64 a)).put 3 (.int .i64 bb)).put 4 (.int .i64 s)) (by decide)))
      rw [hV] at q5
      have O_5 := Lib.hid q5
      clear q0 q1 q2 q3 q4 q5
      have X_4 := Lib.hid (show Blk v2 (x) 26 #[.int .i64 p, .slice A1 n c1, .int .i64 a, .int .i64 bb, .int .i64 s, .int .i64 g] by rw [← hV]; exact ((((((X_3.out.other (by first | (simp; done) | (simp; omega) | omega) _).other (by first | (simp; done) | (simp; omega) | omega) _).other (by first | (simp; done) | (simp; omega) | omega) _).other (by first | (simp; done) | (simp; omega) | omega) _).other (by first | (simp; done) | (simp; omega) | omega) _).other (by first | (simp; done) | (simp; omega) | omega) _))
      have q0 := O2_0.out.kept (grown_set _ ⟨w.heap.size, 0, none⟩ (.int .i64 p)) (.inr (own_type O2_0.out R_5.out (by decide)))
      have q1 := q0.kept (grown_set _ ⟨w.heap.size, 1, none⟩ (.slice A1 n c1)) (.inr (own_type q0 (R_5.out.put 0 (.int .i64 p)) (by decide)))
      have q2 := q1.kept (grown_set _ ⟨w.heap.size, 2, none⟩ (.int .i64 a)) (.inr (own_type q1 ((R_5.out.put 0 (.int .i64 p)).put 1 (.slice A1 n c1)) (by decide)))
      have q3 := q2.kept (grown_set _ ⟨w.heap.size, 3, none⟩ (.int .i64 bb)) (.inr (own_type q2 (((R_5.out.put 0 (.int .i64 p)).put 1 (.slice A1 n c1)).put 2 (.int .i64 a)) (by decide)))
      have q4 := q3.kept (grown_set _ ⟨w.heap.size, 4, none⟩ (.int .i64 s)) (.inr (own_type q3 ((((R_5.out.put 0 (.int .i64 p)).put 1 (.slice A1 n c1)).put 2 (.int .i64 a)).put 3 (.int .i64 bb)) (by decide)))
      have q5 := q4.kept (grown_set _ ⟨w.heap.size, 5, none⟩ (.int .i64 g)) (.inr (own_type q4 (((((R_5.out.put 0 (.int .i64 p)).put 1 (.slice A1 n c1)).put 2 (.int .i64 a)).put 3 (.int .i64 bb)).put 4 (.int .i64 s)) (by decide)))
      rw [hV] at q5
      have O2_1 := Lib.hid q5
      clear q0 q1 q2 q3 q4 q5
      clear hV R_5 Q_5 B_5 O_4 X_3 O2_0
      refine Shut.out hK _ _ ?_ (fun hHeld => ?_)
      · exact trivial
      clear hK K
      try simp only [Act.put, List.setIfInBounds_toArray, List.set_cons_zero, List.set_cons_succ]
      refine cQ5_0123_4 (fun K hK => ?_)
      rw [if_pos (by rfl)]
      unfold qQ5_4
      have l0 : v2.cell? ⟨w.heap.size + 1, 0, none⟩ = some (.int .i64 0) := by rw [Q_6.out.cell]; rfl
      have lf0 := Q_6.out.frozen 0
      have l1 : v2.cell? ⟨w.heap.size + 1, 1, none⟩ = some (.slice none 0 0) := by rw [Q_6.out.cell]; rfl
      have lf1 := Q_6.out.frozen 1
      have l2 : v2.cell? ⟨w.heap.size + 1, 2, none⟩ = some (.int .i64 0) := by rw [Q_6.out.cell]; rfl
      have lf2 := Q_6.out.frozen 2
      have l3 : v2.cell? ⟨w.heap.size + 1, 3, none⟩ = some (.int .i64 0) := by rw [Q_6.out.cell]; rfl
      have lf3 := Q_6.out.frozen 3
      have l4 : v2.cell? ⟨w.heap.size + 1, 4, none⟩ = some (.int .i64 0) := by rw [Q_6.out.cell]; rfl
      have lf4 := Q_6.out.frozen 4
      have l5 : v2.cell? ⟨w.heap.size + 1, 5, none⟩ = some (.int .i64 0) := by rw [Q_6.out.cell]; rfl
      have lf5 := Q_6.out.frozen 5
      go_simp
      clear l0 l1 l2 l3 l4 l5 lf0 lf1 lf2 lf3 lf4 lf5
      generalize hV : ((((((v2.setCell _ _).setCell _ _).setCell _ _).setCell _ _).setCell _ _).setCell _ _) = v3
      have R_7 := Lib.hid (show Blk v3 (w.heap.size) 26 #[.int .i64 p, .slice A1 n c1, .int .i64 a, .int .i64 bb, .int .i64 s, .int .i64 g] by rw [← hV]; exact ((((((R_6.out.other (by first | (simp; done) | (simp; omega) | omega) _).other (by first | (simp; done) | (simp; omega) | omega) _).other (by first | (simp; done) | (simp; omega) | omega) _).other (by first | (simp; done) | (simp; omega) | omega) _).other (by first | (simp; done) | (simp; omega) | omega) _).other (by first | (simp; done) | (simp; omega) | omega) _))
      have Q_7 := Lib.hid (show Blk v3 (w.heap.size + 1) 26 #[.int .i64 p2, .slice A12 n2 c12, .int .i64 a2, .int .i64 bb2, .int .i64 s2, .int .i64 g2] by rw [← hV]; exact ((((((Q_6.out.put 0 _).put 1 _).put 2 _).put 3 _).put 4 _).put 5 _))
      have B_7 := Lib.hid (show Below w.heap.size w v3 by rw [← hV]; exact ((((((B_6.out.setCell (by first | (simp; done) | (simp; omega) | omega) _).setCell (by first | (simp; done) | (simp; omega) | omega) _).setCell (by first | (simp; done) | (simp; omega) | omega) _).setCell (by first | (simp; done) | (simp; omega) | omega) _).setCell (by first | (simp; done) | (simp; omega) | omega) _).setCell (by first | (simp; done) | (simp; omega) | omega) _))
      have q0 := O_5.out.kept (grown_set _ ⟨w.heap.size + 1, 0, none⟩ (.int .i64 p2)) (.inr (own_type O_5.out Q_6.out (by decide)))
      have q1 := q0.kept (grown_set _ ⟨w.heap.size + 1, 1, none⟩ (.slice A12 n2 c12)) (.inr (own_type q0 (Q_6.out.put 0 (.int .i64 p2)) (by decide)))
      have q2 := q1.kept (grown_set _ ⟨w.heap.size + 1, 2, none⟩ (.int .i64 a2)) (.inr (own_type q1 ((Q_6.out.put 0 (.int .i64 p2)).put 1 (.slice A12 n2 c12)) (by decide)))
      have q3 := q2.kept (grown_set _ ⟨w.heap.size + 1, 3, none⟩ (.int .i64 bb2)) (.inr (own_type q2 (((Q_6.out.put 0 (.int .i64 p2)).put 1 (.slice A12 n2 c12)).put 2 (.int .i64 a2)) (by decide)))
      have q4 := q3.kept (grown_set _ ⟨w.heap.size + 1, 4, none⟩ (.int .i64 s2)) (.inr (own_type q3 ((((Q_6.out.put 0 (.int .i64 p2)).put 1 (.slice A12 n2 c12)).put 2 (.int .i64 a2)).put 3 (.int .i64 bb2)) (by decide)))
      have q5 := q4.kept (grown_set _ ⟨w.heap.size + 1, 5, none⟩ (.int .i64 g2)) (.inr (own_type q4 (((((Q_6.out.put 0 (.int .i64 p2)).put 1 (.slice A12 n2 c12)).put 2 (.int .i64 a2)).put 3 (.int .i64 bb2)).put 4 (.int .i64 s2)) (by decide)))
      rw [hV] at q5
      have O_6 := Lib.hid q5
      clear q0 q1 q2 q3 q4 q5
      have X_5 := Lib.hid (show Blk v3 (x) 26 #[.int .i64 p, .slice A1 n c1, .int .i64 a, .int .i64 bb, .int .i64 s, .int .i64 g] by rw [← hV]; exact ((((((X_4.out.other (by first | (simp; done) | (simp; omega) | omega) _).other (by first | (simp; done) | (simp; omega) | omega) _).other (by first | (simp; done) | (simp; omega) | omega) _).other (by first | (simp; done) | (simp; omega) | omega) _).other (by first | (simp; done) | (simp; omega) | omega) _).other (by first | (simp; done) | (simp; omega) | omega) _))
      have q0 := O2_1.out.kept (grown_set _ ⟨w.heap.size + 1, 0, none⟩ (.int .i64 p2)) (.inr (own_type O2_1.out Q_6.out (by decide)))
      have q1 := q0.kept (grown_set _ ⟨w.heap.size + 1, 1, none⟩ (.slice A12 n2 c12)) (.inr (own_type q0 (Q_6.out.put 0 (.int .i64 p2)) (by decide)))
      have q2 := q1.kept (grown_set _ ⟨w.heap.size + 1, 2, none⟩ (.int .i64 a2)) (.inr (own_type q1 ((Q_6.out.put 0 (.int .i64 p2)).put 1 (.slice A12 n2 c12)) (by decide)))
      have q3 := q2.kept (grown_set _ ⟨w.heap.size + 1, 3, none⟩ (.int .i64 bb2)) (.inr (own_type q2 (((Q_6.out.put 0 (.int .i64 p2)).put 1 (.slice A12 n2 c12)).put 2 (.int .i64 a2)) (by decide)))
      have q4 := q3.kept (grown_set _ ⟨w.heap.size + 1, 4, none⟩ (.int .i64 s2)) (.inr (own_type q3 ((((Q_6.out.put 0 (.int .i64 p2)).put 1 (.slice A12 n2 c12)).put 2 (.int .i64 a2)).put 3 (.int .i64 bb2)) (by decide)))
      have q5 := q4.kept (grown_set _ ⟨w.heap.size + 1, 5, none⟩ (.int .i64 g2)) (.inr (own_type q4 (((((Q_6.out.put 0 (.int .i64 p2)).put 1 (.slice A12 n2 c12)).put 2 (.int .i64 a2)).put 3 (.int .i64 bb2)).put 4 (.int .i64 s2)) (by decide)))
      rw [hV] at q5
      have O2_2 := Lib.hid q5
      clear q0 q1 q2 q3 q4 q5
      clear hV R_6 Q_6 B_6 O_5 X_4 O2_1
      refine Shut.out hK _ _ ?_ (fun hHeld => ?_)
      · exact trivial
      clear hK K
      try simp only [Act.put, List.setIfInBounds_toArray, List.set_cons_zero, List.set_cons_succ]
      refine wpAnyH_done (by kernel_rfl) ?_ _
      clear hHeld
      have e0 : v3.cell? ⟨w.heap.size, 0, none⟩ = some (.int .i64 p) := by rw [R_7.out.cell]; rfl
      have e1 : v3.cell? ⟨w.heap.size, 1, none⟩ = some (.slice A1 n c1) := by rw [R_7.out.cell]; rfl
      have e2 : v3.cell? ⟨w.heap.size, 2, none⟩ = some (.int .i64 a) := by rw [R_7.out.cell]; rfl
      have e3 : v3.cell? ⟨w.heap.size, 3, none⟩ = some (.int .i64 bb) := by rw [R_7.out.cell]; rfl
      have e4 : v3.cell? ⟨w.heap.size, 4, none⟩ = some (.int .i64 s) := by rw [R_7.out.cell]; rfl
      have e5 : v3.cell? ⟨w.heap.size, 5, none⟩ = some (.int .i64 g) := by rw [R_7.out.cell]; rfl
      have f0 : v3.cell? ⟨w.heap.size + 1, 0, none⟩ = some (.int .i64 p2) := by rw [Q_7.out.cell]; rfl
      have f1 : v3.cell? ⟨w.heap.size + 1, 1, none⟩ = some (.slice A12 n2 c12) := by rw [Q_7.out.cell]; rfl
      have f2 : v3.cell? ⟨w.heap.size + 1, 2, none⟩ = some (.int .i64 a2) := by rw [Q_7.out.cell]; rfl
      have f3 : v3.cell? ⟨w.heap.size + 1, 3, none⟩ = some (.int .i64 bb2) := by rw [Q_7.out.cell]; rfl
      have f4 : v3.cell? ⟨w.heap.size + 1, 4, none⟩ = some (.int .i64 s2) := by rw [Q_7.out.cell]; rfl
      have f5 : v3.cell? ⟨w.heap.size + 1, 5, none⟩ = some (.int .i64 g2) := by rw [Q_7.out.cell]; rfl
      go_wp2_with fail
      exact bodyPost_ret (v := .tuple #[.agg #[.int .i64 p, .slice A1 n c1, .int .i64 a, .int .i64 bb, .int .i64 s, .int .i64 g], .agg #[.int .i64 p2, .slice A12 n2 c12, .int .i64 a2, .int .i64 bb2, .int .i64 s2, .int .i64 g2]]) (by simp [results, Try.results23, go_sem, e0, e1, e2, e3, e4, e5, f0, f1, f2, f3, f4, f5]) rfl ⟨p, a, bb, s, g, A1, n, c1, zs, p2, a2, bb2, s2, g2, A12, n2, c12, zs2, ⟨HL.out, by omega, by omega, by omega, O_6.out⟩, ⟨HL2.out, by omega, by omega, by omega, O2_2.out⟩, rfl, B_7.out⟩
    · rw [if_pos (by rfl)]
      unfold qQ5_2
      go_simp
      refine (linkAny_draw w4 c A len cap hlen C_4.out).mono ?_
      rintro e v4 ⟨p2, a2, bb2, s2, g2, A12, n2, c12, zs2, hn2, hl2, jp2, ja2, jb2, js2, jg2, rfl, ho, hc2, g2⟩
      have HL2 := Lib.hid hl2
      have om := w4.heap.size
      have bz := B_4.out.size
      have ho2 := Lib.hid (own_base ho (show w.heap.size ≤ w4.heap.size by omega))
      clear om bz ho hl2
      obtain ⟨ci, ch, cle, cblk⟩ := C_4.out.at_
      have R_5 := Lib.hid (R_4.out.grown g2 (by simp; omega))
      have Q_5 := Lib.hid (Q_4.out.grown g2 (by simp; omega))
      have C_5 := Lib.hid (hc2)
      have B_5 := Lib.hid (B_4.out.grown g2 B_4.out.size hck)
      have O_4 := Lib.hid (O_3.out.kept g2 (.inr (own_type O_3.out cblk (by decide))))
      have X_3 := Lib.hid (X_2.out.grown g2 (by simp; omega))
      clear cblk cle R_4 Q_4 C_4 B_4 O_3 X_2
      clear hc2 g2
      have O2_0 := ho2
      clear ho2
      refine Shut.out hK _ _ ?_ (fun hHeld => ?_)
      · exact trivial
      clear hK K
      try simp only [Act.put, List.setIfInBounds_toArray, List.set_cons_zero, List.set_cons_succ]
      refine cQ5_12_0 (fun K hK => ?_)
      rw [if_pos (by rfl)]
      unfold qQ5_0
      have l0 : v4.cell? ⟨x, 0, none⟩ = some (.int .i64 p) := by rw [X_3.out.cell]; rfl
      have l1 : v4.cell? ⟨x, 1, none⟩ = some (.slice A1 n c1) := by rw [X_3.out.cell]; rfl
      have l2 : v4.cell? ⟨x, 2, none⟩ = some (.int .i64 a) := by rw [X_3.out.cell]; rfl
      have l3 : v4.cell? ⟨x, 3, none⟩ = some (.int .i64 bb) := by rw [X_3.out.cell]; rfl
      have l4 : v4.cell? ⟨x, 4, none⟩ = some (.int .i64 s) := by rw [X_3.out.cell]; rfl
      have l5 : v4.cell? ⟨x, 5, none⟩ = some (.int .i64 g) := by rw [X_3.out.cell]; rfl
      go_simp
      clear l0 l1 l2 l3 l4 l5
      refine Shut.out hK _ _ ?_ (fun hHeld => ?_)
      · exact trivial
      clear hK K
      try simp only [Act.put, List.setIfInBounds_toArray, List.set_cons_zero, List.set_cons_succ]
      refine cQ5_012_3 (fun K hK => ?_)
      rw [if_pos (by rfl)]
      unfold qQ5_3
      have l0 : v4.cell? ⟨w.heap.size, 0, none⟩ = some (.int .i64 0) := by rw [R_5.out.cell]; rfl
      have lf0 := R_5.out.frozen 0
      have l1 : v4.cell? ⟨w.heap.size, 1, none⟩ = some (.slice none 0 0) := by rw [R_5.out.cell]; rfl
      have lf1 := R_5.out.frozen 1
      have l2 : v4.cell? ⟨w.heap.size, 2, none⟩ = some (.int .i64 0) := by rw [R_5.out.cell]; rfl
      have lf2 := R_5.out.frozen 2
      have l3 : v4.cell? ⟨w.heap.size, 3, none⟩ = some (.int .i64 0) := by rw [R_5.out.cell]; rfl
      have lf3 := R_5.out.frozen 3
      have l4 : v4.cell? ⟨w.heap.size, 4, none⟩ = some (.int .i64 0) := by rw [R_5.out.cell]; rfl
      have lf4 := R_5.out.frozen 4
      have l5 : v4.cell? ⟨w.heap.size, 5, none⟩ = some (.int .i64 0) := by rw [R_5.out.cell]; rfl
      have lf5 := R_5.out.frozen 5
      go_simp
      clear l0 l1 l2 l3 l4 l5 lf0 lf1 lf2 lf3 lf4 lf5
      generalize hV : ((((((v4.setCell _ _).setCell _ _).setCell _ _).setCell _ _).setCell _ _).setCell _ _) = v5
      have R_6 := Lib.hid (show Blk v5 (w.heap.size) 26 #[.int .i64 p, .slice A1 n c1, .int .i64 a, .int .i64 bb, .int .i64 s, .int .i64 g] by rw [← hV]; exact ((((((R_5.out.put 0 _).put 1 _).put 2 _).put 3 _).put 4 _).put 5 _))
      have Q_6 := Lib.hid (show Blk v5 (w.heap.size + 1) 26 #[.int .i64 0, .slice none 0 0, .int .i64 0, .int .i64 0, .int .i64 0, .int .i64 0] by rw [← hV]; exact ((((((Q_5.out.other (by first | (simp; done) | (simp; omega) | omega) _).other (by first | (simp; done) | (simp; omega) | omega) _).other (by first | (simp; done) | (simp; omega) | omega) _).other (by first | (simp; done) | (simp; omega) | omega) _).other (by first | (simp; done) | (simp; omega) | omega) _).other (by first | (simp; done) | (simp; omega) | omega) _))
      have B_6 := Lib.hid (show Below w.heap.size w v5 by rw [← hV]; exact ((((((B_5.out.setCell (by first | (simp; done) | (simp; omega) | omega) _).setCell (by first | (simp; done) | (simp; omega) | omega) _).setCell (by first | (simp; done) | (simp; omega) | omega) _).setCell (by first | (simp; done) | (simp; omega) | omega) _).setCell (by first | (simp; done) | (simp; omega) | omega) _).setCell (by first | (simp; done) | (simp; omega) | omega) _))
      have q0 := O_4.out.kept (grown_set _ ⟨w.heap.size, 0, none⟩ (.int .i64 p)) (.inr (own_type O_4.out R_5.out (by decide)))
      have q1 := q0.kept (grown_set _ ⟨w.heap.size, 1, none⟩ (.slice A1 n c1)) (.inr (own_type q0 (R_5.out.put 0 (.int .i64 p)) (by decide)))
      have q2 := q1.kept (grown_set _ ⟨w.heap.size, 2, none⟩ (.int .i64 a)) (.inr (own_type q1 ((R_5.out.put 0 (.int .i64 p)).put 1 (.slice A1 n c1)) (by decide)))
      have q3 := q2.kept (grown_set _ ⟨w.heap.size, 3, none⟩ (.int .i64 bb)) (.inr (own_type q2 (((R_5.out.put 0 (.int .i64 p)).put 1 (.slice A1 n c1)).put 2 (.int .i64 a)) (by decide)))
      have q4 := q3.kept (grown_set _ ⟨w.heap.size, 4, none⟩ (.int .i64 s)) (.inr (own_type q3 ((((R_5.out.put 0 (.int .i64 p)).put 1 (.slice A1 n c1)).put 2 (.int .i64 a)).put 3 (.int .i64 bb)) (by decide)))
      have q5 := q4.kept (grown_set _ ⟨w.heap.size, 5, none⟩ (.int .i64 g)) (.inr (own_type q4 (((((R_5.out.put 0 (.int .i64 p)).put 1 (.slice A1 n c1)).put 2 (.int .i64 a)).put 3 (.int .i64 bb)).put 4 (.int .i64 s)) (by decide)))
      rw [hV] at q5
      have O_5 := Lib.hid q5
      clear q0 q1 q2 q3 q4 q5
      have X_4 := Lib.hid (show Blk v5 (x) 26 #[.int .i64 p, .slice A1 n c1, .int .i64 a, .int .i64 bb, .int .i64 s, .int .i64 g] by rw [← hV]; exact ((((((X_3.out.other (by first | (simp; done) | (simp; omega) | omega) _).other (by first | (simp; done) | (simp; omega) | omega) _).other (by first | (simp; done) | (simp; omega) | omega) _).other (by first | (simp; done) | (simp; omega) | omega) _).other (by first | (simp; done) | (simp; omega) | omega) _).other (by first | (simp; done) | (simp; omega) | omega) _))
      have q0 := O2_0.out.kept (grown_set _ ⟨w.heap.size, 0, none⟩ (.int .i64 p)) (.inr (own_type O2_0.out R_5.out (by decide)))
      have q1 := q0.kept (grown_set _ ⟨w.heap.size, 1, none⟩ (.slice A1 n c1)) (.inr (own_type q0 (R_5.out.put 0 (.int .i64 p)) (by decide)))
      have q2 := q1.kept (grown_set _ ⟨w.heap.size, 2, none⟩ (.int .i64 a)) (.inr (own_type q1 ((R_5.out.put 0 (.int .i64 p)).put 1 (.slice A1 n c1)) (by decide)))
      have q3 := q2.kept (grown_set _ ⟨w.heap.size, 3, none⟩ (.int .i64 bb)) (.inr (own_type q2 (((R_5.out.put 0 (.int .i64 p)).put 1 (.slice A1 n c1)).put 2 (.int .i64 a)) (by decide)))
      have q4 := q3.kept (grown_set _ ⟨w.heap.size, 4, none⟩ (.int .i64 s)) (.inr (own_type q3 ((((R_5.out.put 0 (.int .i64 p)).put 1 (.slice A1 n c1)).put 2 (.int .i64 a)).put 3 (.int .i64 bb)) (by decide)))
      have q5 := q4.kept (grown_set _ ⟨w.heap.size, 5, none⟩ (.int .i64 g)) (.inr (own_type q4 (((((R_5.out.put 0 (.int .i64 p)).put 1 (.slice A1 n c1)).put 2 (.int .i64 a)).put 3 (.int .i64 bb)).put 4 (.int .i64 s)) (by decide)))
      rw [hV] at q5
      have O2_1 := Lib.hid q5
      clear q0 q1 q2 q3 q4 q5
      clear hV R_5 Q_5 B_5 O_4 X_3 O2_0
      refine Shut.out hK _ _ ?_ (fun hHeld => ?_)
      · exact trivial
      clear hK K
      try simp only [Act.put, List.setIfInBounds_toArray, List.set_cons_zero, List.set_cons_succ]
      refine cQ5_0123_4 (fun K hK => ?_)
      rw [if_pos (by rfl)]
      unfold qQ5_4
      have l0 : v5.cell? ⟨w.heap.size + 1, 0, none⟩ = some (.int .i64 0) := by rw [Q_6.out.cell]; rfl
      have lf0 := Q_6.out.frozen 0
      have l1 : v5.cell? ⟨w.heap.size + 1, 1, none⟩ = some (.slice none 0 0) := by rw [Q_6.out.cell]; rfl
      have lf1 := Q_6.out.frozen 1
      have l2 : v5.cell? ⟨w.heap.size + 1, 2, none⟩ = some (.int .i64 0) := by rw [Q_6.out.cell]; rfl
      have lf2 := Q_6.out.frozen 2
      have l3 : v5.cell? ⟨w.heap.size + 1, 3, none⟩ = some (.int .i64 0) := by rw [Q_6.out.cell]; rfl
      have lf3 := Q_6.out.frozen 3
      have l4 : v5.cell? ⟨w.heap.size + 1, 4, none⟩ = some (.int .i64 0) := by rw [Q_6.out.cell]; rfl
      have lf4 := Q_6.out.frozen 4
      have l5 : v5.cell? ⟨w.heap.size + 1, 5, none⟩ = some (.int .i64 0) := by rw [Q_6.out.cell]; rfl
      have lf5 := Q_6.out.frozen 5
      go_simp
      clear l0 l1 l2 l3 l4 l5 lf0 lf1 lf2 lf3 lf4 lf5
      generalize hV : ((((((v5.setCell _ _).setCell _ _).setCell _ _).setCell _ _).setCell _ _).setCell _ _) = v6
      have R_7 := Lib.hid (show Blk v6 (w.heap.size) 26 #[.int .i64 p, .slice A1 n c1, .int .i64 a, .int .i64 bb, .int .i64 s, .int .i64 g] by rw [← hV]; exact ((((((R_6.out.other (by first | (simp; done) | (simp; omega) | omega) _).other (by first | (simp; done) | (simp; omega) | omega) _).other (by first | (simp; done) | (simp; omega) | omega) _).other (by first | (simp; done) | (simp; omega) | omega) _).other (by first | (simp; done) | (simp; omega) | omega) _).other (by first | (simp; done) | (simp; omega) | omega) _))
      have Q_7 := Lib.hid (show Blk v6 (w.heap.size + 1) 26 #[.int .i64 p2, .slice A12 n2 c12, .int .i64 a2, .int .i64 bb2, .int .i64 s2, .int .i64 g2] by rw [← hV]; exact ((((((Q_6.out.put 0 _).put 1 _).put 2 _).put 3 _).put 4 _).put 5 _))
      have B_7 := Lib.hid (show Below w.heap.size w v6 by rw [← hV]; exact ((((((B_6.out.setCell (by first | (simp; done) | (simp; omega) | omega) _).setCell (by first | (simp; done) | (simp; omega) | omega) _).setCell (by first | (simp; done) | (simp; omega) | omega) _).setCell (by first | (simp; done) | (simp; omega) | omega) _).setCell (by first | (simp; done) | (simp; omega) | omega) _).setCell (by first | (simp; done) | (simp; omega) | omega) _))
      have q0 := O_5.out.kept (grown_set _ ⟨w.heap.size + 1, 0, none⟩ (.int .i64 p2)) (.inr (own_type O_5.out Q_6.out (by decide)))
      have q1 := q0.kept (grown_set _ ⟨w.heap.size + 1, 1, none⟩ (.slice A12 n2 c12)) (.inr (own_type q0 (Q_6.out.put 0 (.int .i64 p2)) (by decide)))
      have q2 := q1.kept (grown_set _ ⟨w.heap.size + 1, 2, none⟩ (.int .i64 a2)) (.inr (own_type q1 ((Q_6.out.put 0 (.int .i64 p2)).put 1 (.slice A12 n2 c12)) (by decide)))
      have q3 := q2.kept (grown_set _ ⟨w.heap.size + 1, 3, none⟩ (.int .i64 bb2)) (.inr (own_type q2 (((Q_6.out.put 0 (.int .i64 p2)).put 1 (.slice A12 n2 c12)).put 2 (.int .i64 a2)) (by decide)))
      have q4 := q3.kept (grown_set _ ⟨w.heap.size + 1, 4, none⟩ (.int .i64 s2)) (.inr (own_type q3 ((((Q_6.out.put 0 (.int .i64 p2)).put 1 (.slice A12 n2 c12)).put 2 (.int .i64 a2)).put 3 (.int .i64 bb2)) (by decide)))
      have q5 := q4.kept (grown_set _ ⟨w.heap.size + 1, 5, none⟩ (.int .i64 g2)) (.inr (own_type q4 (((((Q_6.out.put 0 (.int .i64 p2)).put 1 (.slice A12 n2 c12)).put 2 (.int .i64 a2)).put 3 (.int .i64 bb2)).put 4 (.int .i64 s2)) (by decide)))
      rw [hV] at q5
      have O_6 := Lib.hid q5
      clear q0 q1 q2 q3 q4 q5
      have X_5 := Lib.hid (show Blk v6 (x) 26 #[.int .i64 p, .slice A1 n c1, .int .i64 a, .int .i64 bb, .int .i64 s, .int .i64 g] by rw [← hV]; exact ((((((X_4.out.other (by first | (simp; done) | (simp; omega) | omega) _).other (by first | (simp; done) | (simp; omega) | omega) _).other (by first | (simp; done) | (simp; omega) | omega) _).other (by first | (simp; done) | (simp; omega) | omega) _).other (by first | (simp; done) | (simp; omega) | omega) _).other (by first | (simp; done) | (simp; omega) | omega) _))
      have q0 := O2_1.out.kept (grown_set _ ⟨w.heap.size + 1, 0, none⟩ (.int .i64 p2)) (.inr (own_type O2_1.out Q_6.out (by decide)))
      have q1 := q0.kept (grown_set _ ⟨w.heap.size + 1, 1, none⟩ (.slice A12 n2 c12)) (.inr (own_type q0 (Q_6.out.put 0 (.int .i64 p2)) (by decide)))
      have q2 := q1.kept (grown_set _ ⟨w.heap.size + 1, 2, none⟩ (.int .i64 a2)) (.inr (own_type q1 ((Q_6.out.put 0 (.int .i64 p2)).put 1 (.slice A12 n2 c12)) (by decide)))
      have q3 := q2.kept (grown_set _ ⟨w.heap.size + 1, 3, none⟩ (.int .i64 bb2)) (.inr (own_type q2 (((Q_6.out.put 0 (.int .i64 p2)).put 1 (.slice A12 n2 c12)).put 2 (.int .i64 a2)) (by decide)))
      have q4 := q3.kept (grown_set _ ⟨w.heap.size + 1, 4, none⟩ (.int .i64 s2)) (.inr (own_type q3 ((((Q_6.out.put 0 (.int .i64 p2)).put 1 (.slice A12 n2 c12)).put 2 (.int .i64 a2)).put 3 (.int .i64 bb2)) (by decide)))
      have q5 := q4.kept (grown_set _ ⟨w.heap.size + 1, 5, none⟩ (.int .i64 g2)) (.inr (own_type q4 (((((Q_6.out.put 0 (.int .i64 p2)).put 1 (.slice A12 n2 c12)).put 2 (.int .i64 a2)).put 3 (.int .i64 bb2)).put 4 (.int .i64 s2)) (by decide)))
      rw [hV] at q5
      have O2_2 := Lib.hid q5
      clear q0 q1 q2 q3 q4 q5
      clear hV R_6 Q_6 B_6 O_5 X_4 O2_1
      refine Shut.out hK _ _ ?_ (fun hHeld => ?_)
      · exact trivial
      clear hK K
      try simp only [Act.put, List.setIfInBounds_toArray, List.set_cons_zero, List.set_cons_succ]
      refine wpAnyH_done (by kernel_rfl) ?_ _
      clear hHeld
      have e0 : v6.cell? ⟨w.heap.size, 0, none⟩ = some (.int .i64 p) := by rw [R_7.out.cell]; rfl
      have e1 : v6.cell? ⟨w.heap.size, 1, none⟩ = some (.slice A1 n c1) := by rw [R_7.out.cell]; rfl
      have e2 : v6.cell? ⟨w.heap.size, 2, none⟩ = some (.int .i64 a) := by rw [R_7.out.cell]; rfl
      have e3 : v6.cell? ⟨w.heap.size, 3, none⟩ = some (.int .i64 bb) := by rw [R_7.out.cell]; rfl
      have e4 : v6.cell? ⟨w.heap.size, 4, none⟩ = some (.int .i64 s) := by rw [R_7.out.cell]; rfl
      have e5 : v6.cell? ⟨w.heap.size, 5, none⟩ = some (.int .i64 g) := by rw [R_7.out.cell]; rfl
      have f0 : v6.cell? ⟨w.heap.size + 1, 0, none⟩ = some (.int .i64 p2) := by rw [Q_7.out.cell]; rfl
      have f1 : v6.cell? ⟨w.heap.size + 1, 1, none⟩ = some (.slice A12 n2 c12) := by rw [Q_7.out.cell]; rfl
      have f2 : v6.cell? ⟨w.heap.size + 1, 2, none⟩ = some (.int .i64 a2) := by rw [Q_7.out.cell]; rfl
      have f3 : v6.cell? ⟨w.heap.size + 1, 3, none⟩ = some (.int .i64 bb2) := by rw [Q_7.out.cell]; rfl
      have f4 : v6.cell? ⟨w.heap.size + 1, 4, none⟩ = some (.int .i64 s2) := by rw [Q_7.out.cell]; rfl
      have f5 : v6.cell? ⟨w.heap.size + 1, 5, none⟩ = some (.int .i64 g2) := by rw [Q_7.out.cell]; rfl
      go_wp2_with fail
      exact bodyPost_ret (v := .tuple #[.agg #[.int .i64 p, .slice A1 n c1, .int .i64 a, .int .i64 bb, .int .i64 s, .int .i64 g], .agg #[.int .i64 p2, .slice A12 n2 c12, .int .i64 a2, .int .i64 bb2, .int .i64 s2, .int .i64 g2]]) (by simp [results, Try.results23, go_sem, e0, e1, e2, e3, e4, e5, f0, f1, f2, f3, f4, f5]) rfl ⟨p, a, bb, s, g, A1, n, c1, zs, p2, a2, bb2, s2, g2, A12, n2, c12, zs2, ⟨HL.out, by omega, by omega, by omega, O_6.out⟩, ⟨HL2.out, by omega, by omega, by omega, O2_2.out⟩, rfl, B_7.out⟩
  · skip
    go_wp2_with fail
    obtain ⟨w4, hw4⟩ : ∃ z, w3.drew = z := ⟨_, rfl⟩
    have bd : Below w3.heap.size w3 w4 := by rw [← hw4]; exact (Below.refl _ _).drew
    have R_4 := Lib.hid (R_3.out.below bd)
    have Q_4 := Lib.hid (Q_3.out.below bd)
    have C_4 := Lib.hid (C_3.out.belowD bd)
    have B_4 := Lib.hid (below_chain B_3.out bd)
    have O_3 := Lib.hid (own_below O_2.out bd)
    have X_2 := Lib.hid (X_1.out.below bd)
    clear R_3 Q_3 C_3 B_3 O_2 X_1
    clear bd
    refine wp_region_held_drew (S := fun _ => True) (by kernel_rfl) ?_ (fun hHeld => ?_)
    · exact trivial
    change wpAnyH _ _ opsQ4 _ _ 5 (#[false, false, false, false, false] : Array Bool) _ _
    rw [hw4]
    clear hw4
    refine cQ4_e_01 (fun K hK => ?_) (fun K hK => ?_)
    · rw [if_pos (by rfl)]
      unfold qQ4_0
      have l0 : w4.cell? ⟨x, 0, none⟩ = some (.int .i64 p) := by rw [X_2.out.cell]; rfl
      have l1 : w4.cell? ⟨x, 1, none⟩ = some (.slice A1 n c1) := by rw [X_2.out.cell]; rfl
      have l2 : w4.cell? ⟨x, 2, none⟩ = some (.int .i64 a) := by rw [X_2.out.cell]; rfl
      have l3 : w4.cell? ⟨x, 3, none⟩ = some (.int .i64 bb) := by rw [X_2.out.cell]; rfl
      have l4 : w4.cell? ⟨x, 4, none⟩ = some (.int .i64 s) := by rw [X_2.out.cell]; rfl
      have l5 : w4.cell? ⟨x, 5, none⟩ = some (.int .i64 g) := by rw [X_2.out.cell]; rfl
      go_simp
      clear l0 l1 l2 l3 l4 l5
      refine Shut.out hK _ _ ?_ (fun hHeld => ?_)
      · exact trivial
      clear hK K
      try simp only [Act.put, List.setIfInBounds_toArray, List.set_cons_zero, List.set_cons_succ]
      refine cQ4_0_1 (fun K hK => ?_)
      rw [if_pos (by rfl)]
      unfold qQ4_1
      have l0 : w4.cell? ⟨x, 0, none⟩ = some (.int .i64 p) := by rw [X_2.out.cell]; rfl
      have l1 : w4.cell? ⟨x, 1, none⟩ = some (.slice A1 n c1) := by rw [X_2.out.cell]; rfl
      have l2 : w4.cell? ⟨x, 2, none⟩ = some (.int .i64 a) := by rw [X_2.out.cell]; rfl
      have l3 : w4.cell? ⟨x, 3, none⟩ = some (.int .i64 bb) := by rw [X_2.out.cell]; rfl
      have l4 : w4.cell? ⟨x, 4, none⟩ = some (.int .i64 s) := by rw [X_2.out.cell]; rfl
      have l5 : w4.cell? ⟨x, 5, none⟩ = some (.int .i64 g) := by rw [X_2.out.cell]; rfl
      go_simp
      clear l0 l1 l2 l3 l4 l5
      refine Shut.out hK _ _ ?_ (fun hHeld => ?_)
      · exact trivial
      clear hK K
      try simp only [Act.put, List.setIfInBounds_toArray, List.set_cons_zero, List.set_cons_succ]
      refine cQ4_01_2 (fun K hK => ?_)
      rw [if_pos (by rfl)]
      unfold qQ4_2
      go_simp
      refine (specCopy_any n zs HL.out A1 c1 (own_nil O_3.out) p a bb s g _ (own_rcs O_3.out) (by omega)).mono ?_
      rintro e v1 ⟨A2, c2, rfl, ho, hb⟩
      have ho2 := Lib.hid (own_base ho B_4.out.size)
      clear ho
      have R_5 := Lib.hid (R_4.out.below hb)
      have Q_5 := Lib.hid (Q_4.out.below hb)
      have C_5 := Lib.hid (C_4.out.belowD hb)
      have B_5 := Lib.hid (below_chain B_4.out hb)
      have O_4 := Lib.hid (own_below O_3.out hb)
      have X_3 := Lib.hid (X_2.out.below hb)
      clear R_4 Q_4 C_4 B_4 O_3 X_2
      clear hb
      have O2_0 := ho2
      clear ho2
      refine Shut.out hK _ _ ?_ (fun hHeld => ?_)
      · exact trivial
      clear hK K
      try simp only [Act.put, List.setIfInBounds_toArray, List.set_cons_zero, List.set_cons_succ]
      refine cQ4_012_3 (fun K hK => ?_)
      rw [if_pos (by rfl)]
      unfold qQ4_3
      have l0 : v1.cell? ⟨w.heap.size, 0, none⟩ = some (.int .i64 0) := by rw [R_5.out.cell]; rfl
      have lf0 := R_5.out.frozen 0
      have l1 : v1.cell? ⟨w.heap.size, 1, none⟩ = some (.slice none 0 0) := by rw [R_5.out.cell]; rfl
      have lf1 := R_5.out.frozen 1
      have l2 : v1.cell? ⟨w.heap.size, 2, none⟩ = some (.int .i64 0) := by rw [R_5.out.cell]; rfl
      have lf2 := R_5.out.frozen 2
      have l3 : v1.cell? ⟨w.heap.size, 3, none⟩ = some (.int .i64 0) := by rw [R_5.out.cell]; rfl
      have lf3 := R_5.out.frozen 3
      have l4 : v1.cell? ⟨w.heap.size, 4, none⟩ = some (.int .i64 0) := by rw [R_5.out.cell]; rfl
      have lf4 := R_5.out.frozen 4
      have l5 : v1.cell? ⟨w.heap.size, 5, none⟩ = some (.int .i64 0) := by rw [R_5.out.cell]; rfl
      have lf5 := R_5.out.frozen 5
      go_simp
      clear l0 l1 l2 l3 l4 l5 lf0 lf1 lf2 lf3 lf4 lf5
      generalize hV : ((((((v1.setCell _ _).setCell _ _).setCell _ _).setCell _ _).setCell _ _).setCell _ _) = v2
      have R_6 := Lib.hid (show Blk v2 (w.heap.size) 26 #[.int .i64 p, .slice A1 n c1, .int .i64 a, .int .i64 bb, .int .i64 s, .int .i64 g] by rw [← hV]; exact ((((((R_5.out.put 0 _).put 1 _).put 2 _).put 3 _).put 4 _).put 5 _))
      have Q_6 := Lib.hid (show Blk v2 (w.heap.size + 1) 26 #[.int .i64 0, .slice none 0 0, .int .i64 0, .int .i64 0, .int .i64 0, .int .i64 0] by rw [← hV]; exact ((((((Q_5.out.other (by first | (simp; done) | (simp; omega) | omega) _).other (by first | (simp; done) | (simp; omega) | omega) _).other (by first | (simp; done) | (simp; omega) | omega) _).other (by first | (simp; done) | (simp; omega) | omega) _).other (by first | (simp; done) | (simp; omega) | omega) _).other (by first | (simp; done) | (simp; omega) | omega) _))
      have B_6 := Lib.hid (show Below w.heap.size w v2 by rw [← hV]; exact ((((((B_5.out.setCell (by first | (simp; done) | (simp; omega) | omega) _).setCell (by first | (simp; done) | (simp; omega) | omega) _).setCell (by first | (simp; done) | (simp; omega) | omega) _).setCell (by first | (simp; done) | (simp; omega) | omega) _).setCell (by first | (simp; done) | (simp; omega) | omega) _).setCell (by first | (simp; done) | (simp; omega) | omega) _))
      have q0 := O_4.out.kept (grown_set _ ⟨w.heap.size, 0, none⟩ (.int .i64 p)) (.inr (own_type O_4.out R_5.out (by decide)))
      have q1 := q0.kept (grown_set _ ⟨w.heap.size, 1, none⟩ (.slice A1 n c1)) (.inr (own_type q0 (R_5.out.put 0 (.int .i64 p)) (by decide)))
      have q2 := q1.kept (grown_set _ ⟨w.heap.size, 2, none⟩ (.int .i64 a)) (.inr (own_type q1 ((R_5.out.put 0 (.int .i64 p)).put 1 (.slice A1 n c1)) (by decide)))
      have q3 := q2.kept (grown_set _ ⟨w.heap.size, 3, none⟩ (.int .i64 bb)) (.inr (own_type q2 (((R_5.out.put 0 (.int .i64 p)).put 1 (.slice A1 n c1)).put 2 (.int .i64 a)) (by decide)))
      have q4 := q3.kept (grown_set _ ⟨w.heap.size, 4, none⟩ (.int .i64 s)) (.inr (own_type q3 ((((R_5.out.put 0 (.int .i64 p)).put 1 (.slice A1 n c1)).put 2 (.int .i64 a)).put 3 (.int .i64 bb)) (by decide)))
      have q5 := q4.kept (grown_set _ ⟨w.heap.size, 5, none⟩ (.int .i64 g)) (.inr (own_type q4 (((((R_5.out.put 0 (.int .i64 p)).put 1 (.slice A1 n c1)).put 2 (.int .i64 a)).put 3 (.int .i64 bb)).put 4 (.int .i64 s)) (by decide)))
      rw [hV] at q5
      have O_5 := Lib.hid q5
      clear q0 q1 q2 q3 q4 q5
      have X_4 := Lib.hid (show Blk v2 (x) 26 #[.int .i64 p, .slice A1 n c1, .int .i64 a, .int .i64 bb, .int .i64 s, .int .i64 g] by rw [← hV]; exact ((((((X_3.out.other (by first | (simp; done) | (simp; omega) | omega) _).other (by first | (simp; done) | (simp; omega) | omega) _).other (by first | (simp; done) | (simp; omega) | omega) _).other (by first | (simp; done) | (simp; omega) | omega) _).other (by first | (simp; done) | (simp; omega) | omega) _).other (by first | (simp; done) | (simp; omega) | omega) _))
      have q0 := O2_0.out.kept (grown_set _ ⟨w.heap.size, 0, none⟩ (.int .i64 p)) (.inr (own_type O2_0.out R_5.out (by decide)))
      have q1 := q0.kept (grown_set _ ⟨w.heap.size, 1, none⟩ (.slice A1 n c1)) (.inr (own_type q0 (R_5.out.put 0 (.int .i64 p)) (by decide)))
      have q2 := q1.kept (grown_set _ ⟨w.heap.size, 2, none⟩ (.int .i64 a)) (.inr (own_type q1 ((R_5.out.put 0 (.int .i64 p)).put 1 (.slice A1 n c1)) (by decide)))
      have q3 := q2.kept (grown_set _ ⟨w.heap.size, 3, none⟩ (.int .i64 bb)) (.inr (own_type q2 (((R_5.out.put 0 (.int .i64 p)).put 1 (.slice A1 n c1)).put 2 (.int .i64 a)) (by decide)))
      have q4 := q3.kept (grown_set _ ⟨w.heap.size, 4, none⟩ (.int .i64 s)) (.inr (own_type q3 ((((R_5.out.put 0 (.int .i64 p)).put 1 (.slice A1 n c1)).put 2 (.int .i64 a)).put 3 (.int .i64 bb)) (by decide)))
      have q5 := q4.kept (grown_set _ ⟨w.heap.size, 5, none⟩ (.int .i64 g)) (.inr (own_type q4 (((((R_5.out.put 0 (.int .i64 p)).put 1 (.slice A1 n c1)).put 2 (.int .i64 a)).put 3 (.int .i64 bb)).put 4 (.int .i64 s)) (by decide)))
      rw [hV] at q5
      have O2_1 := Lib.hid q5
      clear q0 q1 q2 q3 q4 q5
      clear hV R_5 Q_5 B_5 O_4 X_3 O2_0
      refine Shut.out hK _ _ ?_ (fun hHeld => ?_)
      · exact trivial
      clear hK K
      try simp only [Act.put, List.setIfInBounds_toArray, List.set_cons_zero, List.set_cons_succ]
      refine cQ4_0123_4 (fun K hK => ?_)
      rw [if_pos (by rfl)]
      unfold qQ4_4
      have l0 : v2.cell? ⟨w.heap.size + 1, 0, none⟩ = some (.int .i64 0) := by rw [Q_6.out.cell]; rfl
      have lf0 := Q_6.out.frozen 0
      have l1 : v2.cell? ⟨w.heap.size + 1, 1, none⟩ = some (.slice none 0 0) := by rw [Q_6.out.cell]; rfl
      have lf1 := Q_6.out.frozen 1
      have l2 : v2.cell? ⟨w.heap.size + 1, 2, none⟩ = some (.int .i64 0) := by rw [Q_6.out.cell]; rfl
      have lf2 := Q_6.out.frozen 2
      have l3 : v2.cell? ⟨w.heap.size + 1, 3, none⟩ = some (.int .i64 0) := by rw [Q_6.out.cell]; rfl
      have lf3 := Q_6.out.frozen 3
      have l4 : v2.cell? ⟨w.heap.size + 1, 4, none⟩ = some (.int .i64 0) := by rw [Q_6.out.cell]; rfl
      have lf4 := Q_6.out.frozen 4
      have l5 : v2.cell? ⟨w.heap.size + 1, 5, none⟩ = some (.int .i64 0) := by rw [Q_6.out.cell]; rfl
      have lf5 := Q_6.out.frozen 5
      go_simp
      clear l0 l1 l2 l3 l4 l5 lf0 lf1 lf2 lf3 lf4 lf5
      generalize hV : ((((((v2.setCell _ _).setCell _ _).setCell _ _).setCell _ _).setCell _ _).setCell _ _) = v3
      have R_7 := Lib.hid (show Blk v3 (w.heap.size) 26 #[.int .i64 p, .slice A1 n c1, .int .i64 a, .int .i64 bb, .int .i64 s, .int .i64 g] by rw [← hV]; exact ((((((R_6.out.other (by first | (simp; done) | (simp; omega) | omega) _).other (by first | (simp; done) | (simp; omega) | omega) _).other (by first | (simp; done) | (simp; omega) | omega) _).other (by first | (simp; done) | (simp; omega) | omega) _).other (by first | (simp; done) | (simp; omega) | omega) _).other (by first | (simp; done) | (simp; omega) | omega) _))
      have Q_7 := Lib.hid (show Blk v3 (w.heap.size + 1) 26 #[.int .i64 p, .slice A2 n c2, .int .i64 a, .int .i64 bb, .int .i64 s, .int .i64 g] by rw [← hV]; exact ((((((Q_6.out.put 0 _).put 1 _).put 2 _).put 3 _).put 4 _).put 5 _))
      have B_7 := Lib.hid (show Below w.heap.size w v3 by rw [← hV]; exact ((((((B_6.out.setCell (by first | (simp; done) | (simp; omega) | omega) _).setCell (by first | (simp; done) | (simp; omega) | omega) _).setCell (by first | (simp; done) | (simp; omega) | omega) _).setCell (by first | (simp; done) | (simp; omega) | omega) _).setCell (by first | (simp; done) | (simp; omega) | omega) _).setCell (by first | (simp; done) | (simp; omega) | omega) _))
      have q0 := O_5.out.kept (grown_set _ ⟨w.heap.size + 1, 0, none⟩ (.int .i64 p)) (.inr (own_type O_5.out Q_6.out (by decide)))
      have q1 := q0.kept (grown_set _ ⟨w.heap.size + 1, 1, none⟩ (.slice A2 n c2)) (.inr (own_type q0 (Q_6.out.put 0 (.int .i64 p)) (by decide)))
      have q2 := q1.kept (grown_set _ ⟨w.heap.size + 1, 2, none⟩ (.int .i64 a)) (.inr (own_type q1 ((Q_6.out.put 0 (.int .i64 p)).put 1 (.slice A2 n c2)) (by decide)))
      have q3 := q2.kept (grown_set _ ⟨w.heap.size + 1, 3, none⟩ (.int .i64 bb)) (.inr (own_type q2 (((Q_6.out.put 0 (.int .i64 p)).put 1 (.slice A2 n c2)).put 2 (.int .i64 a)) (by decide)))
      have q4 := q3.kept (grown_set _ ⟨w.heap.size + 1, 4, none⟩ (.int .i64 s)) (.inr (own_type q3 ((((Q_6.out.put 0 (.int .i64 p)).put 1 (.slice A2 n c2)).put 2 (.int .i64 a)).put 3 (.int .i64 bb)) (by decide)))
      have q5 := q4.kept (grown_set _ ⟨w.heap.size + 1, 5, none⟩ (.int .i64 g)) (.inr (own_type q4 (((((Q_6.out.put 0 (.int .i64 p)).put 1 (.slice A2 n c2)).put 2 (.int .i64 a)).put 3 (.int .i64 bb)).put 4 (.int .i64 s)) (by decide)))
      rw [hV] at q5
      have O_6 := Lib.hid q5
      clear q0 q1 q2 q3 q4 q5
      have X_5 := Lib.hid (show Blk v3 (x) 26 #[.int .i64 p, .slice A1 n c1, .int .i64 a, .int .i64 bb, .int .i64 s, .int .i64 g] by rw [← hV]; exact ((((((X_4.out.other (by first | (simp; done) | (simp; omega) | omega) _).other (by first | (simp; done) | (simp; omega) | omega) _).other (by first | (simp; done) | (simp; omega) | omega) _).other (by first | (simp; done) | (simp; omega) | omega) _).other (by first | (simp; done) | (simp; omega) | omega) _).other (by first | (simp; done) | (simp; omega) | omega) _))
      have q0 := O2_1.out.kept (grown_set _ ⟨w.heap.size + 1, 0, none⟩ (.int .i64 p)) (.inr (own_type O2_1.out Q_6.out (by decide)))
      have q1 := q0.kept (grown_set _ ⟨w.heap.size + 1, 1, none⟩ (.slice A2 n c2)) (.inr (own_type q0 (Q_6.out.put 0 (.int .i64 p)) (by decide)))
      have q2 := q1.kept (grown_set _ ⟨w.heap.size + 1, 2, none⟩ (.int .i64 a)) (.inr (own_type q1 ((Q_6.out.put 0 (.int .i64 p)).put 1 (.slice A2 n c2)) (by decide)))
      have q3 := q2.kept (grown_set _ ⟨w.heap.size + 1, 3, none⟩ (.int .i64 bb)) (.inr (own_type q2 (((Q_6.out.put 0 (.int .i64 p)).put 1 (.slice A2 n c2)).put 2 (.int .i64 a)) (by decide)))
      have q4 := q3.kept (grown_set _ ⟨w.heap.size + 1, 4, none⟩ (.int .i64 s)) (.inr (own_type q3 ((((Q_6.out.put 0 (.int .i64 p)).put 1 (.slice A2 n c2)).put 2 (.int .i64 a)).put 3 (.int .i64 bb)) (by decide)))
      have q5 := q4.kept (grown_set _ ⟨w.heap.size + 1, 5, none⟩ (.int .i64 g)) (.inr (own_type q4 (((((Q_6.out.put 0 (.int .i64 p)).put 1 (.slice A2 n c2)).put 2 (.int .i64 a)).put 3 (.int .i64 bb)).put 4 (.int .i64 s)) (by decide)))
      rw [hV] at q5
      have O2_2 := Lib.hid q5
      clear q0 q1 q2 q3 q4 q5
      clear hV R_6 Q_6 B_6 O_5 X_4 O2_1
      refine Shut.out hK _ _ ?_ (fun hHeld => ?_)
      · exact trivial
      clear hK K
      try simp only [Act.put, List.setIfInBounds_toArray, List.set_cons_zero, List.set_cons_succ]
      refine wpAnyH_done (by kernel_rfl) ?_ _
      clear hHeld
      have e0 : v3.cell? ⟨w.heap.size, 0, none⟩ = some (.int .i64 p) := by rw [R_7.out.cell]; rfl
      have e1 : v3.cell? ⟨w.heap.size, 1, none⟩ = some (.slice A1 n c1) := by rw [R_7.out.cell]; rfl
      have e2 : v3.cell? ⟨w.heap.size, 2, none⟩ = some (.int .i64 a) := by rw [R_7.out.cell]; rfl
      have e3 : v3.cell? ⟨w.heap.size, 3, none⟩ = some (.int .i64 bb) := by rw [R_7.out.cell]; rfl
      have e4 : v3.cell? ⟨w.heap.size, 4, none⟩ = some (.int .i64 s) := by rw [R_7.out.cell]; rfl
      have e5 : v3.cell? ⟨w.heap.size, 5, none⟩ = some (.int .i64 g) := by rw [R_7.out.cell]; rfl
      have f0 : v3.cell? ⟨w.heap.size + 1, 0, none⟩ = some (.int .i64 p) := by rw [Q_7.out.cell]; rfl
      have f1 : v3.cell? ⟨w.heap.size + 1, 1, none⟩ = some (.slice A2 n c2) := by rw [Q_7.out.cell]; rfl
      have f2 : v3.cell? ⟨w.heap.size + 1, 2, none⟩ = some (.int .i64 a) := by rw [Q_7.out.cell]; rfl
      have f3 : v3.cell? ⟨w.heap.size + 1, 3, none⟩ = some (.int .i64 bb) := by rw [Q_7.out.cell]; rfl
      have f4 : v3.cell? ⟨w.heap.size + 1, 4, none⟩ = some (.int .i64 s) := by rw [Q_7.out.cell]; rfl
      have f5 : v3.cell? ⟨w.heap.size + 1, 5, none⟩ = some (.int .i64 g) := by rw [Q_7.out.cell]; rfl
      go_wp2_with fail
      exact bodyPost_ret (v := .tuple #[.agg #[.int .i64 p, .slice A1 n c1, .int .i64 a, .int .i64 bb, .int .i64 s, .int .i64 g], .agg #[.int .i64 p, .slice A2 n c2, .int .i64 a, .int .i64 bb, .int .i64 s, .int .i64 g]]) (by simp [results, Try.results23, go_sem, e0, e1, e2, e3, e4, e5, f0, f1, f2, f3, f4, f5]) rfl ⟨p, a, bb, s, g, A1, n, c1, zs, p, a, bb, s, g, A2, n, c2, zs, ⟨HL.out, by omega, by omega, by omega, O_6.out⟩, ⟨HL.out, by omega, by omega, by omega, O2_2.out⟩, rfl, B_7.out⟩
    · rw [if_pos (by rfl)]
      unfold qQ4_1
      have l0 : w4.cell? ⟨x, 0, none⟩ = some (.int .i64 p) := by rw [X_2.out.cell]; rfl
      have l1 : w4.cell? ⟨x, 1, none⟩ = some (.slice A1 n c1) := by rw [X_2.out.cell]; rfl
      have l2 : w4.cell? ⟨x, 2, none⟩ = some (.int .i64 a) := by rw [X_2.out.cell]; rfl
      have l3 : w4.cell? ⟨x, 3, none⟩ = some (.int .i64 bb) := by rw [X_2.out.cell]; rfl
      have l4 : w4.cell? ⟨x, 4, none⟩ = some (.int .i64 s) := by rw [X_2.out.cell]; rfl
      have l5 : w4.cell? ⟨x, 5, none⟩ = some (.int .i64 g) := by rw [X_2.out.cell]; rfl
      go_simp
      clear l0 l1 l2 l3 l4 l5
      refine Shut.out hK _ _ ?_ (fun hHeld => ?_)
      · exact trivial
      clear hK K
      try simp only [Act.put, List.setIfInBounds_toArray, List.set_cons_zero, List.set_cons_succ]
      refine cQ4_1_02 (fun K hK => ?_) (fun K hK => ?_)
      · rw [if_pos (by rfl)]
        unfold qQ4_0
        have l0 : w4.cell? ⟨x, 0, none⟩ = some (.int .i64 p) := by rw [X_2.out.cell]; rfl
        have l1 : w4.cell? ⟨x, 1, none⟩ = some (.slice A1 n c1) := by rw [X_2.out.cell]; rfl
        have l2 : w4.cell? ⟨x, 2, none⟩ = some (.int .i64 a) := by rw [X_2.out.cell]; rfl
        have l3 : w4.cell? ⟨x, 3, none⟩ = some (.int .i64 bb) := by rw [X_2.out.cell]; rfl
        have l4 : w4.cell? ⟨x, 4, none⟩ = some (.int .i64 s) := by rw [X_2.out.cell]; rfl
        have l5 : w4.cell? ⟨x, 5, none⟩ = some (.int .i64 g) := by rw [X_2.out.cell]; rfl
        go_simp
        clear l0 l1 l2 l3 l4 l5
        refine Shut.out hK _ _ ?_ (fun hHeld => ?_)
        · exact trivial
        clear hK K
        try simp only [Act.put, List.setIfInBounds_toArray, List.set_cons_zero, List.set_cons_succ]
        refine cQ4_01_2 (fun K hK => ?_)
        rw [if_pos (by rfl)]
        unfold qQ4_2
        go_simp
        refine (specCopy_any n zs HL.out A1 c1 (own_nil O_3.out) p a bb s g _ (own_rcs O_3.out) (by omega)).mono ?_
        rintro e v4 ⟨A2, c2, rfl, ho, hb⟩
        have ho2 := Lib.hid (own_base ho B_4.out.size)
        clear ho
        have R_5 := Lib.hid (R_4.out.below hb)
        have Q_5 := Lib.hid (Q_4.out.below hb)
        have C_5 := Lib.hid (C_4.out.belowD hb)
        have B_5 := Lib.hid (below_chain B_4.out hb)
        have O_4 := Lib.hid (own_below O_3.out hb)
        have X_3 := Lib.hid (X_2.out.below hb)
        clear R_4 Q_4 C_4 B_4 O_3 X_2
        clear hb
        have O2_0 := ho2
        clear ho2
        refine Shut.out hK _ _ ?_ (fun hHeld => ?_)
        · exact trivial
        clear hK K
        try simp only [Act.put, List.setIfInBounds_toArray, List.set_cons_zero, List.set_cons_succ]
        refine cQ4_012_3 (fun K hK => ?_)
        rw [if_pos (by rfl)]
        unfold qQ4_3
        have l0 : v4.cell? ⟨w.heap.size, 0, none⟩ = some (.int .i64 0) := by rw [R_5.out.cell]; rfl
        have lf0 := R_5.out.frozen 0
        have l1 : v4.cell? ⟨w.heap.size, 1, none⟩ = some (.slice none 0 0) := by rw [R_5.out.cell]; rfl
        have lf1 := R_5.out.frozen 1
        have l2 : v4.cell? ⟨w.heap.size, 2, none⟩ = some (.int .i64 0) := by rw [R_5.out.cell]; rfl
        have lf2 := R_5.out.frozen 2
        have l3 : v4.cell? ⟨w.heap.size, 3, none⟩ = some (.int .i64 0) := by rw [R_5.out.cell]; rfl
        have lf3 := R_5.out.frozen 3
        have l4 : v4.cell? ⟨w.heap.size, 4, none⟩ = some (.int .i64 0) := by rw [R_5.out.cell]; rfl
        have lf4 := R_5.out.frozen 4
        have l5 : v4.cell? ⟨w.heap.size, 5, none⟩ = some (.int .i64 0) := by rw [R_5.out.cell]; rfl
        have lf5 := R_5.out.frozen 5
        go_simp
        clear l0 l1 l2 l3 l4 l5 lf0 lf1 lf2 lf3 lf4 lf5
        generalize hV : ((((((v4.setCell _ _).setCell _ _).setCell _ _).setCell _ _).setCell _ _).setCell _ _) = v5
        have R_6 := Lib.hid (show Blk v5 (w.heap.size) 26 #[.int .i64 p, .slice A1 n c1, .int .i64 a, .int .i64 bb, .int .i64 s, .int .i64 g] by rw [← hV]; exact ((((((R_5.out.put 0 _).put 1 _).put 2 _).put 3 _).put 4 _).put 5 _))
        have Q_6 := Lib.hid (show Blk v5 (w.heap.size + 1) 26 #[.int .i64 0, .slice none 0 0, .int .i64 0, .int .i64 0, .int .i64 0, .int .i64 0] by rw [← hV]; exact ((((((Q_5.out.other (by first | (simp; done) | (simp; omega) | omega) _).other (by first | (simp; done) | (simp; omega) | omega) _).other (by first | (simp; done) | (simp; omega) | omega) _).other (by first | (simp; done) | (simp; omega) | omega) _).other (by first | (simp; done) | (simp; omega) | omega) _).other (by first | (simp; done) | (simp; omega) | omega) _))
        have B_6 := Lib.hid (show Below w.heap.size w v5 by rw [← hV]; exact ((((((B_5.out.setCell (by first | (simp; done) | (simp; omega) | omega) _).setCell (by first | (simp; done) | (simp; omega) | omega) _).setCell (by first | (simp; done) | (simp; omega) | omega) _).setCell (by first | (simp; done) | (simp; omega) | omega) _).setCell (by first | (simp; done) | (simp; omega) | omega) _).setCell (by first | (simp; done) | (simp; omega) | omega) _))
        have q0 := O_4.out.kept (grown_set _ ⟨w.heap.size, 0, none⟩ (.int .i64 p)) (.inr (own_type O_4.out R_5.out (by decide)))
        have q1 := q0.kept (grown_set _ ⟨w.heap.size, 1, none⟩ (.slice A1 n c1)) (.inr (own_type q0 (R_5.out.put 0 (.int .i64 p)) (by decide)))
        have q2 := q1.kept (grown_set _ ⟨w.heap.size, 2, none⟩ (.int .i64 a)) (.inr (own_type q1 ((R_5.out.put 0 (.int .i64 p)).put 1 (.slice A1 n c1)) (by decide)))
        have q3 := q2.kept (grown_set _ ⟨w.heap.size, 3, none⟩ (.int .i64 bb)) (.inr (own_type q2 (((R_5.out.put 0 (.int .i64 p)).put 1 (.slice A1 n c1)).put 2 (.int .i64 a)) (by decide)))
        have q4 := q3.kept (grown_set _ ⟨w.heap.size, 4, none⟩ (.int .i64 s)) (.inr (own_type q3 ((((R_5.out.put 0 (.int .i64 p)).put 1 (.slice A1 n c1)).put 2 (.int .i64 a)).put 3 (.int .i64 bb)) (by decide)))
        have q5 := q4.kept (grown_set _ ⟨w.heap.size, 5, none⟩ (.int .i64 g)) (.inr (own_type q4 (((((R_5.out.put 0 (.int .i64 p)).put 1 (.slice A1 n c1)).put 2 (.int .i64 a)).put 3 (.int .i64 bb)).put 4 (.int .i64 s)) (by decide)))
        rw [hV] at q5
        have O_5 := Lib.hid q5
        clear q0 q1 q2 q3 q4 q5
        have X_4 := Lib.hid (show Blk v5 (x) 26 #[.int .i64 p, .slice A1 n c1, .int .i64 a, .int .i64 bb, .int .i64 s, .int .i64 g] by rw [← hV]; exact ((((((X_3.out.other (by first | (simp; done) | (simp; omega) | omega) _).other (by first | (simp; done) | (simp; omega) | omega) _).other (by first | (simp; done) | (simp; omega) | omega) _).other (by first | (simp; done) | (simp; omega) | omega) _).other (by first | (simp; done) | (simp; omega) | omega) _).other (by first | (simp; done) | (simp; omega) | omega) _))
        have q0 := O2_0.out.kept (grown_set _ ⟨w.heap.size, 0, none⟩ (.int .i64 p)) (.inr (own_type O2_0.out R_5.out (by decide)))
        have q1 := q0.kept (grown_set _ ⟨w.heap.size, 1, none⟩ (.slice A1 n c1)) (.inr (own_type q0 (R_5.out.put 0 (.int .i64 p)) (by decide)))
        have q2 := q1.kept (grown_set _ ⟨w.heap.size, 2, none⟩ (.int .i64 a)) (.inr (own_type q1 ((R_5.out.put 0 (.int .i64 p)).put 1 (.slice A1 n c1)) (by decide)))
        have q3 := q2.kept (grown_set _ ⟨w.heap.size, 3, none⟩ (.int .i64 bb)) (.inr (own_type q2 (((R_5.out.put 0 (.int .i64 p)).put 1 (.slice A1 n c1)).put 2 (.int .i64 a)) (by decide)))
        have q4 := q3.kept (grown_set _ ⟨w.heap.size, 4, none⟩ (.int .i64 s)) (.inr (own_type q3 ((((R_5.out.put 0 (.int .i64 p)).put 1 (.slice A1 n c1)).put 2 (.int .i64 a)).put 3 (.int .i64 bb)) (by decide)))
        have q5 := q4.kept (grown_set _ ⟨w.heap.size, 5, none⟩ (.int .i64 g)) (.inr (own_type q4 (((((R_5.out.put 0 (.int .i64 p)).put 1 (.slice A1 n c1)).put 2 (.int .i64 a)).put 3 (.int .i64 bb)).put 4 (.int .i64 s)) (by decide)))
        rw [hV] at q5
        have O2_1 := Lib.hid q5
        clear q0 q1 q2 q3 q4 q5
        clear hV R_5 Q_5 B_5 O_4 X_3 O2_0
        refine Shut.out hK _ _ ?_ (fun hHeld => ?_)
        · exact trivial
        clear hK K
        try simp only [Act.put, List.setIfInBounds_toArray, List.set_cons_zero, List.set_cons_succ]
        refine cQ4_0123_4 (fun K hK => ?_)
        rw [if_pos (by rfl)]
        unfold qQ4_4
        have l0 : v5.cell? ⟨w.heap.size + 1, 0, none⟩ = some (.int .i64 0) := by rw [Q_6.out.cell]; rfl
        have lf0 := Q_6.out.frozen 0
        have l1 : v5.cell? ⟨w.heap.size + 1, 1, none⟩ = some (.slice none 0 0) := by rw [Q_6.out.cell]; rfl
        have lf1 := Q_6.out.frozen 1
        have l2 : v5.cell? ⟨w.heap.size + 1, 2, none⟩ = some (.int .i64 0) := by rw [Q_6.out.cell]; rfl
        have lf2 := Q_6.out.frozen 2
        have l3 : v5.cell? ⟨w.heap.size + 1, 3, none⟩ = some (.int .i64 0) := by rw [Q_6.out.cell]; rfl
        have lf3 := Q_6.out.frozen 3
        have l4 : v5.cell? ⟨w.heap.size + 1, 4, none⟩ = some (.int .i64 0) := by rw [Q_6.out.cell]; rfl
        have lf4 := Q_6.out.frozen 4
        have l5 : v5.cell? ⟨w.heap.size + 1, 5, none⟩ = some (.int .i64 0) := by rw [Q_6.out.cell]; rfl
        have lf5 := Q_6.out.frozen 5
        go_simp
        clear l0 l1 l2 l3 l4 l5 lf0 lf1 lf2 lf3 lf4 lf5
        generalize hV : ((((((v5.setCell _ _).setCell _ _).setCell _ _).setCell _ _).setCell _ _).setCell _ _) = v6
        have R_7 := Lib.hid (show Blk v6 (w.heap.size) 26 #[.int .i64 p, .slice A1 n c1, .int .i64 a, .int .i64 bb, .int .i64 s, .int .i64 g] by rw [← hV]; exact ((((((R_6.out.other (by first | (simp; done) | (simp; omega) | omega) _).other (by first | (simp; done) | (simp; omega) | omega) _).other (by first | (simp; done) | (simp; omega) | omega) _).other (by first | (simp; done) | (simp; omega) | omega) _).other (by first | (simp; done) | (simp; omega) | omega) _).other (by first | (simp; done) | (simp; omega) | omega) _))
        have Q_7 := Lib.hid (show Blk v6 (w.heap.size + 1) 26 #[.int .i64 p, .slice A2 n c2, .int .i64 a, .int .i64 bb, .int .i64 s, .int .i64 g] by rw [← hV]; exact ((((((Q_6.out.put 0 _).put 1 _).put 2 _).put 3 _).put 4 _).put 5 _))
        have B_7 := Lib.hid (show Below w.heap.size w v6 by rw [← hV]; exact ((((((B_6.out.setCell (by first | (simp; done) | (simp; omega) | omega) _).setCell (by first | (simp; done) | (simp; omega) | omega) _).setCell (by first | (simp; done) | (simp; omega) | omega) _).setCell (by first | (simp; done) | (simp; omega) | omega) _).setCell (by first | (simp; done) | (simp; omega) | omega) _).setCell (by first | (simp; done) | (simp; omega) | omega) _))
        have q0 := O_5.out.kept (grown_set _ ⟨w.heap.size + 1, 0, none⟩ (.int .i64 p)) (.inr (own_type O_5.out Q_6.out (by decide)))
        have q1 := q0.kept (grown_set _ ⟨w.heap.size + 1, 1, none⟩ (.slice A2 n c2)) (.inr (own_type q0 (Q_6.out.put 0 (.int .i64 p)) (by decide)))
        have q2 := q1.kept (grown_set _ ⟨w.heap.size + 1, 2, none⟩ (.int .i64 a)) (.inr (own_type q1 ((Q_6.out.put 0 (.int .i64 p)).put 1 (.slice A2 n c2)) (by decide)))
        have q3 := q2.kept (grown_set _ ⟨w.heap.size + 1, 3, none⟩ (.int .i64 bb)) (.inr (own_type q2 (((Q_6.out.put 0 (.int .i64 p)).put 1 (.slice A2 n c2)).put 2 (.int .i64 a)) (by decide)))
        have q4 := q3.kept (grown_set _ ⟨w.heap.size + 1, 4, none⟩ (.int .i64 s)) (.inr (own_type q3 ((((Q_6.out.put 0 (.int .i64 p)).put 1 (.slice A2 n c2)).put 2 (.int .i64 a)).put 3 (.int .i64 bb)) (by decide)))
        have q5 := q4.kept (grown_set _ ⟨w.heap.size + 1, 5, none⟩ (.int .i64 g)) (.inr (own_type q4 (((((Q_6.out.put 0 (.int .i64 p)).put 1 (.slice A2 n c2)).put 2 (.int .i64 a)).put 3 (.int .i64 bb)).put 4 (.int .i64 s)) (by decide)))
        rw [hV] at q5
        have O_6 := Lib.hid q5
        clear q0 q1 q2 q3 q4 q5
        have X_5 := Lib.hid (show Blk v6 (x) 26 #[.int .i64 p, .slice A1 n c1, .int .i64 a, .int .i64 bb, .int .i64 s, .int .i64 g] by rw [← hV]; exact ((((((X_4.out.other (by first | (simp; done) | (simp; omega) | omega) _).other (by first | (simp; done) | (simp; omega) | omega) _).other (by first | (simp; done) | (simp; omega) | omega) _).other (by first | (simp; done) | (simp; omega) | omega) _).other (by first | (simp; done) | (simp; omega) | omega) _).other (by first | (simp; done) | (simp; omega) | omega) _))
        have q0 := O2_1.out.kept (grown_set _ ⟨w.heap.size + 1, 0, none⟩ (.int .i64 p)) (.inr (own_type O2_1.out Q_6.out (by decide)))
        have q1 := q0.kept (grown_set _ ⟨w.heap.size + 1, 1, none⟩ (.slice A2 n c2)) (.inr (own_type q0 (Q_6.out.put 0 (.int .i64 p)) (by decide)))
        have q2 := q1.kept (grown_set _ ⟨w.heap.size + 1, 2, none⟩ (.int .i64 a)) (.inr (own_type q1 ((Q_6.out.put 0 (.int .i64 p)).put 1 (.slice A2 n c2)) (by decide)))
        have q3 := q2.kept (grown_set _ ⟨w.heap.size + 1, 3, none⟩ (.int .i64 bb)) (.inr (own_type q2 (((Q_6.out.put 0 (.int .i64 p)).put 1 (.slice A2 n c2)).put 2 (.int .i64 a)) (by decide)))
        have q4 := q3.kept (grown_set _ ⟨w.heap.size + 1, 4, none⟩ (.int .i64 s)) (.inr (own_type q3 ((((Q_6.out.put 0 (.int .i64 p)).put 1 (.slice A2 n c2)).put 2 (.int .i64 a)).put 3 (.int .i64 bb)) (by decide)))
        have q5 := q4.kept (grown_set _ ⟨w.heap.size + 1, 5, none⟩ (.int .i64 g)) (.inr (own_type q4 (((((Q_6.out.put 0 (.int .i64 p)).put 1 (.slice A2 n c2)).put 2 (.int .i64 a)).put 3 (.int .i64 bb)).put 4 (.int .i64 s)) (by decide)))
        rw [hV] at q5
        have O2_2 := Lib.hid q5
        clear q0 q1 q2 q3 q4 q5
        clear hV R_6 Q_6 B_6 O_5 X_4 O2_1
        refine Shut.out hK _ _ ?_ (fun hHeld => ?_)
        · exact trivial
        clear hK K
        try simp only [Act.put, List.setIfInBounds_toArray, List.set_cons_zero, List.set_cons_succ]
        refine wpAnyH_done (by kernel_rfl) ?_ _
        clear hHeld
        have e0 : v6.cell? ⟨w.heap.size, 0, none⟩ = some (.int .i64 p) := by rw [R_7.out.cell]; rfl
        have e1 : v6.cell? ⟨w.heap.size, 1, none⟩ = some (.slice A1 n c1) := by rw [R_7.out.cell]; rfl
        have e2 : v6.cell? ⟨w.heap.size, 2, none⟩ = some (.int .i64 a) := by rw [R_7.out.cell]; rfl
        have e3 : v6.cell? ⟨w.heap.size, 3, none⟩ = some (.int .i64 bb) := by rw [R_7.out.cell]; rfl
        have e4 : v6.cell? ⟨w.heap.size, 4, none⟩ = some (.int .i64 s) := by rw [R_7.out.cell]; rfl
        have e5 : v6.cell? ⟨w.heap.size, 5, none⟩ = some (.int .i64 g) := by rw [R_7.out.cell]; rfl
        have f0 : v6.cell? ⟨w.heap.size + 1, 0, none⟩ = some (.int .i64 p) := by rw [Q_7.out.cell]; rfl
        have f1 : v6.cell? ⟨w.heap.size + 1, 1, none⟩ = some (.slice A2 n c2) := by rw [Q_7.out.cell]; rfl
        have f2 : v6.cell? ⟨w.heap.size + 1, 2, none⟩ = some (.int .i64 a) := by rw [Q_7.out.cell]; rfl
        have f3 : v6.cell? ⟨w.heap.size + 1, 3, none⟩ = some (.int .i64 bb) := by rw [Q_7.out.cell]; rfl
        have f4 : v6.cell? ⟨w.heap.size + 1, 4, none⟩ = some (.int .i64 s) := by rw [Q_7.out.cell]; rfl
        have f5 : v6.cell? ⟨w.heap.size + 1, 5, none⟩ = some (.int .i64 g) := by rw [Q_7.out.cell]; rfl
        go_wp2_with fail
        exact bodyPost_ret (v := .tuple #[.agg #[.int .i64 p, .slice A1 n c1, .int .i64 a, .int .i64 bb, .int .i64 s, .int .i64 g], .agg #[.int .i64 p, .slice A2 n c2, .int .i64 a, .int .i64 bb, .int .i64 s, .int .i64 g]]) (by simp [results, Try.results23, go_sem, e0, e1, e2, e3, e4, e5, f0, f1, f2, f3, f4, f5]) rfl ⟨p, a, bb, s, g, A1, n, c1, zs, p, a, bb, s, g, A2, n, c2, zs, ⟨HL.out, by omega, by omega, by omega, O_6.out⟩, ⟨HL.out, by omega, by omega, by omega, O2_2.out⟩, rfl, B_7.out⟩
      · rw [if_pos (by rfl)]
        unfold qQ4_2
        go_simp
        refine (specCopy_any n zs HL.out A1 c1 (own_nil O_3.out) p a bb s g _ (own_rcs O_3.out) (by omega)).mono ?_
        rintro e v7 ⟨A2, c2, rfl, ho, hb⟩
        have ho2 := Lib.hid (own_base ho B_4.out.size)
        clear ho
        have R_5 := Lib.hid (R_4.out.below hb)
        have Q_5 := Lib.hid (Q_4.out.below hb)
        have C_5 := Lib.hid (C_4.out.belowD hb)
        have B_5 := Lib.hid (below_chain B_4.out hb)
        have O_4 := Lib.hid (own_below O_3.out hb)
        have X_3 := Lib.hid (X_2.out.below hb)
        clear R_4 Q_4 C_4 B_4 O_3 X_2
        clear hb
        have O2_0 := ho2
        clear ho2
        refine Shut.out hK _ _ ?_ (fun hHeld => ?_)
        · exact trivial
        clear hK K
        try simp only [Act.put, List.setIfInBounds_toArray, List.set_cons_zero, List.set_cons_succ]
        refine cQ4_12_0 (fun K hK => ?_)
        rw [if_pos (by rfl)]
        unfold qQ4_0
        have l0 : v7.cell? ⟨x, 0, none⟩ = some (.int .i64 p) := by rw [X_3.out.cell]; rfl
        have l1 : v7.cell? ⟨x, 1, none⟩ = some (.slice A1 n c1) := by rw [X_3.out.cell]; rfl
        have l2 : v7.cell? ⟨x, 2, none⟩ = some (.int .i64 a) := by rw [X_3.out.cell]; rfl
        have l3 : v7.cell? ⟨x, 3, none⟩ = some (.int .i64 bb) := by rw [X_3.out.cell]; rfl
        have l4 : v7.cell? ⟨x, 4, none⟩ = some (.int .i64 s) := by rw [X_3.out.cell]; rfl
        have l5 : v7.cell? ⟨x, 5, none⟩ = some (.int .i64 g) := by rw [X_3.out.cell]; rfl
        go_simp
        clear l0 l1 l2 l3 l4 l5
        refine Shut.out hK _ _ ?_ (fun hHeld => ?_)
        · exact trivial
        clear hK K
        try simp only [Act.put, List.setIfInBounds_toArray, List.set_cons_zero, List.set_cons_succ]
        refine cQ4_012_3 (fun K hK => ?_)
        rw [if_pos (by rfl)]
        unfold qQ4_3
        have l0 : v7.cell? ⟨w.heap.size, 0, none⟩ = some (.int .i64 0) := by rw [R_5.out.cell]; rfl
        have lf0 := R_5.out.frozen 0
        have l1 : v7.cell? ⟨w.heap.size, 1, none⟩ = some (.slice none 0 0) := by rw [R_5.out.cell]; rfl
        have lf1 := R_5.out.frozen 1
        have l2 : v7.cell? ⟨w.heap.size, 2, none⟩ = some (.int .i64 0) := by rw [R_5.out.cell]; rfl
        have lf2 := R_5.out.frozen 2
        have l3 : v7.cell? ⟨w.heap.size, 3, none⟩ = some (.int .i64 0) := by rw [R_5.out.cell]; rfl
        have lf3 := R_5.out.frozen 3
        have l4 : v7.cell? ⟨w.heap.size, 4, none⟩ = some (.int .i64 0) := by rw [R_5.out.cell]; rfl
        have lf4 := R_5.out.frozen 4
        have l5 : v7.cell? ⟨w.heap.size, 5, none⟩ = some (.int .i64 0) := by rw [R_5.out.cell]; rfl
        have lf5 := R_5.out.frozen 5
        go_simp
        clear l0 l1 l2 l3 l4 l5 lf0 lf1 lf2 lf3 lf4 lf5
        generalize hV : ((((((v7.setCell _ _).setCell _ _).setCell _ _).setCell _ _).setCell _ _).setCell _ _) = v8
        have R_6 := Lib.hid (show Blk v8 (w.heap.size) 26 #[.int .i64 p, .slice A1 n c1, .int .i64 a, .int .i64 bb, .int .i64 s, .int .i64 g] by rw [← hV]; exact ((((((R_5.out.put 0 _).put 1 _).put 2 _).put 3 _).put 4 _).put 5 _))
        have Q_6 := Lib.hid (show Blk v8 (w.heap.size + 1) 26 #[.int .i64 0, .slice none 0 0, .int .i64 0, .int .i64 0, .int .i64 0, .int .i64 0] by rw [← hV]; exact ((((((Q_5.out.other (by first | (simp; done) | (simp; omega) | omega) _).other (by first | (simp; done) | (simp; omega) | omega) _).other (by first | (simp; done) | (simp; omega) | omega) _).other (by first | (simp; done) | (simp; omega) | omega) _).other (by first | (simp; done) | (simp; omega) | omega) _).other (by first | (simp; done) | (simp; omega) | omega) _))
        have B_6 := Lib.hid (show Below w.heap.size w v8 by rw [← hV]; exact ((((((B_5.out.setCell (by first | (simp; done) | (simp; omega) | omega) _).setCell (by first | (simp; done) | (simp; omega) | omega) _).setCell (by first | (simp; done) | (simp; omega) | omega) _).setCell (by first | (simp; done) | (simp; omega) | omega) _).setCell (by first | (simp; done) | (simp; omega) | omega) _).setCell (by first | (simp; done) | (simp; omega) | omega) _))
        have q0 := O_4.out.kept (grown_set _ ⟨w.heap.size, 0, none⟩ (.int .i64 p)) (.inr (own_type O_4.out R_5.out (by decide)))
        have q1 := q0.kept (grown_set _ ⟨w.heap.size, 1, none⟩ (.slice A1 n c1)) (.inr (own_type q0 (R_5.out.put 0 (.int .i64 p)) (by decide)))
        have q2 := q1.kept (grown_set _ ⟨w.heap.size, 2, none⟩ (.int .i64 a)) (.inr (own_type q1 ((R_5.out.put 0 (.int .i64 p)).put 1 (.slice A1 n c1)) (by decide)))
        have q3 := q2.kept (grown_set _ ⟨w.heap.size, 3, none⟩ (.int .i64 bb)) (.inr (own_type q2 (((R_5.out.put 0 (.int .i64 p)).put 1 (.slice A1 n c1)).put 2 (.int .i64 a)) (by decide)))
        have q4 := q3.kept (grown_set _ ⟨w.heap.size, 4, none⟩ (.int .i64 s)) (.inr (own_type q3 ((((R_5.out.put 0 (.int .i64 p)).put 1 (.slice A1 n c1)).put 2 (.int .i64 a)).put 3 (.int .i64 bb)) (by decide)))
        have q5 := q4.kept (grown_set _ ⟨w.heap.size, 5, none⟩ (.int .i64 g)) (.inr (own_type q4 (((((R_5.out.put 0 (.int .i64 p)).put 1 (.slice A1 n c1)).put 2 (.int .i64 a)).put 3 (.int .i64 bb)).put 4 (.int .i64 s)) (by decide)))
        rw [hV] at q5
        have O_5 := Lib.hid q5
        clear q0 q1 q2 q3 q4 q5
        have X_4 := Lib.hid (show Blk v8 (x) 26 #[.int .i64 p, .slice A1 n c1, .int .i64 a, .int .i64 bb, .int .i64 s, .int .i64 g] by rw [← hV]; exact ((((((X_3.out.other (by first | (simp; done) | (simp; omega) | omega) _).other (by first | (simp; done) | (simp; omega) | omega) _).other (by first | (simp; done) | (simp; omega) | omega) _).other (by first | (simp; done) | (simp; omega) | omega) _).other (by first | (simp; done) | (simp; omega) | omega) _).other (by first | (simp; done) | (simp; omega) | omega) _))
        have q0 := O2_0.out.kept (grown_set _ ⟨w.heap.size, 0, none⟩ (.int .i64 p)) (.inr (own_type O2_0.out R_5.out (by decide)))
        have q1 := q0.kept (grown_set _ ⟨w.heap.size, 1, none⟩ (.slice A1 n c1)) (.inr (own_type q0 (R_5.out.put 0 (.int .i64 p)) (by decide)))
        have q2 := q1.kept (grown_set _ ⟨w.heap.size, 2, none⟩ (.int .i64 a)) (.inr (own_type q1 ((R_5.out.put 0 (.int .i64 p)).put 1 (.slice A1 n c1)) (by decide)))
        have q3 := q2.kept (grown_set _ ⟨w.heap.size, 3, none⟩ (.int .i64 bb)) (.inr (own_type q2 (((R_5.out.put 0 (.int .i64 p)).put 1 (.slice A1 n c1)).put 2 (.int .i64 a)) (by decide)))
        have q4 := q3.kept (grown_set _ ⟨w.heap.size, 4, none⟩ (.int .i64 s)) (.inr (own_type q3 ((((R_5.out.put 0 (.int .i64 p)).put 1 (.slice A1 n c1)).put 2 (.int .i64 a)).put 3 (.int .i64 bb)) (by decide)))
        have q5 := q4.kept (grown_set _ ⟨w.heap.size, 5, none⟩ (.int .i64 g)) (.inr (own_type q4 (((((R_5.out.put 0 (.int .i64 p)).put 1 (.slice A1 n c1)).put 2 (.int .i64 a)).put 3 (.int .i64 bb)).put 4 (.int .i64 s)) (by decide)))
        rw [hV] at q5
        have O2_1 := Lib.hid q5
        clear q0 q1 q2 q3 q4 q5
        clear hV R_5 Q_5 B_5 O_4 X_3 O2_0
        refine Shut.out hK _ _ ?_ (fun hHeld => ?_)
        · exact trivial
        clear hK K
        try simp only [Act.put, List.setIfInBounds_toArray, List.set_cons_zero, List.set_cons_succ]
        refine cQ4_0123_4 (fun K hK => ?_)
        rw [if_pos (by rfl)]
        unfold qQ4_4
        have l0 : v8.cell? ⟨w.heap.size + 1, 0, none⟩ = some (.int .i64 0) := by rw [Q_6.out.cell]; rfl
        have lf0 := Q_6.out.frozen 0
        have l1 : v8.cell? ⟨w.heap.size + 1, 1, none⟩ = some (.slice none 0 0) := by rw [Q_6.out.cell]; rfl
        have lf1 := Q_6.out.frozen 1
        have l2 : v8.cell? ⟨w.heap.size + 1, 2, none⟩ = some (.int .i64 0) := by rw [Q_6.out.cell]; rfl
        have lf2 := Q_6.out.frozen 2
        have l3 : v8.cell? ⟨w.heap.size + 1, 3, none⟩ = some (.int .i64 0) := by rw [Q_6.out.cell]; rfl
        have lf3 := Q_6.out.frozen 3
        have l4 : v8.cell? ⟨w.heap.size + 1, 4, none⟩ = some (.int .i64 0) := by rw [Q_6.out.cell]; rfl
        have lf4 := Q_6.out.frozen 4
        have l5 : v8.cell? ⟨w.heap.size + 1, 5, none⟩ = some (.int .i64 0) := by rw [Q_6.out.cell]; rfl
        have lf5 := Q_6.out.frozen 5
        go_simp
        clear l0 l1 l2 l3 l4 l5 lf0 lf1 lf2 lf3 lf4 lf5
        generalize hV : ((((((v8.setCell _ _).setCell _ _).setCell _ _).setCell _ _).setCell _ _).setCell _ _) = v9
        have R_7 := Lib.hid (show Blk v9 (w.heap.size) 26 #[.int .i64 p, .slice A1 n c1, .int .i64 a, .int .i64 bb, .int .i64 s, .int .i64 g] by rw [← hV]; exact ((((((R_6.out.other (by first | (simp; done) | (simp; omega) | omega) _).other (by first | (simp; done) | (simp; omega) | omega) _).other (by first | (simp; done) | (simp; omega) | omega) _).other (by first | (simp; done) | (simp; omega) | omega) _).other (by first | (simp; done) | (simp; omega) | omega) _).other (by first | (simp; done) | (simp; omega) | omega) _))
        have Q_7 := Lib.hid (show Blk v9 (w.heap.size + 1) 26 #[.int .i64 p, .slice A2 n c2, .int .i64 a, .int .i64 bb, .int .i64 s, .int .i64 g] by rw [← hV]; exact ((((((Q_6.out.put 0 _).put 1 _).put 2 _).put 3 _).put 4 _).put 5 _))
        have B_7 := Lib.hid (show Below w.heap.size w v9 by rw [← hV]; exact ((((((B_6.out.setCell (by first | (simp; done) | (simp; omega) | omega) _).setCell (by first | (simp; done) | (simp; omega) | omega) _).setCell (by first | (simp; done) | (simp; omega) | omega) _).setCell (by first | (simp; done) | (simp; omega) | omega) _).setCell (by first | (simp; done) | (simp; omega) | omega) _).setCell (by first | (simp; done) | (simp; omega) | omega) _))
        have q0 := O_5.out.kept (grown_set _ ⟨w.heap.size + 1, 0, none⟩ (.int .i64 p)) (.inr (own_type O_5.out Q_6.out (by decide)))
        have q1 := q0.kept (grown_set _ ⟨w.heap.size + 1, 1, none⟩ (.slice A2 n c2)) (.inr (own_type q0 (Q_6.out.put 0 (.int .i64 p)) (by decide)))
        have q2 := q1.kept (grown_set _ ⟨w.heap.size + 1, 2, none⟩ (.int .i64 a)) (.inr (own_type q1 ((Q_6.out.put 0 (.int .i64 p)).put 1 (.slice A2 n c2)) (by decide)))
        have q3 := q2.kept (grown_set _ ⟨w.heap.size + 1, 3, none⟩ (.int .i64 bb)) (.inr (own_type q2 (((Q_6.out.put 0 (.int .i64 p)).put 1 (.slice A2 n c2)).put 2 (.int .i64 a)) (by decide)))
        have q4 := q3.kept (grown_set _ ⟨w.heap.size + 1, 4, none⟩ (.int .i64 s)) (.inr (own_type q3 ((((Q_6.out.put 0 (.int .i64 p)).put 1 (.slice A2 n c2)).put 2 (.int .i64 a)).put 3 (.int .i64 bb)) (by decide)))
        have q5 := q4.kept (grown_set _ ⟨w.heap.size + 1, 5, none⟩ (.int .i64 g)) (.inr (own_type q4 (((((Q_6.out.put 0 (.int .i64 p)).put 1 (.slice A2 n c2)).put 2 (.int .i64 a)).put 3 (.int .i64 bb)).put 4 (.int .i64 s)) (by decide)))
        rw [hV] at q5
        have O_6 := Lib.hid q5
        clear q0 q1 q2 q3 q4 q5
        have X_5 := Lib.hid (show Blk v9 (x) 26 #[.int .i64 p, .slice A1 n c1, .int .i64 a, .int .i64 bb, .int .i64 s, .int .i64 g] by rw [← hV]; exact ((((((X_4.out.other (by first | (simp; done) | (simp; omega) | omega) _).other (by first | (simp; done) | (simp; omega) | omega) _).other (by first | (simp; done) | (simp; omega) | omega) _).other (by first | (simp; done) | (simp; omega) | omega) _).other (by first | (simp; done) | (simp; omega) | omega) _).other (by first | (simp; done) | (simp; omega) | omega) _))
        have q0 := O2_1.out.kept (grown_set _ ⟨w.heap.size + 1, 0, none⟩ (.int .i64 p)) (.inr (own_type O2_1.out Q_6.out (by decide)))
        have q1 := q0.kept (grown_set _ ⟨w.heap.size + 1, 1, none⟩ (.slice A2 n c2)) (.inr (own_type q0 (Q_6.out.put 0 (.int .i64 p)) (by decide)))
        have q2 := q1.kept (grown_set _ ⟨w.heap.size + 1, 2, none⟩ (.int .i64 a)) (.inr (own_type q1 ((Q_6.out.put 0 (.int .i64 p)).put 1 (.slice A2 n c2)) (by decide)))
        have q3 := q2.kept (grown_set _ ⟨w.heap.size + 1, 3, none⟩ (.int .i64 bb)) (.inr (own_type q2 (((Q_6.out.put 0 (.int .i64 p)).put 1 (.slice A2 n c2)).put 2 (.int .i64 a)) (by decide)))
        have q4 := q3.kept (grown_set _ ⟨w.heap.size + 1, 4, none⟩ (.int .i64 s)) (.inr (own_type q3 ((((Q_6.out.put 0 (.int .i64 p)).put 1 (.slice A2 n c2)).put 2 (.int .i64 a)).put 3 (.int .i64 bb)) (by decide)))
        have q5 := q4.kept (grown_set _ ⟨w.heap.size + 1, 5, none⟩ (.int .i64 g)) (.inr (own_type q4 (((((Q_6.out.put 0 (.int .i64 p)).put 1 (.slice A2 n c2)).put 2 (.int .i64 a)).put 3 (.int .i64 bb)).put 4 (.int .i64 s)) (by decide)))
        rw [hV] at q5
        have O2_2 := Lib.hid q5
        clear q0 q1 q2 q3 q4 q5
        clear hV R_6 Q_6 B_6 O_5 X_4 O2_1
        refine Shut.out hK _ _ ?_ (fun hHeld => ?_)
        · exact trivial
        clear hK K
        try simp only [Act.put, List.setIfInBounds_toArray, List.set_cons_zero, List.set_cons_succ]
        refine wpAnyH_done (by kernel_rfl) ?_ _
        clear hHeld
        have e0 : v9.cell? ⟨w.heap.size, 0, none⟩ = some (.int .i64 p) := by rw [R_7.out.cell]; rfl
        have e1 : v9.cell? ⟨w.heap.size, 1, none⟩ = some (.slice A1 n c1) := by rw [R_7.out.cell]; rfl
        have e2 : v9.cell? ⟨w.heap.size, 2, none⟩ = some (.int .i64 a) := by rw [R_7.out.cell]; rfl
        have e3 : v9.cell? ⟨w.heap.size, 3, none⟩ = some (.int .i64 bb) := by rw [R_7.out.cell]; rfl
        have e4 : v9.cell? ⟨w.heap.size, 4, none⟩ = some (.int .i64 s) := by rw [R_7.out.cell]; rfl
        have e5 : v9.cell? ⟨w.heap.size, 5, none⟩ = some (.int .i64 g) := by rw [R_7.out.cell]; rfl
        have f0 : v9.cell? ⟨w.heap.size + 1, 0, none⟩ = some (.int .i64 p) := by rw [Q_7.out.cell]; rfl
        have f1 : v9.cell? ⟨w.heap.size + 1, 1, none⟩ = some (.slice A2 n c2) := by rw [Q_7.out.cell]; rfl
        have f2 : v9.cell? ⟨w.heap.size + 1, 2, none⟩ = some (.int .i64 a) := by rw [Q_7.out.cell]; rfl
        have f3 : v9.cell? ⟨w.heap.size + 1, 3, none⟩ = some (.int .i64 bb) := by rw [Q_7.out.cell]; rfl
        have f4 : v9.cell? ⟨w.heap.size + 1, 4, none⟩ = some (.int .i64 s) := by rw [Q_7.out.cell]; rfl
        have f5 : v9.cell? ⟨w.heap.size + 1, 5, none⟩ = some (.int .i64 g) := by rw [Q_7.out.cell]; rfl
        go_wp2_with fail
        exact bodyPost_ret (v := .tuple #[.agg #[.int .i64 p, .slice A1 n c1, .int .i64 a, .int .i64 bb, .int .i64 s, .int .i64 g], .agg #[.int .i64 p, .slice A2 n c2, .int .i64 a, .int .i64 bb, .int .i64 s, .int .i64 g]]) (by simp [results, Try.results23, go_sem, e0, e1, e2, e3, e4, e5, f0, f1, f2, f3, f4, f5]) rfl ⟨p, a, bb, s, g, A1, n, c1, zs, p, a, bb, s, g, A2, n, c2, zs, ⟨HL.out, by omega, by omega, by omega, O_6.out⟩, ⟨HL.out, by omega, by omega, by omega, O2_2.out⟩, rfl, B_7.out⟩

end Go.Proofs.Ythkkleicekhelaa.hexes
