/-
  The program's Improve: the contract of impl.Improve.
  Fixpoint's state; a list of cells read from memory.
  A row's capacity is not below its length.
  What the walks of chapter 9's exact laws take: a boxed cell and rows kept through writes.
  What an exact law does with a list of cells that lies somewhere in an owned block: compare, mark, hold.
  Improve's contracts in a walk's words; marking one of two lists that share a type.
  Drawn stamps: the contracts of spec.l02Stamp, l02Any and l02Two.
  Drawn records: the contracts of spec.l05Record, l05Any, l05List and of chapter 5's draws.
  What the draws of nodes and links share.
  What a draw of a node keeps from step to step.
-/
import Derived.Test.YtbbagpnjjjohpaaJ31
import Derived.Test.YtbbagpnjjjohpaaJ20
import Derived.Test.YtbbagpnjjjohpaaJ9
import Derived.Test.YtbbagpnjjjohpaaJ1
import Derived.Test.YtbbagpnjjjohpaaJ10
import Derived.Deep.Slices
import Derived.ChangeSame
import Derived.OpenShut
import Derived.Lib.SmallJoins
import Derived.Test.YtbbagpnjjjohpaaJ12
import Derived.Test.YtbbagpnjjjohpaaJ5
import Derived.Test.YtbbagpnjjjohpaaJ21
import Derived.Test.YtbbagpnjjjohpaaJ0
import Derived.WalkArith
import Derived.Test.YtbbagpnjjjohpaaJ4

namespace Go.Proofs.Ytbbagpnjjjohpaa.hexes
open Go.RowKit

set_option maxRecDepth 1000000 in
set_option maxHeartbeats 8000000 in
theorem implImp_any (gs : List Nd) (wk cp : Int) (A : Option Addr) (n c : Nat) (hl : gs.length = n) (ho : ∀ x ∈ gs, x.2.2.2.length ≤ 1048576) (hn : n ≤ 1048576) (ces : List Ce) (A2 : Option Addr) (n2 c2 : Nat) (hl2 : ces.length = n2) (hA2 : A2 = none → c2 = 0) (hc2 : n2 ≤ c2) (hn2 : n2 ≤ 2000000) (x0 x1 x2 x3 : Int) (w : World) (h : Nds w A gs) (h2 : Ces w A2 ces) :
    Calls Try.prog 21 #[.agg #[.slice A n c, .int .i64 wk, .int .i64 cp], .slice A2 n2 c2, .agg #[.int .i64 x0, .int .i64 x1, .int .i64 x2, .int .i64 x3]] w (ImpEnd w (impG gs wk cp ces (x0, x1, x2, x3))) := by
  obtain ⟨q, hq⟩ : ∃ q, impG gs wk cp ces (x0, x1, x2, x3) = q := ⟨_, rfl⟩
  obtain ⟨on, hon⟩ : ∃ q, (impB gs wk cp (x0, x1, x2, x3) && (recL ces (x0, x1, x2, x3)).2) = q := ⟨_, rfl⟩
  have IV := Lib.hid (fun W hb => implImv_any gs wk cp A n c hl ho hn ces A2 n2 c2 hl2 hA2 hc2 hn2 x0 x1 x2 x3 W (h.below (show Below w.heap.size w W from hb)) (h2.below hb))
  rw [hq, hon] at IV
  rw [hq]
  clear hq hon h h2 hl ho hl2 hA2
  obtain ⟨V, hW⟩ : ∃ z, ((w.alloc (.cells #[.slice A n c, .int .i64 wk, .int .i64 cp] 26)).alloc (.cells #[.int .i64 x0, .int .i64 x1, .int .i64 x2, .int .i64 x3] 38)) = z := ⟨_, rfl⟩
  have hb : Below w.heap.size w V := by rw [← hW]; exact (((Below.refl _ _).alloc (by first | (simp; done) | (simp; omega) | omega) _).alloc (by first | (simp; done) | (simp; omega) | omega) _)
  have az : V.heap.size = w.heap.size + 2 := by rw [← hW]; simp
  have NG := Lib.hid (show Blk V (w.heap.size) 26 #[.slice A n c, .int .i64 wk, .int .i64 cp] by rw [← hW]; exact ((Below.heap_alloc _ _ _ (by first | (simp; done) | (simp; omega))).trans (Blk.new _ _ _)))
  have NX := Lib.hid (show Blk V (w.heap.size + 1) 38 #[.int .i64 x0, .int .i64 x1, .int .i64 x2, .int .i64 x3] by rw [← hW]; exact ((show w.heap.size + 1 = ((w.alloc _)).heap.size by simp) ▸ Blk.new _ _ _))
  have AZV := Lib.hid az
  clear az
  have sz1 := hb.size
  have B1 := Lib.hid (hb)
  clear hb
  have G_1 := NG
  clear NG
  have ltG : w.heap.size < V.heap.size := G_1.out.lt
  have X_1 := NX
  clear NX
  have ltX : w.heap.size + 1 < V.heap.size := X_1.out.lt
  go_enter Try.func21, Try.ntmps21
  have xG0 : V.cell? ⟨w.heap.size, 0, none⟩ = some (.slice A n c) := by rw [G_1.out.cell]; rfl
  have xG1 : V.cell? ⟨w.heap.size, 1, none⟩ = some (.int .i64 wk) := by rw [G_1.out.cell]; rfl
  have xG2 : V.cell? ⟨w.heap.size, 2, none⟩ = some (.int .i64 cp) := by rw [G_1.out.cell]; rfl
  have xX0 : V.cell? ⟨w.heap.size + 1, 0, none⟩ = some (.int .i64 x0) := by rw [X_1.out.cell]; rfl
  have xX1 : V.cell? ⟨w.heap.size + 1, 1, none⟩ = some (.int .i64 x1) := by rw [X_1.out.cell]; rfl
  have xX2 : V.cell? ⟨w.heap.size + 1, 2, none⟩ = some (.int .i64 x2) := by rw [X_1.out.cell]; rfl
  have xX3 : V.cell? ⟨w.heap.size + 1, 3, none⟩ = some (.int .i64 x3) := by rw [X_1.out.cell]; rfl
  go_wp2_with fail
  clear hW xG0 xG1 xG2 xX0 xX1 xX2 xX3
  refine (IV.out _ B1.out).mono ?_
  rintro e w5 ⟨A3, c3, m3, A4, c4, m4, h3, h4, rfl, r3, r4, ap, hb⟩
  have R3 := Lib.hid r3
  have R4 := Lib.hid r4
  have H3 := Lib.hid h3
  have H4 := Lib.hid h4
  have AP := Lib.hid ap
  have BE := Lib.hid (below_chain B1.out hb)
  have BS := Lib.hid B1.out.size
  clear r3 r4 h3 h4 ap hb
  go_wp2
  exact bodyPost_ret (v := .tuple #[.slice A3 m3 c3, .slice A4 m4 c4]) (by simp [results, Try.results21, go_sem]) rfl ⟨A3, c3, m3, A4, c4, m4, H3.out, H4.out, rfl, R3.out.bounds BS.out (Nat.le_refl _), R4.out.bounds BS.out (Nat.le_refl _), AP.out, BE.out⟩
end Go.Proofs.Ytbbagpnjjjohpaa.hexes

namespace Go.Proofs.Ytbbagpnjjjohpaa.hexes
open Go.RowKit

theorem Wce.empty (w : World) (lo hi : Nat) (A : Option Addr) : Wce w lo hi A 0 0 [] := ⟨rfl, rfl, .inl ⟨rfl, rfl⟩⟩
theorem Wce.lt {w : World} {lo hi n c : Nat} {A : Option Addr} {zs : List Ce} (h : Wce w lo hi A n c zs) (hc : 0 < c) : ∃ g o, A = some ⟨g, o, none⟩ ∧ g < hi := by
  rcases h.2.2 with ⟨_, h0⟩ | ⟨g, k, pre, hA, _, hlt, _⟩
  · omega
  · exact ⟨g, _, hA, hlt⟩
/-- What Fixpoint keeps. -/
structure FixSt (w wr : World) (gs : List Nd) (wk cp : Int) (A : Option Addr) (n c : Nat) (A3 : Option Addr) (m3 c3 : Nat) (best : List Ce) (A4 : Option Addr) (m4 c4 : Nat) (xs : List Ce) : Prop where
  b : Wce wr w.heap.size wr.heap.size A3 m3 c3 best
  l : Wce wr w.heap.size wr.heap.size A4 m4 c4 xs
  g : Blk wr w.heap.size 26 #[.slice A n c, .int .i64 wk, .int .i64 cp]
  bel : Below w.heap.size w wr
  n0 : Nds w A gs
section
variable {w wr w' : World} {gs : List Nd} {wk cp : Int} {A : Option Addr} {n c : Nat} {A3 : Option Addr} {m3 c3 : Nat} {best : List Ce} {A4 : Option Addr} {m4 c4 : Nat} {xs : List Ce}
theorem FixSt.fresh (h : FixSt w wr gs wk cp A n c A3 m3 c3 best A4 m4 c4 xs) (hb : Below wr.heap.size wr w') : FixSt w w' gs wk cp A n c A3 m3 c3 best A4 m4 c4 xs :=
  ⟨(h.b.below hb).bounds (Nat.le_refl _) hb.size, (h.l.below hb).bounds (Nat.le_refl _) hb.size, h.g.below hb, below_chain h.bel hb, h.n0⟩
theorem FixSt.nds (h : FixSt w wr gs wk cp A n c A3 m3 c3 best A4 m4 c4 xs) : Nds wr A gs := h.n0.below h.bel
end
/-- What a round's call reads. -/
structure FixHeld (V : World) (g : Nat) (A : Option Addr) (n c : Nat) (wk cp : Int) (b o : Nat) (p0 p1 p2 p3 : Int) (w : World) : Prop where
  g0 : w.cell? ⟨g, 0, none⟩ = some (.slice A n c)
  g1 : w.cell? ⟨g, 1, none⟩ = some (.int .i64 wk)
  g2 : w.cell? ⟨g, 2, none⟩ = some (.int .i64 cp)
  c0 : w.cell? ⟨b, o, none⟩ = some (.int .i64 p0)
  c1 : w.cell? ⟨b, o + 1, none⟩ = some (.int .i64 p1)
  c2 : w.cell? ⟨b, o + 2, none⟩ = some (.int .i64 p2)
  c3 : w.cell? ⟨b, o + 3, none⟩ = some (.int .i64 p3)
  bel : Below V.heap.size V w
theorem FixHeld.below {V : World} {g : Nat} {A : Option Addr} {n c : Nat} {wk cp : Int} {b o : Nat} {p0 p1 p2 p3 : Int} {w w' : World} (h : FixHeld V g A n c wk cp b o p0 p1 p2 p3 w) (hb : Below w.heap.size w w') : FixHeld V g A n c wk cp b o p0 p1 p2 p3 w' :=
  ⟨below_keep hb h.g0, below_keep hb h.g1, below_keep hb h.g2, below_keep hb h.c0, below_keep hb h.c1, below_keep hb h.c2, below_keep hb h.c3, below_chain h.bel hb⟩
theorem FixSt.held {w wr : World} {gs : List Nd} {wk cp : Int} {A : Option Addr} {n c : Nat} {A3 : Option Addr} {m3 c3 : Nat} {best : List Ce} {A4 : Option Addr} {m4 c4 : Nat} {xs : List Ce} {p0 p1 p2 p3 : Int} (h : FixSt w wr gs wk cp A n c A3 m3 c3 best A4 m4 c4 ((p0, p1, p2, p3) :: xs)) : ∃ b o, A4 = some ⟨b, o, none⟩ ∧ FixHeld wr w.heap.size A n c wk cp b o p0 p1 p2 p3 wr := by
  obtain ⟨b, o, q0, q1, q2, q3, hA, hq, h0, h1, h2, h3⟩ := h.l.ce.at (k := 0) (by simp)
  simp only [List.getElem_cons_zero, Prod.mk.injEq] at hq
  obtain ⟨rfl, rfl, rfl, rfl⟩ := hq
  simp only [Nat.zero_mul, Nat.add_zero] at h0 h1 h2 h3
  exact ⟨b, o, hA, by rw [h.g.cell]; rfl, by rw [h.g.cell]; rfl, by rw [h.g.cell]; rfl, h0, h1, h2, h3, Below.refl _ _⟩
end Go.Proofs.Ytbbagpnjjjohpaa.hexes

namespace Go.Proofs.Ytbbagpnjjjohpaa.hexes
open Go.RowKit
theorem Row.cap {w : World} {lo hi e size n c : Nat} {A : Option Addr} {xs : List Value} (h : Row w lo hi e size A n c xs) : n ≤ c := by
  rcases h.own.2 with ⟨h0, rfl⟩ | ⟨g, cap, cur, hv, _, _, hnc, _⟩
  · exact Nat.zero_le _
  · simp only [Value.slice.injEq, true_and] at hv
    obtain ⟨_, rfl⟩ := hv
    exact hnc
end Go.Proofs.Ytbbagpnjjjohpaa.hexes

namespace Go.Proofs.Ytbbagpnjjjohpaa.hexes
open Go.RowKit

theorem XB.wrote {w w' : World} {b : Nat} {x0 x1 x2 x3 : Int} {lo hi : Nat} (h : XB b x0 x1 x2 x3 w) (hw : Wrote w w' lo hi) (hd : b < lo ∨ hi ≤ b) : XB b x0 x1 x2 x3 w' := by
  obtain ⟨row, hg, hr⟩ := hw
  exact h.grown hg (fun e => by have := hr b e; omega)
theorem Row.base {w : World} {lo lo' hi e size n c : Nat} {A : Option Addr} {xs : List Value} (h : Row w lo hi e size A n c xs) (hl : lo' ≤ lo) : Row w lo' hi e size A n c xs := ⟨own_base h.own hl, h.lt⟩
end Go.Proofs.Ytbbagpnjjjohpaa.hexes

namespace Go.Proofs.Ytbbagpnjjjohpaa.hexes
open Go.RowKit

theorem Wce.wroteR {w w' : World} {lo hi lo' hi' n c : Nat} {A : Option Addr} {zs : List Ce} (h : Wce w lo hi A n c zs) (hw : WroteR lo' hi' w w') (hd : hi ≤ lo' ∨ hi' ≤ lo) : Wce w' lo hi A n c zs := by
  induction hw with
  | refl => exact h
  | step _ hw ih => exact ih.wrote hw hd
theorem Wce.turned {w w' : World} {lo hi lo' hi' n c : Nat} {A : Option Addr} {zs : List Ce} (h : Wce w lo hi A n c zs) (hw : Turned lo' hi' w w') (hd : hi ≤ lo' ∨ hi' ≤ lo) : Wce w' lo hi A n c zs := by
  obtain ⟨w1, hb, hw⟩ := hw
  exact (h.below hb).wroteR hw hd
end Go.Proofs.Ytbbagpnjjjohpaa.hexes

namespace Go.Proofs.Ytbbagpnjjjohpaa.hexes
open Go.RowKit

theorem ImpEnd.rows {w w' : World} {e : Ending} {q : List Ce × List Ce} {us vs : List Ce} {m3 m4 : Nat} (h : ImpEnd w q e w') (hq : q = (us, vs)) (h3 : us.length = m3) (h4 : vs.length = m4) : ∃ A3 c3 A4 c4, e = .returned (.tuple #[.slice A3 m3 c3, .slice A4 m4 c4]) ∧ Wce w' w.heap.size w'.heap.size A3 m3 c3 us ∧ Wce w' w.heap.size w'.heap.size A4 m4 c4 vs ∧ ApartC A3 A4 ∧ Below w.heap.size w w' := by
  subst hq h3 h4
  obtain ⟨A3, c3, m3, A4, c4, m4, rfl, rfl, he, r3, r4, ap, hb⟩ := h
  exact ⟨A3, c3, A4, c4, he, r3, r4, ap, hb⟩
theorem implImp_rows {gs : List Nd} {wk cp : Int} {A : Option Addr} {n c : Nat} {ces : List Ce} {A2 : Option Addr} {n2 c2 : Nat} {x0 x1 x2 x3 : Int} {us vs : List Ce} {m3 m4 : Nat} (hq : impG gs wk cp ces (x0, x1, x2, x3) = (us, vs)) (h3 : us.length = m3) (h4 : vs.length = m4) (hl : gs.length = n) (ho : ∀ x ∈ gs, x.2.2.2.length ≤ 1048576) (hn : n ≤ 1048576) (hl2 : ces.length = n2) (hA2 : A2 = none → c2 = 0) (hc2 : n2 ≤ c2) (hn2 : n2 ≤ 1048576) (w : World) (h : Nds w A gs) (h2 : Ces w A2 ces) :
    Calls Try.prog 21 #[.agg #[.slice A n c, .int .i64 wk, .int .i64 cp], .slice A2 n2 c2, .agg #[.int .i64 x0, .int .i64 x1, .int .i64 x2, .int .i64 x3]] w fun e w' => ∃ A3 c3 A4 c4, e = .returned (.tuple #[.slice A3 m3 c3, .slice A4 m4 c4]) ∧ Wce w' w.heap.size w'.heap.size A3 m3 c3 us ∧ Wce w' w.heap.size w'.heap.size A4 m4 c4 vs ∧ ApartC A3 A4 ∧ Below w.heap.size w w' :=
  (implImp_any gs wk cp A n c hl ho hn ces A2 n2 c2 hl2 hA2 hc2 (by omega) x0 x1 x2 x3 w h h2).mono fun _ _ he => he.rows hq h3 h4
theorem ApartC.symm {A B : Option Addr} (h : ApartC A B) : ApartC B A := fun g o o' hB hA => h g o' o hA hB
end Go.Proofs.Ytbbagpnjjjohpaa.hexes

namespace Go.Proofs.Ytbbagpnjjjohpaa.hexes
open Go.RowKit

/-- The cursor in a world that has only grown. -/
theorem Cursor.grown {w w' : World} {c len cap : Nat} {A : Option Addr} (h : Cursor w c A len cap) (hg : w.grownBy w' none) : Cursor w' c A len cap := by
  obtain ⟨i, hh, hi, hblk⟩ := h.at_
  exact ⟨⟨i, hh, hi, hblk.grown hg (by simp)⟩, h.bytes.grown ⟨hg.os, hg.tape, hg.output, hg.size, fun k hk _ => hg.block k hk (by simp)⟩⟩
theorem Cursor.lt {w : World} {c len cap : Nat} {A : Option Addr} (h : Cursor w c A len cap) : c < w.heap.size := by
  obtain ⟨i, hh, hi, hblk⟩ := h.at_
  exact hblk.lt

theorem Cursor.back {w w2 w3 : World} {c len cap : Nat} {A : Option Addr} (h : Cursor w c A len cap) (h2 : Cursor w2 c A len cap) (hg : w.grownBy w3 (some c)) (hb : w3.heap[c]? = w2.heap[c]?) : Cursor w3 c A len cap := by
  obtain ⟨i, hh, hi, hblk⟩ := h2.at_
  exact ⟨⟨i, hh, hi, hb.trans hblk⟩, h.bytes.grown hg⟩
theorem grown_set_new {a w : World} {row : Option Nat} (h : a.grownBy w row) {p : Addr} (hp : a.heap.size ≤ p.block) (u : Value) : a.grownBy (w.setCell p u) row :=
  ⟨h.os, h.tape, h.output, by simpa [World.setCell] using h.size, fun i hi hne => (Below.heap_setCell w p u i (by omega)).trans (h.block i hi hne)⟩

theorem once_any (n : Nat) (h0 : 0 < n) (h1 : n ≤ 4294967296) (w : World) (c : Nat) (A : Option Addr) (len cap : Nat) (hlen : len ≤ 2097152) (hcur : Cursor w c A len cap) :
    Calls Try.prog 50 #[.pointer (some ⟨c, 0, none⟩), .int .i64 (n : Int)] w fun e w' => ∃ b : Bool, e = .returned (.bool b) ∧ Cursor w' c A len cap ∧ w.grownBy w' (some c) := by
  have HC := Lib.hid hcur
  clear hcur
  go_enter Try.func50, Try.ntmps50
  go_wp2_with fail
  refine (below_any n h0 h1 w c A len cap hlen HC.out).mono ?_
  rintro e w1 ⟨x, hx, rfl, hc1, g1⟩
  have C1 := Lib.hid hc1
  have G1 := Lib.hid g1
  clear hc1 g1
  go_wp2
  go_ret
  exact ⟨_, rfl, C1.out, G1.out⟩

/-- How a picked number ends. -/
def PickEnd (w : World) (c : Nat) (A : Option Addr) (len cap : Nat) (ns : List Int) (e : Ending) (w' : World) : Prop :=
  ∃ n ∈ ns, e = .returned (.int .i64 n) ∧ Cursor w' c A len cap ∧ w.grownBy w' (some c)

set_option maxRecDepth 100000 in
theorem pickInt_any (w : World) (c g : Nat) (A : Option Addr) (len cap m : Nat) (ns : List Int) (hm : ns.length = m) (h0 : 0 < m) (h1 : m ≤ 256) (hlen : len ≤ 2097152) (hcur : Cursor w c A len cap) (hgc : g ≠ c)
    (hblk : Blk w g 3 (ns.map fun n => Value.int .i64 n).toArray) :
    Calls Try.prog 84 #[.pointer (some ⟨c, 0, none⟩), .slice (some ⟨g, 0, none⟩) m m] w (PickEnd w c A len cap ns) := by
  have HC := Lib.hid hcur
  have HB := Lib.hid hblk
  clear hcur hblk
  go_enter Try.func84, Try.ntmps84
  go_wp2_with fail
  refine (below_any m h0 (by omega) w c A len cap hlen HC.out).mono ?_
  rintro e w1 ⟨x, hx, rfl, hc1, g1⟩
  have hb1 := HB.out.grown g1 (by simpa using hgc)
  have hxl : x < ns.length := by omega
  have d0 : w1.cell? ⟨g, x, none⟩ = some (.int .i64 (ns[x])) := by rw [hb1.cell]; simp [hxl]
  have C1 := Lib.hid hc1
  have G1 := Lib.hid g1
  have j0 : (0 : Int) ≤ (x : Int) := by omega
  have j1 : (x : Int) < (m : Int) := by omega
  clear hc1 g1 hb1 HC HB
  go_wp2
  go_ret
  exact ⟨_, List.getElem_mem hxl, rfl, C1.out, G1.out⟩

end Go.Proofs.Ytbbagpnjjjohpaa.hexes

namespace Go.Proofs.Ytbbagpnjjjohpaa.hexes
open Go.RowKit

/-- A list of records, not long. -/
structure RTab (w : World) (A : Option Addr) (n c : Nat) (zs : List Rc) : Prop where
  few : n ≤ 6
  len : zs.length = n
  nil : A = none → c = 0
  rcs : Rcs w A zs
  wf : ∀ z ∈ zs, wfRc z
theorem RTab.below {w w' : World} {A : Option Addr} {n c : Nat} {zs : List Rc} (h : RTab w A n c zs) (hb : Below w.heap.size w w') : RTab w' A n c zs := ⟨h.few, h.len, h.nil, h.rcs.below hb, h.wf⟩
theorem RTab.of_own {w : World} {B n : Nat} {v : Value} {zs : List Rc} (h : w.ownsRow B 51 5 v n (rcCells zs)) (hn : n ≤ 6) (hw : ∀ z ∈ zs, wfRc z) : ∃ A n' c, v = .slice A n' c ∧ RTab w A n' c zs := by
  obtain ⟨A, c, rfl, hl, hs⟩ := Rcs.of_own h
  exact ⟨A, n, c, rfl, hn, hl, own_nil h, hs, hw⟩

end Go.Proofs.Ytbbagpnjjjohpaa.hexes

namespace Go.Proofs.Ytbbagpnjjjohpaa.hexes
open Go.RowKit

def K64 (x : Int) : Prop := -9223372036854775808 ≤ x ∧ x ≤ 9223372036854775807

theorem grown_row {a w w' : World} {row r2 : Option Nat} (h : a.grownBy w row) (k : w.grownBy w' r2) (hr : ∀ g, r2 = some g → a.heap.size ≤ g) : a.grownBy w' row :=
  ⟨k.os.trans h.os, k.tape.trans h.tape, k.output.trans h.output, Nat.le_trans h.size k.size, fun i hi hne => (k.block i (Nat.lt_of_lt_of_le hi h.size) (fun e => by have := hr i e.symm; omega)).trans (h.block i hi hne)⟩

theorem Cursor.belowD {w w' : World} {c len cap : Nat} {A : Option Addr} (h : Cursor w c A len cap) (hb : Below w.heap.size w w') : Cursor w' c A len cap := by
  obtain ⟨i, hh, hi, hblk⟩ := h.at_
  exact ⟨⟨i, hh, hi, hblk.below hb⟩, h.bytes.below hb⟩

end Go.Proofs.Ytbbagpnjjjohpaa.hexes

namespace Go.Proofs.Ytbbagpnjjjohpaa.hexes
open Go.RowKit

structure NdSt (b wx : World) (c : Nat) (A : Option Addr) (len cap r x : Nat) (k a bb : Int) (A1 : Option Addr) (n c1 : Nat) (zs : List Int) : Prop where
  c0 : Cursor b c A len cap
  br : b.heap.size ≤ r
  bx : b.heap.size ≤ x
  rx : r ≠ x
  cur : Cursor wx c A len cap
  gr : b.grownBy wx (some c)
  kr : Blk wx r 46 #[.int .i64 0, .int .i64 0, .int .i64 0, .slice none 0 0]
  kx : Blk wx x 46 #[.int .i64 k, .int .i64 a, .int .i64 bb, .slice A1 n c1]
  row : wx.ownsRow b.heap.size 3 1 (.slice A1 n c1) n (isCells zs)

variable {b wx w' : World} {c len cap r x n c1 : Nat} {A A1 : Option Addr} {k a bb : Int} {zs : List Int}

theorem NdSt.cr (S : NdSt b wx c A len cap r x k a bb A1 n c1 zs) : c < r ∧ c < x := by
  have := S.c0.lt
  have := S.br
  have := S.bx
  omega

theorem NdSt.fresh (S : NdSt b wx c A len cap r x k a bb A1 n c1 zs) (hb : Below wx.heap.size wx w') : NdSt b w' c A len cap r x k a bb A1 n c1 zs :=
  ⟨S.c0, S.br, S.bx, S.rx, S.cur.belowD hb, grown_below S.gr hb, S.kr.below hb, S.kx.below hb, own_below S.row hb⟩

theorem NdSt.drew (S : NdSt b wx c A len cap r x k a bb A1 n c1 zs) : NdSt b wx.drew c A len cap r x k a bb A1 n c1 zs := S.fresh ((Below.refl _ _).drew)

theorem NdSt.draw (S : NdSt b wx c A len cap r x k a bb A1 n c1 zs) (hc : Cursor w' c A len cap) (g : wx.grownBy w' (some c)) : NdSt b w' c A len cap r x k a bb A1 n c1 zs := by
  have h := S.cr
  obtain ⟨i, hh, hi, hblk⟩ := S.cur.at_
  exact ⟨S.c0, S.br, S.bx, S.rx, hc, grown_trans S.gr g, S.kr.grown g (by simp; omega), S.kx.grown g (by simp; omega), S.row.kept g (.inr (own_type S.row hblk (by decide)))⟩

theorem NdSt.store (S : NdSt b wx c A len cap r x k a bb A1 n c1 zs) (i : Nat) (u : Value) :
    Cursor (wx.setCell ⟨x, i, none⟩ u) c A len cap ∧ b.grownBy (wx.setCell ⟨x, i, none⟩ u) (some c) ∧ Blk (wx.setCell ⟨x, i, none⟩ u) r 46 #[.int .i64 0, .int .i64 0, .int .i64 0, .slice none 0 0] ∧ (wx.setCell ⟨x, i, none⟩ u).ownsRow b.heap.size 3 1 (.slice A1 n c1) n (isCells zs) := by
  have h := S.cr
  have g := grown_set_new S.gr (p := ⟨x, i, none⟩) S.bx u
  exact ⟨S.c0.back S.cur g (Below.heap_setCell _ _ _ c (by simp; omega)), g, S.kr.other (by simpa using S.rx) u, S.row.kept (grown_set wx ⟨x, i, none⟩ u) (.inr (own_type S.row S.kx (by decide)))⟩

theorem NdSt.put0 (S : NdSt b wx c A len cap r x k a bb A1 n c1 zs) (v : Int) : NdSt b (wx.setCell ⟨x, 0, none⟩ (.int .i64 v)) c A len cap r x v a bb A1 n c1 zs := by
  obtain ⟨h1, h2, h3, h4⟩ := S.store 0 (.int .i64 v)
  exact ⟨S.c0, S.br, S.bx, S.rx, h1, h2, h3, S.kx.put 0 _, h4⟩

theorem NdSt.put1 (S : NdSt b wx c A len cap r x k a bb A1 n c1 zs) (v : Int) : NdSt b (wx.setCell ⟨x, 1, none⟩ (.int .i64 v)) c A len cap r x k v bb A1 n c1 zs := by
  obtain ⟨h1, h2, h3, h4⟩ := S.store 1 (.int .i64 v)
  exact ⟨S.c0, S.br, S.bx, S.rx, h1, h2, h3, S.kx.put 1 _, h4⟩

theorem NdSt.put2 (S : NdSt b wx c A len cap r x k a bb A1 n c1 zs) (v : Int) : NdSt b (wx.setCell ⟨x, 2, none⟩ (.int .i64 v)) c A len cap r x k a v A1 n c1 zs := by
  obtain ⟨h1, h2, h3, h4⟩ := S.store 2 (.int .i64 v)
  exact ⟨S.c0, S.br, S.bx, S.rx, h1, h2, h3, S.kx.put 2 _, h4⟩

/-- Behind an append to the list and the store of its result. -/
theorem NdSt.app (S : NdSt b wx c A len cap r x k a bb A1 n c1 zs) {p : Int} {v : Value} (hO : w'.ownsRow b.heap.size 3 1 v (n + 1) (isCells zs ++ [.int .i64 p])) (hG : wx.grownBy w' (Value.slice A1 n c1).ownBlock) :
    ∃ A2 c2, v = .slice A2 (n + 1) c2 ∧ NdSt b (w'.setCell ⟨x, 3, none⟩ v) c A len cap r x k a bb A2 (n + 1) c2 (zs ++ [p]) := by
  have h := S.cr
  obtain ⟨A2, c2, rfl, _⟩ := own_form hO
  have nr := own_type S.row S.kr (by decide)
  have nx := own_type S.row S.kx (by decide)
  obtain ⟨i, hh, hi, hblk⟩ := S.cur.at_
  have nc := own_type S.row hblk (by decide)
  have k1 := S.kr.grown hG (Ne.symm nr)
  have k2 := S.kx.grown hG (Ne.symm nx)
  have kc := hblk.grown hG (Ne.symm nc)
  have g1 : b.grownBy w' (some c) := grown_row S.gr hG (fun g hg => own_ge S.row g hg)
  have c1' : Cursor w' c A len cap := S.c0.back S.cur g1 (hG.block c hblk.lt (Ne.symm nc))
  have g2 := grown_set_new g1 (p := ⟨x, 3, none⟩) S.bx (.slice A2 (n + 1) c2)
  refine ⟨A2, c2, rfl, S.c0, S.br, S.bx, S.rx, S.c0.back c1' g2 (Below.heap_setCell _ _ _ c (by simp; omega)), g2, k1.other (by simpa using S.rx) _, k2.put 3 _, ?_⟩
  have e : isCells (zs ++ [p]) = isCells zs ++ [.int .i64 p] := by simp [isCells]
  rw [e]
  exact hO.kept (grown_set w' ⟨x, 3, none⟩ _) (.inr (own_type hO k2 (by decide)))

/-- The node laid into the result. -/
theorem NdSt.fin (S : NdSt b wx c A len cap r x k a bb A1 n c1 zs) {wf : World} (hw : (((wx.setCell ⟨r, 0, none⟩ (.int .i64 k)).setCell ⟨r, 1, none⟩ (.int .i64 a)).setCell ⟨r, 2, none⟩ (.int .i64 bb)).setCell ⟨r, 3, none⟩ (.slice A1 n c1) = wf) :
    Blk wf r 46 #[.int .i64 k, .int .i64 a, .int .i64 bb, .slice A1 n c1] ∧ wf.ownsRow b.heap.size 3 1 (.slice A1 n c1) n (isCells zs) ∧ Cursor wf c A len cap ∧ b.grownBy wf (some c) := by
  have h := S.cr
  have k1 := (((S.kr.put 0 (.int .i64 k)).put 1 (.int .i64 a)).put 2 (.int .i64 bb)).put 3 (.slice A1 n c1)
  have g := grown_set_new (grown_set_new (grown_set_new (grown_set_new S.gr (p := ⟨r, 0, none⟩) S.br (.int .i64 k)) (p := ⟨r, 1, none⟩) S.br (.int .i64 a)) (p := ⟨r, 2, none⟩) S.br (.int .i64 bb)) (p := ⟨r, 3, none⟩) S.br (.slice A1 n c1)
  have o0 := S.row.kept (grown_set wx ⟨r, 0, none⟩ (.int .i64 k)) (.inr (own_type S.row S.kr (by decide)))
  have o1 := o0.kept (grown_set _ ⟨r, 1, none⟩ (.int .i64 a)) (.inr (own_type o0 (S.kr.put 0 _) (by decide)))
  have o2 := o1.kept (grown_set _ ⟨r, 2, none⟩ (.int .i64 bb)) (.inr (own_type o1 ((S.kr.put 0 _).put 1 _) (by decide)))
  have o3 := o2.kept (grown_set _ ⟨r, 3, none⟩ (.slice A1 n c1)) (.inr (own_type o2 (((S.kr.put 0 _).put 1 _).put 2 _) (by decide)))
  rw [hw] at k1 g o3
  refine ⟨k1, o3, S.c0.back S.cur g ?_, g⟩
  rw [← hw]
  exact (Below.heap_setCell _ _ _ c (by simp; omega)).trans ((Below.heap_setCell _ _ _ c (by simp; omega)).trans ((Below.heap_setCell _ _ _ c (by simp; omega)).trans (Below.heap_setCell _ _ _ c (by simp; omega))))

end Go.Proofs.Ytbbagpnjjjohpaa.hexes

