/-
  The program's Improve: the contract of impl.Improve.
  Fixpoint's state; a list of cells read from memory.
  Cells that came into a law: what its walk is told of them.
  A row's capacity is not below its length.
  What the walks of chapter 9's exact laws take: a boxed cell and rows kept through writes.
-/
import Derived.Test.YtbbagpnjjjohpaaJ41
import Derived.Test.YtbbagpnjjjohpaaJ28
import Derived.Test.YtbbagpnjjjohpaaJ16
import Derived.Test.YtbbagpnjjjohpaaJ17
import Derived.Deep.Slices
import Derived.ChangeSame
import Derived.OpenShut
import Derived.Lib.SmallJoins
import Derived.Test.YtbbagpnjjjohpaaJ1
import Derived.Test.YtbbagpnjjjohpaaJ18

namespace Go.Proofs.Ytbbagpnjjjohpaa.hexes
open Go.RowKit

set_option maxRecDepth 1000000 in
set_option maxHeartbeats 8000000 in
theorem implImp_any (gs : List Nd) (wk cp : Int) (A : Option Addr) (n c : Nat) (hl : gs.length = n) (ho : ∀ x ∈ gs, x.2.2.2.length ≤ 1048576) (hn : n ≤ 1048576) (ces : List Ce) (A2 : Option Addr) (n2 c2 : Nat) (hl2 : ces.length = n2) (hA2 : A2 = none → c2 = 0) (hc2 : n2 ≤ c2) (hn2 : n2 ≤ 2000000) (x0 x1 x2 x3 : Int) (w : World) (h : Nds w A gs) (h2 : Ces w A2 ces) :
    Calls Try.prog 21 #[.agg #[.slice A n c, .int .i64 wk, .int .i64 cp], .slice A2 n2 c2, .agg #[.int .i64 x0, .int .i64 x1, .int .i64 x2, .int .i64 x3]] w (ImpEnd w (impG gs wk cp ces (x0, x1, x2, x3))) := by
  obtain ⟨q, hq⟩ : ∃ q, impG gs wk cp ces (x0, x1, x2, x3) = q := ⟨_, rfl⟩
  obtain ⟨on, hon⟩ : ∃ q, (impB gs wk cp (x0, x1, x2, x3) && (recL ces (x0, x1, x2, x3)).2) = q := ⟨_, rfl⟩
  have IV := Lib.hid (fun W hb => implImv_any gs wk cp A n c hl ho hn ces A2 n2 c2 hl2 hA2 hc2 hn2 x0 x1 x2 x3 W (h.below (show Below w.heap.size w W from hb)) (h2.below hb))
  rw [hq, hon] at IV
  rw [hq]
  clear hq hon h h2 hl ho hl2 hA2
  obtain ⟨V, hW⟩ : ∃ z, ((w.alloc (.cells #[.slice A n c, .int .i64 wk, .int .i64 cp] 26)).alloc (.cells #[.int .i64 x0, .int .i64 x1, .int .i64 x2, .int .i64 x3] 38)) = z := ⟨_, rfl⟩
  have hb : Below w.heap.size w V := by rw [← hW]; exact (((Below.refl _ _).alloc (by first | (simp; done) | (simp; omega) | omega) _).alloc (by first | (simp; done) | (simp; omega) | omega) _)
  have az : V.heap.size = w.heap.size + 2 := by rw [← hW]; simp
  have NG := Lib.hid (show Blk V (w.heap.size) 26 #[.slice A n c, .int .i64 wk, .int .i64 cp] by rw [← hW]; exact ((Below.heap_alloc _ _ _ (by first | (simp; done) | (simp; omega))).trans (Blk.new _ _ _)))
  have NX := Lib.hid (show Blk V (w.heap.size + 1) 38 #[.int .i64 x0, .int .i64 x1, .int .i64 x2, .int .i64 x3] by rw [← hW]; exact ((show w.heap.size + 1 = ((w.alloc _)).heap.size by simp) ▸ Blk.new _ _ _))
  have AZV := Lib.hid az
  clear az
  have sz1 := hb.size
  have B1 := Lib.hid (hb)
  clear hb
  have G_1 := NG
  clear NG
  have ltG : w.heap.size < V.heap.size := G_1.out.lt
  have X_1 := NX
  clear NX
  have ltX : w.heap.size + 1 < V.heap.size := X_1.out.lt
  go_enter Try.func21, Try.ntmps21
  have xG0 : V.cell? ⟨w.heap.size, 0, none⟩ = some (.slice A n c) := by rw [G_1.out.cell]; rfl
  have xG1 : V.cell? ⟨w.heap.size, 1, none⟩ = some (.int .i64 wk) := by rw [G_1.out.cell]; rfl
  have xG2 : V.cell? ⟨w.heap.size, 2, none⟩ = some (.int .i64 cp) := by rw [G_1.out.cell]; rfl
  have xX0 : V.cell? ⟨w.heap.size + 1, 0, none⟩ = some (.int .i64 x0) := by rw [X_1.out.cell]; rfl
  have xX1 : V.cell? ⟨w.heap.size + 1, 1, none⟩ = some (.int .i64 x1) := by rw [X_1.out.cell]; rfl
  have xX2 : V.cell? ⟨w.heap.size + 1, 2, none⟩ = some (.int .i64 x2) := by rw [X_1.out.cell]; rfl
  have xX3 : V.cell? ⟨w.heap.size + 1, 3, none⟩ = some (.int .i64 x3) := by rw [X_1.out.cell]; rfl
  go_wp2_with fail
  clear hW xG0 xG1 xG2 xX0 xX1 xX2 xX3
  refine (IV.out _ B1.out).mono ?_
  rintro e w5 ⟨A3, c3, m3, A4, c4, m4, h3, h4, rfl, r3, r4, ap, hb⟩
  have R3 := Lib.hid r3
  have R4 := Lib.hid r4
  have H3 := Lib.hid h3
  have H4 := Lib.hid h4
  have AP := Lib.hid ap
  have BE := Lib.hid (below_chain B1.out hb)
  have BS := Lib.hid B1.out.size
  clear r3 r4 h3 h4 ap hb
  go_wp2
  exact bodyPost_ret (v := .tuple #[.slice A3 m3 c3, .slice A4 m4 c4]) (by simp [results, Try.results21, go_sem]) rfl ⟨A3, c3, m3, A4, c4, m4, H3.out, H4.out, rfl, R3.out.bounds BS.out (Nat.le_refl _), R4.out.bounds BS.out (Nat.le_refl _), AP.out, BE.out⟩
end Go.Proofs.Ytbbagpnjjjohpaa.hexes

namespace Go.Proofs.Ytbbagpnjjjohpaa.hexes
open Go.RowKit

theorem Wce.keptV {w w' : World} {lo hi n c lo2 hi2 : Nat} {A A' : Option Addr} {zs : List Ce} (h : Wce w lo hi A n c zs) (gr : ToV w w' lo2 hi2 38 4 A') (hd : ApartC A' A) : Wce w' lo hi A n c zs := by
  refine ⟨h.1, h.2.1, h.2.2.imp id ?_⟩
  rintro ⟨g, k, pre, hA, hk, hlt, ho⟩
  exact ⟨g, k, pre, hA, hk, hlt, gr.apart ho fun g2 o hA2 e => hd g2 o (k * 4) hA2 (by rw [hA]; simp only [Value.ownBlock, Option.some.injEq] at e; rw [e])⟩
theorem Wce.lt {w : World} {lo hi n c : Nat} {A : Option Addr} {zs : List Ce} (h : Wce w lo hi A n c zs) (hc : 0 < c) : ∃ g o, A = some ⟨g, o, none⟩ ∧ g < hi := by
  rcases h.2.2 with ⟨_, h0⟩ | ⟨g, k, pre, hA, _, hlt, _⟩
  · omega
  · exact ⟨g, _, hA, hlt⟩
/-- What Fixpoint keeps. -/
structure FixSt (w wr : World) (gs : List Nd) (wk cp : Int) (A : Option Addr) (n c : Nat) (A3 : Option Addr) (m3 c3 : Nat) (best : List Ce) (A4 : Option Addr) (m4 c4 : Nat) (xs : List Ce) : Prop where
  b : Wce wr w.heap.size wr.heap.size A3 m3 c3 best
  l : Wce wr w.heap.size wr.heap.size A4 m4 c4 xs
  g : Blk wr w.heap.size 26 #[.slice A n c, .int .i64 wk, .int .i64 cp]
  bel : Below w.heap.size w wr
  n0 : Nds w A gs
section
variable {w wr w' : World} {gs : List Nd} {wk cp : Int} {A : Option Addr} {n c : Nat} {A3 : Option Addr} {m3 c3 : Nat} {best : List Ce} {A4 : Option Addr} {m4 c4 : Nat} {xs : List Ce}
theorem FixSt.fresh (h : FixSt w wr gs wk cp A n c A3 m3 c3 best A4 m4 c4 xs) (hb : Below wr.heap.size wr w') : FixSt w w' gs wk cp A n c A3 m3 c3 best A4 m4 c4 xs :=
  ⟨(h.b.below hb).bounds (Nat.le_refl _) hb.size, (h.l.below hb).bounds (Nat.le_refl _) hb.size, h.g.below hb, below_chain h.bel hb, h.n0⟩
theorem FixSt.nds (h : FixSt w wr gs wk cp A n c A3 m3 c3 best A4 m4 c4 xs) : Nds wr A gs := h.n0.below h.bel
end
/-- What a round's call reads. -/
structure FixHeld (V : World) (g : Nat) (A : Option Addr) (n c : Nat) (wk cp : Int) (b o : Nat) (p0 p1 p2 p3 : Int) (w : World) : Prop where
  g0 : w.cell? ⟨g, 0, none⟩ = some (.slice A n c)
  g1 : w.cell? ⟨g, 1, none⟩ = some (.int .i64 wk)
  g2 : w.cell? ⟨g, 2, none⟩ = some (.int .i64 cp)
  c0 : w.cell? ⟨b, o, none⟩ = some (.int .i64 p0)
  c1 : w.cell? ⟨b, o + 1, none⟩ = some (.int .i64 p1)
  c2 : w.cell? ⟨b, o + 2, none⟩ = some (.int .i64 p2)
  c3 : w.cell? ⟨b, o + 3, none⟩ = some (.int .i64 p3)
  bel : Below V.heap.size V w
theorem FixHeld.below {V : World} {g : Nat} {A : Option Addr} {n c : Nat} {wk cp : Int} {b o : Nat} {p0 p1 p2 p3 : Int} {w w' : World} (h : FixHeld V g A n c wk cp b o p0 p1 p2 p3 w) (hb : Below w.heap.size w w') : FixHeld V g A n c wk cp b o p0 p1 p2 p3 w' :=
  ⟨below_keep hb h.g0, below_keep hb h.g1, below_keep hb h.g2, below_keep hb h.c0, below_keep hb h.c1, below_keep hb h.c2, below_keep hb h.c3, below_chain h.bel hb⟩
theorem FixSt.held {w wr : World} {gs : List Nd} {wk cp : Int} {A : Option Addr} {n c : Nat} {A3 : Option Addr} {m3 c3 : Nat} {best : List Ce} {A4 : Option Addr} {m4 c4 : Nat} {xs : List Ce} {p0 p1 p2 p3 : Int} (h : FixSt w wr gs wk cp A n c A3 m3 c3 best A4 m4 c4 ((p0, p1, p2, p3) :: xs)) : ∃ b o, A4 = some ⟨b, o, none⟩ ∧ FixHeld wr w.heap.size A n c wk cp b o p0 p1 p2 p3 wr := by
  obtain ⟨b, o, q0, q1, q2, q3, hA, hq, h0, h1, h2, h3⟩ := h.l.ce.at (k := 0) (by simp)
  simp only [List.getElem_cons_zero, Prod.mk.injEq] at hq
  obtain ⟨rfl, rfl, rfl, rfl⟩ := hq
  simp only [Nat.zero_mul, Nat.add_zero] at h0 h1 h2 h3
  exact ⟨b, o, hA, by rw [h.g.cell]; rfl, by rw [h.g.cell]; rfl, by rw [h.g.cell]; rfl, h0, h1, h2, h3, Below.refl _ _⟩
end Go.Proofs.Ytbbagpnjjjohpaa.hexes

namespace Go.Proofs.Ytbbagpnjjjohpaa.hexes
open Go.RowKit Go.ChangeShapes Go.WideShapes Go.Deep Go.Joins

/-- All its numbers are of 64 bits. -/
def wfCe (z : Ce) : Prop := (Lit.int .i64 z.1).wf = true ∧ (Lit.int .i64 z.2.1).wf = true ∧ (Lit.int .i64 z.2.2.1).wf = true ∧ (Lit.int .i64 z.2.2.2).wf = true
/-- WHAT THE WALK IS TOLD OF A LIST THAT CAME IN. -/
structure IsCes (w : World) (a : Option Addr) (n : Nat) (zs : List Ce) : Prop where
  len : zs.length = n
  max : n ≤ maxLen
  ces : Ces w a zs
  wf : ∀ z ∈ zs, wfCe z

theorem addr_add_ce (b off : Nat) (j : Nat) : (Addr.add ⟨b, off, none⟩ j) = ⟨b, off + j, none⟩ := by unfold Addr.add; split <;> simp_all

theorem ce_cells {H : Type} {enc : TypeId × Value → H} {W : World} {base : Nat} {sp : Nat → Bool} {held : Bool} {fuel : Nat} {cs : List Value} {x : DataW H × List MemPlace}
    (h : DataW.trod enc Try.prog W base sp held fuel 59 cs = some x) : ∃ p0 p1 p2 p3 : Int, cs = [.int .i64 p0, .int .i64 p1, .int .i64 p2, .int .i64 p3] ∧ (Lit.int .i64 p0).wf = true ∧ (Lit.int .i64 p1).wf = true ∧ (Lit.int .i64 p2).wf = true ∧ (Lit.int .i64 p3).wf = true := by
  have ce_int : Try.prog.cellsOf 3 = 1 := by kernel_rfl
  have ce : Try.prog.cellsOf 59 = 4 := by kernel_rfl
  have hlen : cs.length = 4 := by
    obtain ⟨_, _, _, _, hl, _⟩ := DataW.trod_struct Try.underlying59 h
    rw [ce] at hl
    exact hl
  obtain ⟨v0, v1, v2, v3, rfl⟩ : ∃ v0 v1 v2 v3, cs = [v0, v1, v2, v3] := by
    rcases cs with _ | ⟨u0, _ | ⟨u1, _ | ⟨u2, _ | ⟨u3, _ | ⟨u4, us⟩⟩⟩⟩⟩
    · simp at hlen
    · simp at hlen
    · simp at hlen
    · simp at hlen
    · exact ⟨u0, u1, u2, u3, rfl⟩
    · simp at hlen
  obtain ⟨xs_1, k_1, _, _, hl_1, hxl_1, hf_1⟩ := DataW.trod_struct Try.underlying59 h
  have hxl2_1 : xs_1.length = 4 := hxl_1
  clear hxl_1 hl_1
  obtain ⟨y_1_0, y_1_1, y_1_2, y_1_3, rfl⟩ : ∃ y_1_0 y_1_1 y_1_2 y_1_3, xs_1 = [y_1_0, y_1_1, y_1_2, y_1_3] := by
    rcases xs_1 with _ | ⟨z0, _ | ⟨z1, _ | ⟨z2, _ | ⟨z3, _ | ⟨z4, zs⟩⟩⟩⟩⟩
    · simp at hxl2_1
    · simp at hxl2_1
    · simp at hxl2_1
    · simp at hxl2_1
    · exact ⟨z0, z1, z2, z3, rfl⟩
    · simp at hxl2_1
  have g_1_0 := hf_1 0 _ rfl
  have g_1_1 := hf_1 1 _ rfl
  have g_1_2 := hf_1 2 _ rfl
  have g_1_3 := hf_1 3 _ rfl
  simp [ce_int] at g_1_0 g_1_1 g_1_2 g_1_3
  clear hf_1
  obtain ⟨p0, e0, _, w0⟩ := DataW.trod_int Try.underlying3 g_1_0
  simp only [List.cons.injEq, and_true] at e0
  obtain ⟨p1, e1, _, w1⟩ := DataW.trod_int Try.underlying3 g_1_1
  simp only [List.cons.injEq, and_true] at e1
  obtain ⟨p2, e2, _, w2⟩ := DataW.trod_int Try.underlying3 g_1_2
  simp only [List.cons.injEq, and_true] at e2
  obtain ⟨p3, e3, _, w3⟩ := DataW.trod_int Try.underlying3 g_1_3
  simp only [List.cons.injEq, and_true] at e3
  exact ⟨p0, p1, p2, p3, by rw [e0, e1, e2, e3], w0, w1, w2, w3⟩

theorem isCes_of_trod {H : Type} {enc : TypeId × Value → H} {W : World} {fuel len cap : Nat} {a : Option Addr} {x : DataW H × List MemPlace}
    (h : DataW.trod enc Try.prog W 0 (fun _ => true) true fuel 58 [.slice a len cap] = some x) : ∃ zs, IsCes W a len zs := by
  rcases open_slice Try.underlying58 h with ⟨hcs, _⟩ | ⟨ad, l, c, m, n, D, Pl, hcs, _, hl, hm, hmm, _, hc⟩
  · simp only [List.cons.injEq, Value.slice.injEq, and_true] at hcs
    obtain ⟨rfl, rfl, rfl⟩ := hcs
    exact ⟨[], rfl, Nat.zero_le _, (fun h => absurd h (by simp)), fun z hz => by cases hz⟩
  · simp only [List.cons.injEq, Value.slice.injEq, and_true] at hcs
    obtain ⟨rfl, rfl, rfl⟩ := hcs
    simp only [if_true] at hmm
    subst hmm
    have ce : Try.prog.cellsOf 59 = 4 := by kernel_rfl
    have key : ∀ i, i < len → ∃ p0 p1 p2 p3 : Int, (W.cell? (ad.add (i * 4)) = some (.int .i64 p0) ∧ W.cell? (ad.add (i * 4 + 1)) = some (.int .i64 p1) ∧ W.cell? (ad.add (i * 4 + 2)) = some (.int .i64 p2) ∧ W.cell? (ad.add (i * 4 + 3)) = some (.int .i64 p3)) ∧ (Lit.int .i64 p0).wf = true ∧ (Lit.int .i64 p1).wf = true ∧ (Lit.int .i64 p2).wf = true ∧ (Lit.int .i64 p3).wf = true := fun i hi => by
      obtain ⟨cs', h1, h2⟩ := hc i (by omega)
      rw [ce] at h1
      obtain ⟨_, hlen, hcell⟩ := World.cells?_some h1
      obtain ⟨p0, p1, p2, p3, rfl, hw⟩ := ce_cells h2
      have e0 := hcell 0 (by omega)
      have e1 := hcell 1 (by omega)
      have e2 := hcell 2 (by omega)
      have e3 := hcell 3 (by omega)
      rw [add_add] at e0 e1 e2 e3
      exact ⟨p0, p1, p2, p3, ⟨by simpa using e0, by simpa using e1, by simpa using e2, by simpa using e3⟩, hw⟩
    have spot : 0 < len → ad = ⟨ad.block, ad.off, none⟩ := fun hp => by
      obtain ⟨p0, p1, p2, p3, ⟨h0, _⟩, _⟩ := key 0 hp
      have : ad.spot = none := by simpa [Addr.add] using World.cell?_spot h0
      cases ad; simp_all
    have build : ∀ k, k ≤ len → ∃ zs : List Ce, zs.length = k ∧ (∀ j, (h : j < zs.length) → W.cell? (ad.add (j * 4)) = some (.int .i64 zs[j].1) ∧ W.cell? (ad.add (j * 4 + 1)) = some (.int .i64 zs[j].2.1) ∧ W.cell? (ad.add (j * 4 + 2)) = some (.int .i64 zs[j].2.2.1) ∧ W.cell? (ad.add (j * 4 + 3)) = some (.int .i64 zs[j].2.2.2)) ∧ ∀ z ∈ zs, wfCe z := by
      intro k
      induction k with
      | zero => exact fun _ => ⟨[], rfl, fun j h => absurd h (by simp), fun z hz => by cases hz⟩
      | succ k ih =>
        intro hk
        obtain ⟨zs, hl', hz, hwz⟩ := ih (by omega)
        obtain ⟨p0, p1, p2, p3, hcc, hw⟩ := key k (by omega)
        refine ⟨zs ++ [(p0, p1, p2, p3)], by simp [hl'], fun j hj => ?_, fun z hz => ?_⟩
        · by_cases hj2 : j < zs.length
          · rw [List.getElem_append_left hj2]
            exact hz j hj2
          · have hjk : j = k := by simp at hj; omega
            subst hjk
            rw [List.getElem_append_right (by omega)]
            simp only [hl', Nat.sub_self, List.getElem_cons_zero]
            exact hcc
        · rcases List.mem_append.1 hz with h' | h'
          · exact hwz z h'
          · simp only [List.mem_singleton] at h'
            subst h'
            exact hw
    obtain ⟨zs, hl', hz, hwz⟩ := build len (Nat.le_refl _)
    refine ⟨zs, hl', Nat.le_trans hl hm, fun hp => ?_, hwz⟩
    have hs := spot (by omega)
    refine ⟨ad.block, ad.off, by rw [← hs], ?_, fun j hj => ?_⟩
    · have h0 := (hz 0 (by omega)).1
      rw [hs, addr_add_ce] at h0
      exact World.block_lt_of_cell? W ⟨ad.block, ad.off + 0 * 4, none⟩ h0
    · obtain ⟨h0, h1, h2, h3⟩ := hz j hj
      rw [hs, addr_add_ce] at h0 h1 h2 h3
      exact ⟨h0, by rw [Nat.add_assoc]; exact h1, by rw [Nat.add_assoc]; exact h2, by rw [Nat.add_assoc]; exact h3⟩
end Go.Proofs.Ytbbagpnjjjohpaa.hexes

namespace Go.Proofs.Ytbbagpnjjjohpaa.hexes
open Go.RowKit
theorem Row.cap {w : World} {lo hi e size n c : Nat} {A : Option Addr} {xs : List Value} (h : Row w lo hi e size A n c xs) : n ≤ c := by
  rcases h.own.2 with ⟨h0, rfl⟩ | ⟨g, cap, cur, hv, _, _, hnc, _⟩
  · exact Nat.zero_le _
  · simp only [Value.slice.injEq, true_and] at hv
    obtain ⟨_, rfl⟩ := hv
    exact hnc
end Go.Proofs.Ytbbagpnjjjohpaa.hexes

namespace Go.Proofs.Ytbbagpnjjjohpaa.hexes
open Go.RowKit

theorem ces_drew {w : World} {A : Option Addr} {zs : List Ce} (h : Ces w A zs) : Ces w.drew A zs := h
theorem XB.wrote {w w' : World} {b : Nat} {x0 x1 x2 x3 : Int} {lo hi : Nat} (h : XB b x0 x1 x2 x3 w) (hw : Wrote w w' lo hi) (hd : b < lo ∨ hi ≤ b) : XB b x0 x1 x2 x3 w' := by
  obtain ⟨row, hg, hr⟩ := hw
  exact h.grown hg (fun e => by have := hr b e; omega)
theorem Row.base {w : World} {lo lo' hi e size n c : Nat} {A : Option Addr} {xs : List Value} (h : Row w lo hi e size A n c xs) (hl : lo' ≤ lo) : Row w lo' hi e size A n c xs := ⟨own_base h.own hl, h.lt⟩
end Go.Proofs.Ytbbagpnjjjohpaa.hexes

