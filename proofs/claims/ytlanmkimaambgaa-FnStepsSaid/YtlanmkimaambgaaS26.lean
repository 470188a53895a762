/-
  What a step of the reference keeps.
  The program's StepOp: the contract of impl.StepOp.
  A row's capacity is not below its length.
  What chapter 10's laws use of a step's results: two rows out of one call.
  A step of the program as two rows.
  A statement of spec.StepOp: its operations, and a theorem a step.
-/
import Derived.Test.YtlanmkimaambgaaS6
import Derived.Test.YtlanmkimaambgaaS8
import Derived.Test.YtlanmkimaambgaaS24
import Derived.Test.YtlanmkimaambgaaS25
import Derived.Test.YtlanmkimaambgaaS4
import Derived.Test.YtlanmkimaambgaaS9
import Derived.Test.YtlanmkimaambgaaS20
import Derived.Test.YtlanmkimaambgaaS15
import Derived.Test.YtlanmkimaambgaaS1
import Derived.Test.YtlanmkimaambgaaS7
import Derived.Test.YtlanmkimaambgaaS11

namespace Go.Proofs.Ytlanmkimaambgaa.hexes
open Go.RowKit

/-- Whether Changed lets a record go on; whether its node remembers. -/
def goX (gs : List Nd) (r : Rc) : Bool := chgO (okX (nodeAt gs r.1) r) (nodeAt gs r.1).1 (nodeAt gs r.1).2.1 (nodeAt gs r.1).2.2.1 r.2.2.1
def remX (gs : List Nd) (t : Int) : Bool := remB (nodeAt gs t).1
/-- How a step ends. -/
def StepEnd (w : World) (q : (List Ce × List Rc) × Bool) (e : Ending) (w' : World) : Prop :=
  ∃ (A3 : Option Addr) (c3 m3 : Nat) (A4 : Option Addr) (c4 m4 : Nat), q.1.1.length = m3 ∧ q.1.2.length = m4 ∧ e = .returned (.tuple #[.slice A3 m3 c3, .slice A4 m4 c4, .bool q.2]) ∧ w'.ownsRow w.heap.size 75 4 (.slice A3 m3 c3) m3 (ceCells q.1.1) ∧ w'.ownsRow w.heap.size 31 5 (.slice A4 m4 c4) m4 (rcCells q.1.2) ∧ Below w.heap.size w w'
theorem specRcOkG_is {p0 p1 p2 p3 p4 : Int} {b : Bool} (h : okRc (p0, (p1, p2), p3, p4) = b) (w : World) : Calls Try.prog 14 #[.agg #[.int .i64 p0, .int .i64 p1, .int .i64 p2, .int .i64 p3, .int .i64 p4]] w fun e w' => e = .returned (.bool b) ∧ Below w.heap.size w w' := by
  subst h; exact specRcOk_any _ _ _ _ _ w
theorem specRemG_is {k : Int} {b : Bool} (h : remB k = b) (w : World) : Calls Try.prog 44 #[.int .i64 k] w fun e w' => e = .returned (.bool b) ∧ Below w.heap.size w w' := by
  subst h; exact (specRem_any k w).mono fun _ _ h => ⟨h.1, by first | exact h.2 | exact h.2 ▸ Below.refl _ _⟩
theorem specRecG_row {kd : Int} {n m : Nat} {zs us : List Ce} {A : Option Addr} {c : Nat} {b : Bool} {x0 x1 x2 x3 : Int} (hz : zs.length = n) (hA : A = none → c = 0) (hc : n ≤ c) (hn : n ≤ 2000000) (hr : recC kd zs (x0, x1, x2, x3) = (us, b)) (hm : us.length = m) (w : World) (h : Ces w A zs) :
    Calls Try.prog 45 #[.int .i64 kd, .slice A n c, .agg #[.int .i64 x0, .int .i64 x1, .int .i64 x2, .int .i64 x3]] w fun e w' => ∃ A1 c1, e = .returned (.tuple #[.slice A1 m c1, .bool b]) ∧ Row w' w.heap.size w'.heap.size 75 4 A1 m c1 (ceCells us) ∧ Below w.heap.size w w' := by
  subst hm
  refine (specRec_any kd n zs hz A c hA hc x0 x1 x2 x3 w h hn).mono ?_
  rintro e w' ⟨v, he, ho, hb⟩
  rw [hr] at he ho
  obtain ⟨A1, c1, rfl, r⟩ := row_of ho
  exact ⟨A1, c1, he, r, hb⟩

/-- What the emitting loop reads. -/
structure StepHeld (nb m cn bz oz j : Nat) (z : Int) (tb : Nat) (s0 s1 : Int) (w : World) : Prop where
  c3 : w.cell? ⟨nb, 3, none⟩ = some (.slice (some ⟨bz, oz, none⟩) m cn)
  e : w.cell? ⟨bz, oz + j, none⟩ = some (.int .i64 z)
  t0 : w.cell? ⟨tb, 0, none⟩ = some (.int .i64 s0)
  t1 : w.cell? ⟨tb, 1, none⟩ = some (.int .i64 s1)
  tr : True
theorem StepHeld.below {nb m cn bz oz j : Nat} {z : Int} {tb : Nat} {s0 s1 : Int} {w w' : World} (h : StepHeld nb m cn bz oz j z tb s0 s1 w) (hb : Below w.heap.size w w') : StepHeld nb m cn bz oz j z tb s0 s1 w' :=
  ⟨below_keep hb h.c3, below_keep hb h.e, below_keep hb h.t0, below_keep hb h.t1, trivial⟩
/-- What the emitting loop keeps from round to round. -/
structure StepSt (w wr : World) (bO bS bZ nb tb : Nat) (As : Option Addr) (ms cs : Nat) (us : List Ce) (An : Option Addr) (m cn : Nat) (zs : List Int) (k a b s0 s1 : Int) (AO : Option Addr) (j cO : Nat) (out : List Rc) : Prop where
  o : wr.ownsRow bO 31 5 (.slice AO j cO) j (rcCells out)
  s : wr.ownsRow bS 75 4 (.slice As ms cs) ms (ceCells us)
  z : wr.ownsRow bZ 3 1 (.slice An m cn) m (isCells zs)
  n : Blk wr nb 42 #[.int .i64 k, .int .i64 a, .int .i64 b, .slice An m cn]
  t : Blk wr tb 29 #[.int .i64 s0, .int .i64 s1]
  wo : w.heap.size ≤ bO
  ws : w.heap.size ≤ bS
  ob : bO ≤ tb
  sz : tb ≤ wr.heap.size
  bel : Below w.heap.size w wr
variable {w wr w' : World} {bO bS bZ nb tb ms cs m cn j cO : Nat} {As An AO : Option Addr} {us : List Ce} {zs : List Int} {k a b s0 s1 : Int} {out : List Rc}
theorem StepSt.fresh (h : StepSt w wr bO bS bZ nb tb As ms cs us An m cn zs k a b s0 s1 AO j cO out) (hb : Below wr.heap.size wr w') : StepSt w w' bO bS bZ nb tb As ms cs us An m cn zs k a b s0 s1 AO j cO out :=
  ⟨own_below h.o hb, own_below h.s hb, own_below h.z hb, h.n.below hb, h.t.below hb, h.wo, h.ws, h.ob, Nat.le_trans h.sz hb.size, below_chain h.bel hb⟩
theorem StepSt.app (h : StepSt w wr bO bS bZ nb tb As ms cs us An m cn zs k a b s0 s1 AO j cO out) {r : Rc} {v : Value} (ho : w'.ownsRow bO 31 5 v (j + 1) (rcCells (out ++ [r]))) (gr : wr.grownBy w' (Value.slice AO j cO).ownBlock) :
    ∃ A' c', v = .slice A' (j + 1) c' ∧ StepSt w w' bO bS bZ nb tb As ms cs us An m cn zs k a b s0 s1 A' (j + 1) c' (out ++ [r]) := by
  obtain ⟨A', c', rfl, _⟩ := own_form ho
  exact ⟨A', c', rfl, ho, h.s.kept gr (own_types h.s h.o (by decide)), h.z.kept gr (own_types h.z h.o (by decide)), h.n.grown gr (Ne.symm (own_type h.o h.n (by decide))), h.t.grown gr (Ne.symm (own_type h.o h.t (by decide))), h.wo, h.ws, h.ob, Nat.le_trans h.sz gr.size, h.bel.grown gr h.bel.size (fun g hg => Nat.le_trans h.wo (own_ge h.o g hg))⟩
theorem StepSt.at (h : StepSt w wr bO bS bZ nb tb As ms cs us An m cn zs k a b s0 s1 AO j cO out) : zs.length = m ∧ Ints wr An zs := by
  obtain ⟨A', c', he, hl, hs⟩ := Ints.of_own h.z
  simp only [Value.slice.injEq, true_and] at he
  obtain ⟨rfl, rfl⟩ := he
  exact ⟨hl, hs⟩
theorem StepSt.held (h : StepSt w wr bO bS bZ nb tb As ms cs us An m cn zs k a b s0 s1 AO j cO out) {bz oz i : Nat} {z : Int} (hi : i < zs.length) (hA : An = some ⟨bz, oz, none⟩) (hz : zs[i] = z) : StepHeld nb m cn bz oz i z tb s0 s1 wr := by
  obtain ⟨bz', oz', p, hA', hp, hc⟩ := h.at.2.at hi
  rw [hA] at hA'
  simp only [Option.some.injEq, Addr.mk.injEq, and_true] at hA'
  obtain ⟨rfl, rfl⟩ := hA'
  rw [hz] at hp
  subst hp
  exact ⟨by rw [h.n.cell, hA]; rfl, hc, by rw [h.t.cell]; rfl, by rw [h.t.cell]; rfl, trivial⟩
/-- How a step ends, from the loop's state. -/
theorem StepSt.done (h : StepSt w wr bO bS bZ nb tb As ms cs us An m cn zs k a b s0 s1 AO j cO out) {q : (List Ce × List Rc) × Bool} (hq : q = ((us, out), true)) : StepEnd w q (.returned (.tuple #[.slice As ms cs, .slice AO j cO, .bool true])) wr := by
  subst hq
  have h1 := h.s.1
  have h2 := h.o.1
  rw [ceCells_length] at h1
  rw [rcCells_length] at h2
  exact ⟨As, cs, ms, AO, cO, j, by show us.length = ms; omega, by show out.length = j; omega, rfl, own_base h.s h.ws, own_base h.o h.wo, h.bel⟩
end Go.Proofs.Ytlanmkimaambgaa.hexes

namespace Go.Proofs.Ytlanmkimaambgaa.hexes
open Go.RowKit

theorem stepN_mem {k a b : Int} {zs : List Int} {ky vy : Int} {ces us : List Ce} {r : Rc} {on : Bool} (hr : remB k = true) (hrc : recC k ces (r.1, r.2.1.1, r.2.2.1, r.2.2.2) = (us, on)) :
    stepNd (k, a, b, zs) ky vy (chgO true k a b r.2.2.1) ces r = ((us, if on = true then emitL zs r.2.1 ky vy else []), true) := by
  have h7 : k ≠ 7 := by rintro rfl; exact absurd hr (by decide)
  have hg : ¬(chgO true k a b r.2.2.1 = false ∧ k ≠ 8) := by
    rintro ⟨h1, h8⟩
    unfold remB at hr
    unfold chgO at h1
    have h3 : k ≠ 3 := by rintro rfl; simp at hr
    rw [if_neg h3] at h1
    simp [h8] at h1
  unfold stepNd
  rw [if_neg hg]
  simp only [hr, hrc, if_true, h7, if_false]
  cases on <;> simp
theorem stepN_back {a b : Int} {zs : List Int} {ky vy : Int} {ces : List Ce} {r : Rc} :
    stepNd (7, a, b, zs) ky vy (chgO true 7 a b r.2.2.1) ces r = ((ces, if hasNext r.2.1.1 r.2.1.2 = true then emitL zs (r.2.1.1, r.2.1.2 + 1) ky vy else []), true) := by
  unfold stepNd
  have h1 : chgO true 7 a b r.2.2.1 = true := by simp [chgO]
  have h2 : remB 7 = false := by decide
  rw [if_neg (by rw [h1]; simp)]
  simp only [h2]
  cases hasNext r.2.1.1 r.2.1.2 <;> simp
theorem stepN_else {k a b : Int} {zs : List Int} {ky vy : Int} {ces : List Ce} {r : Rc} (hr : remB k = false) (hk : k ≠ 7) :
    stepNd (k, a, b, zs) ky vy (chgO true k a b r.2.2.1) ces r = ((ces, if chgO true k a b r.2.2.1 = true then emitL zs r.2.1 ky vy else []), true) := by
  have h8 : k ≠ 8 := by rintro rfl; exact absurd hr (by decide)
  unfold stepNd
  cases chgO true k a b r.2.2.1 with
  | false => simp [h8]
  | true => simp [hr, hk]
theorem stepG_no {gs : List Nd} {wk cp : Int} {ces : List Ce} {r : Rc} (h : (hasB gs r.1 && okGr gs dec1 wk cp && okRc r) = false) : stepGr gs wk cp ces r = ((ces, []), false) := by
  unfold stepGr
  rw [if_pos h]
theorem stepG_yes {gs : List Nd} {wk cp : Int} {ces : List Ce} {r : Rc} {k a b : Int} {zs : List Int} (h : (hasB gs r.1 && okGr gs dec1 wk cp && okRc r) = true) (hx : nodeAt gs r.1 = (k, a, b, zs)) :
    stepGr gs wk cp ces r = stepNd (k, a, b, zs) (chgK true k a r.2.2.1) (chgV true k a r.2.2.2) (chgO true k a b r.2.2.1) ces r := by
  have ho := okX_of h
  unfold stepGr
  rw [if_neg (by rw [h]; simp), ho, hx]

set_option maxRecDepth 1000000 in
set_option maxHeartbeats 8000000 in
theorem implStep_any (gs : List Nd) (wk cp : Int) (A : Option Addr) (n c : Nat) (hl : gs.length = n) (ho : ∀ x ∈ gs, x.2.2.2.length ≤ 1048576) (hn : n ≤ 1048576) (ces : List Ce) (A2 : Option Addr) (n2 c2 : Nat) (hl2 : ces.length = n2) (hA2 : A2 = none → c2 = 0) (_hc2 : n2 ≤ c2) (hn2 : n2 ≤ 2000000) (r0 r1 r2 r3 r4 : Int) (w : World) (h : Nds w A gs) (h2 : Ces w A2 ces) :
    Calls Try.prog 8 #[.agg #[.slice A n c, .int .i64 wk, .int .i64 cp], .slice A2 n2 c2, .agg #[.int .i64 r0, .int .i64 r1, .int .i64 r2, .int .i64 r3, .int .i64 r4]] w (StepEnd w (stepGr gs wk cp ces (r0, (r1, r2), r3, r4))) := by
  obtain ⟨⟨k, a, b, zs⟩, hx⟩ : ∃ x, nodeAt gs r0 = x := ⟨_, rfl⟩
  obtain ⟨m, hm⟩ : ∃ m, zs.length = m := ⟨_, rfl⟩
  obtain ⟨q, hq⟩ : ∃ q, stepGr gs wk cp ces (r0, (r1, r2), r3, r4) = q := ⟨_, rfl⟩
  obtain ⟨gk, hgk⟩ : ∃ q, (hasB gs r0 && okGr gs dec1 wk cp && okRc (r0, (r1, r2), r3, r4)) = q := ⟨_, rfl⟩
  rw [hq]
  have hmn : m ≤ 1048576 := by
    have h := nodeAt_few ho r0
    rw [hx] at h
    rw [← hm]
    exact h
  have HX := Lib.hid hx
  have HM := Lib.hid hm
  have HQ := Lib.hid hq
  have HGK := Lib.hid hgk
  have HL := Lib.hid hl
  have HO := Lib.hid ho
  have HL2 := Lib.hid hl2
  have HA2 := Lib.hid hA2
  have S0 := Lib.hid h
  have S2 := Lib.hid h2
  clear hx hm hq hgk hl ho hl2 hA2 h h2
  obtain ⟨V, hW⟩ : ∃ z, ((w.alloc (.cells #[.slice A n c, .int .i64 wk, .int .i64 cp] 26)).alloc (.cells #[.int .i64 r0, .int .i64 r1, .int .i64 r2, .int .i64 r3, .int .i64 r4] 31)) = z := ⟨_, rfl⟩
  have hb : Below w.heap.size w V := by rw [← hW]; exact (((Below.refl _ _).alloc (by first | (simp; done) | (simp; omega) | omega) _).alloc (by first | (simp; done) | (simp; omega) | omega) _)
  have az : V.heap.size = w.heap.size + 2 := by rw [← hW]; simp
  have NG := Lib.hid (show Blk V (w.heap.size) 26 #[.slice A n c, .int .i64 wk, .int .i64 cp] by rw [← hW]; exact ((Below.heap_alloc _ _ _ (by first | (simp; done) | (simp; omega))).trans (Blk.new _ _ _)))
  have NR := Lib.hid (show Blk V (w.heap.size + 1) 31 #[.int .i64 r0, .int .i64 r1, .int .i64 r2, .int .i64 r3, .int .i64 r4] by rw [← hW]; exact ((show w.heap.size + 1 = ((w.alloc _)).heap.size by simp) ▸ Blk.new _ _ _))
  have AZV := Lib.hid az
  clear az
  have sz1 := hb.size
  have B1 := Lib.hid (hb)
  clear hb
  have G_1 := NG
  clear NG
  have ltG : w.heap.size < V.heap.size := G_1.out.lt
  have R_1 := NR
  clear NR
  have ltR : w.heap.size + 1 < V.heap.size := R_1.out.lt
  go_enter Try.func8, Try.ntmps8
  go_wp2_with fail
  clear hW
  refine (cloneCe_any n2 ces HL2.out A2 c2 HA2.out _ (S2.out.below B1.out) (by omega)).mono ?_
  rintro e w2 ⟨vs, rfl, oS, hb⟩
  have sz2 := hb.size
  have B2 := Lib.hid (below_chain B1.out hb)
  have G_2 := Lib.hid (G_1.out.below hb)
  have R_2 := Lib.hid (R_1.out.below hb)
  clear hb B1 G_1 R_1
  obtain ⟨As, cs, rfl, rS⟩ := row_of oS
  clear oS
  have S_2 := Lib.hid rS
  clear rS
  have xG0 : w2.cell? ⟨w.heap.size, 0, none⟩ = some (.slice A n c) := by rw [G_2.out.cell]; rfl
  have xG1 : w2.cell? ⟨w.heap.size, 1, none⟩ = some (.int .i64 wk) := by rw [G_2.out.cell]; rfl
  have xG2 : w2.cell? ⟨w.heap.size, 2, none⟩ = some (.int .i64 cp) := by rw [G_2.out.cell]; rfl
  have xR0 : w2.cell? ⟨w.heap.size + 1, 0, none⟩ = some (.int .i64 r0) := by rw [R_2.out.cell]; rfl
  have xR1 : w2.cell? ⟨w.heap.size + 1, 1, none⟩ = some (.int .i64 r1) := by rw [R_2.out.cell]; rfl
  have xR2 : w2.cell? ⟨w.heap.size + 1, 2, none⟩ = some (.int .i64 r2) := by rw [R_2.out.cell]; rfl
  have xR3 : w2.cell? ⟨w.heap.size + 1, 3, none⟩ = some (.int .i64 r3) := by rw [R_2.out.cell]; rfl
  have xR4 : w2.cell? ⟨w.heap.size + 1, 4, none⟩ = some (.int .i64 r4) := by rw [R_2.out.cell]; rfl
  go_wp2_with fail
  cases gk with
  | false =>
    clear xG0 xG1 xG2 xR0 xR1 xR2 xR3 xR4
    refine (nodeFor_no gs wk cp A n c HL.out HO.out hn r0 r1 r2 r3 r4 _ (S0.out.below B2.out) HGK.out).mono ?_
    rintro e w4 ⟨rfl, hb⟩
    have sz3 := hb.size
    have B3 := Lib.hid (below_chain B2.out hb)
    have S_3 := Lib.hid (S_2.out.below hb)
    have G_3 := Lib.hid (G_2.out.below hb)
    have R_3 := Lib.hid (R_2.out.below hb)
    clear hb B2 S_2 G_2 R_2
    have HF := Lib.hid (show q = ((ces, []), false) by rw [← HQ.out]; exact stepG_no (r := (r0, (r1, r2), r3, r4)) HGK.out)
    go_wp2_with fail
    have b1 : Below w4.heap.size w4 (w4.alloc (.cells #[.int .i64 0, .int .i64 0, .int .i64 0, .slice none 0 0] 42)) := (Below.refl _ _).alloc (Nat.le_refl _) _
    have rO : ((w4.alloc (.cells #[.int .i64 0, .int .i64 0, .int .i64 0, .slice none 0 0] 42)).alloc (.cells #[] 31)).ownsRow (w4.heap.size + 1) 31 5 (.slice (some ⟨w4.heap.size + 1, 0, none⟩) 0 0) 0 [] := by
      have h := (row_lit (size := 5) (Blk.new (w4.alloc (.cells #[.int .i64 0, .int .i64 0, .int .i64 0, .slice none 0 0] 42)) 31 #[])).own
      rw [show (w4.alloc (.cells #[.int .i64 0, .int .i64 0, .int .i64 0, .slice none 0 0] 42)).heap.size = w4.heap.size + 1 by simp] at h
      exact h
    exact bodyPost_ret (v := .tuple #[.slice As n2 cs, .slice (some ⟨w4.heap.size + 1, 0, none⟩) 0 0, .bool false]) (by simp [results, Try.results8, go_sem]) rfl (by rw [HF.out]; exact ⟨As, cs, n2, _, 0, 0, HL2.out, rfl, rfl, (own_base (own_below S_3.out.own b1) (by omega)).alloc _, own_base rO (by omega), (below_chain B3.out b1).alloc (by simp; omega) _⟩)
  | true =>
    obtain ⟨⟨hb0, hg0⟩, hr0⟩ : (hasB gs r0 = true ∧ okGr gs dec1 wk cp = true) ∧ okRc (r0, (r1, r2), r3, r4) = true := by
      have h := HGK.out
      simpa only [Bool.and_eq_true] using h
    clear xG0 xG1 xG2 xR0 xR1 xR2 xR3 xR4
    refine (nodeFor_yes gs wk cp A n c HL.out HO.out hn r0 r1 r2 r3 r4 _ (S0.out.below B2.out) HX.out HM.out hb0 hg0 hr0).mono ?_
    rintro e w4 ⟨An, cn, rfl, rZ, hb⟩
    have sz3 := hb.size
    have B3 := Lib.hid (below_chain B2.out hb)
    have S_3 := Lib.hid (S_2.out.below hb)
    have G_3 := Lib.hid (G_2.out.below hb)
    have R_3 := Lib.hid (R_2.out.below hb)
    clear hb B2 S_2 G_2 R_2
    have Z_3 := Lib.hid rZ
    clear rZ
    clear hb0 hg0 hr0
    obtain ⟨ky, hK⟩ : ∃ v, chgK true k a r3 = v := ⟨_, rfl⟩
    obtain ⟨vy, hV⟩ : ∃ v, chgV true k a r4 = v := ⟨_, rfl⟩
    obtain ⟨go, hgo⟩ : ∃ v, chgO true k a b r3 = v := ⟨_, rfl⟩
    have HOK := Lib.hid (show okC k a b (dec1 a) r3 r4 zs = true by
      have h := okX_of (r := (r0, (r1, r2), r3, r4)) HGK.out
      unfold okX at h
      rw [show (nodeAt gs (((r0, (r1, r2), r3, r4) : Rc).1)) = (k, a, b, zs) from HX.out] at h
      exact h)
    have SN := Lib.hid (show q = stepNd (k, a, b, zs) ky vy go ces (r0, (r1, r2), r3, r4) by rw [← HQ.out, stepG_yes (r := (r0, (r1, r2), r3, r4)) HGK.out HX.out, ← hK, ← hV, ← hgo])
    have HK := Lib.hid hK
    have HV := Lib.hid hV
    have HGO := Lib.hid hgo
    clear hK hV hgo
    have hcn := Lib.hid (own_capS Z_3.out.own)
    obtain ⟨V4, hW⟩ : ∃ z, (w4.alloc (.cells #[.int .i64 k, .int .i64 a, .int .i64 b, .slice An m cn] 42)) = z := ⟨_, rfl⟩
    have hb : Below w4.heap.size w4 V4 := by rw [← hW]; exact ((Below.refl _ _).alloc (by first | (simp; done) | (simp; omega) | omega) _)
    have az : V4.heap.size = w4.heap.size + 1 := by rw [← hW]; simp
    have NN := Lib.hid (show Blk V4 (w4.heap.size) 42 #[.int .i64 k, .int .i64 a, .int .i64 b, .slice An m cn] by rw [← hW]; exact (Blk.new _ _ _))
    have AZV4 := Lib.hid az
    clear az
    have sz4 := hb.size
    have B4 := Lib.hid (below_chain B3.out hb)
    have S_4 := Lib.hid (S_3.out.below hb)
    have Z_4 := Lib.hid (Z_3.out.below hb)
    have G_4 := Lib.hid (G_3.out.below hb)
    have R_4 := Lib.hid (R_3.out.below hb)
    clear hb B3 S_3 Z_3 G_3 R_3
    have N_4 := NN
    clear NN
    have ltN : w4.heap.size < V4.heap.size := N_4.out.lt
    have xN0 : V4.cell? ⟨w4.heap.size, 0, none⟩ = some (.int .i64 k) := by rw [N_4.out.cell]; rfl
    have xN1 : V4.cell? ⟨w4.heap.size, 1, none⟩ = some (.int .i64 a) := by rw [N_4.out.cell]; rfl
    have xN2 : V4.cell? ⟨w4.heap.size, 2, none⟩ = some (.int .i64 b) := by rw [N_4.out.cell]; rfl
    have xN3 : V4.cell? ⟨w4.heap.size, 3, none⟩ = some (.slice An m cn) := by rw [N_4.out.cell]; rfl
    have xR0 : V4.cell? ⟨w.heap.size + 1, 0, none⟩ = some (.int .i64 r0) := by rw [R_4.out.cell]; rfl
    have xR1 : V4.cell? ⟨w.heap.size + 1, 1, none⟩ = some (.int .i64 r1) := by rw [R_4.out.cell]; rfl
    have xR2 : V4.cell? ⟨w.heap.size + 1, 2, none⟩ = some (.int .i64 r2) := by rw [R_4.out.cell]; rfl
    have xR3 : V4.cell? ⟨w.heap.size + 1, 3, none⟩ = some (.int .i64 r3) := by rw [R_4.out.cell]; rfl
    have xR4 : V4.cell? ⟨w.heap.size + 1, 4, none⟩ = some (.int .i64 r4) := by rw [R_4.out.cell]; rfl
    go_wp2_with fail
    by_cases hr : remB k = true
    · skip
      obtain ⟨us, on, hrc⟩ : ∃ p o, recC k ces (r0, r1, r3, r4) = (p, o) := ⟨_, _, rfl⟩
      obtain ⟨m3, hm3⟩ : ∃ m, us.length = m := ⟨_, rfl⟩
      obtain ⟨out, hout⟩ : ∃ o, (if on = true then emitL zs (r1, r2) ky vy else []) = o := ⟨_, rfl⟩
      have HF := Lib.hid (show q = ((us, out), true) by rw [SN.out, ← HGO.out, ← hout]; exact stepN_mem (r := (r0, (r1, r2), r3, r4)) hr hrc)
      have HM3 := Lib.hid hm3
      have PP := Lib.hid (fun W hw h2 => proc_mem k a b zs m HM.out hmn An cn hcn.out As n2 cs r0 r1 r2 r3 r4 HOK.out HK.out HV.out W hw ces HL2.out S_4.out.nil (own_capS S_4.out.own) hn2 h2 hr hrc hm3 hout)
      clear hr hrc hm3 hout
      clear hW xN0 xN1 xN2 xN3 xR0 xR1 xR2 xR3 xR4
      refine (PP.out _ Z_4.out.is S_4.out.ce).mono ?_
      rintro e w6 ⟨A3, c3, A4, c4, m4, lm4, rfl, r3x, r4x, hb⟩
      have sz5 := hb.size
      have B5 := Lib.hid (below_chain B4.out hb)
      have S_5 := Lib.hid (S_4.out.below hb)
      have Z_5 := Lib.hid (Z_4.out.below hb)
      have G_5 := Lib.hid (G_4.out.below hb)
      have R_5 := Lib.hid (R_4.out.below hb)
      have N_5 := Lib.hid (N_4.out.below hb)
      clear hb B4 S_4 Z_4 G_4 R_4 N_4
      have LM := Lib.hid lm4
      clear lm4
      have X_5 := Lib.hid r3x
      clear r3x
      have Y_5 := Lib.hid r4x
      clear r4x
      go_wp2
      exact bodyPost_ret (v := .tuple #[.slice A3 m3 c3, .slice A4 m4 c4, .bool true]) (by simp [results, Try.results8, go_sem]) rfl (by rw [HF.out]; exact ⟨A3, c3, m3, A4, c4, m4, HM3.out, LM.out, rfl, own_base X_5.out.own (by omega), own_base Y_5.out.own (by omega), B5.out⟩)
    replace hr : remB k = false := by simpa using hr
    by_cases hk : k = 7
    · skip
      obtain ⟨out, hout⟩ : ∃ o, (if hasNext r1 r2 = true then emitL zs (r1, r2 + 1) ky vy else []) = o := ⟨_, rfl⟩
      have HF := Lib.hid (show q = ((ces, out), true) by rw [SN.out, ← HGO.out, ← hout, hk]; exact stepN_back (r := (r0, (r1, r2), r3, r4)))
      have PP := Lib.hid (fun W hw => proc_back k a b zs m HM.out hmn An cn hcn.out As n2 cs r0 r1 r2 r3 r4 HOK.out HK.out HV.out W hw hr hk hout)
      clear hr hk hout
      clear hW xN0 xN1 xN2 xN3 xR0 xR1 xR2 xR3 xR4
      refine (PP.out _ Z_4.out.is).mono ?_
      rintro e w6 ⟨A4, c4, m4, lm4, rfl, r4x, hb⟩
      have sz5 := hb.size
      have B5 := Lib.hid (below_chain B4.out hb)
      have S_5 := Lib.hid (S_4.out.below hb)
      have Z_5 := Lib.hid (Z_4.out.below hb)
      have G_5 := Lib.hid (G_4.out.below hb)
      have R_5 := Lib.hid (R_4.out.below hb)
      have N_5 := Lib.hid (N_4.out.below hb)
      clear hb B4 S_4 Z_4 G_4 R_4 N_4
      have LM := Lib.hid lm4
      clear lm4
      have Y_5 := Lib.hid r4x
      clear r4x
      go_wp2
      exact bodyPost_ret (v := .tuple #[.slice As n2 cs, .slice A4 m4 c4, .bool true]) (by simp [results, Try.results8, go_sem]) rfl (by rw [HF.out]; exact ⟨As, cs, n2, A4, c4, m4, HL2.out, LM.out, rfl, own_base S_5.out.own (by omega), own_base Y_5.out.own (by omega), B5.out⟩)
    · skip
      obtain ⟨out, hout⟩ : ∃ o, (if chgO true k a b r3 = true then emitL zs (r1, r2) ky vy else []) = o := ⟨_, rfl⟩
      have HF := Lib.hid (show q = ((ces, out), true) by rw [SN.out, ← HGO.out, ← hout]; exact stepN_else (r := (r0, (r1, r2), r3, r4)) hr hk)
      have PP := Lib.hid (fun W hw => proc_else k a b zs m HM.out hmn An cn hcn.out As n2 cs r0 r1 r2 r3 r4 HOK.out HK.out HV.out W hw hr hk hout)
      clear hr hk hout
      clear hW xN0 xN1 xN2 xN3 xR0 xR1 xR2 xR3 xR4
      refine (PP.out _ Z_4.out.is).mono ?_
      rintro e w6 ⟨A4, c4, m4, lm4, rfl, r4x, hb⟩
      have sz5 := hb.size
      have B5 := Lib.hid (below_chain B4.out hb)
      have S_5 := Lib.hid (S_4.out.below hb)
      have Z_5 := Lib.hid (Z_4.out.below hb)
      have G_5 := Lib.hid (G_4.out.below hb)
      have R_5 := Lib.hid (R_4.out.below hb)
      have N_5 := Lib.hid (N_4.out.below hb)
      clear hb B4 S_4 Z_4 G_4 R_4 N_4
      have LM := Lib.hid lm4
      clear lm4
      have Y_5 := Lib.hid r4x
      clear r4x
      go_wp2
      exact bodyPost_ret (v := .tuple #[.slice As n2 cs, .slice A4 m4 c4, .bool true]) (by simp [results, Try.results8, go_sem]) rfl (by rw [HF.out]; exact ⟨As, cs, n2, A4, c4, m4, HL2.out, LM.out, rfl, own_base S_5.out.own (by omega), own_base Y_5.out.own (by omega), B5.out⟩)
end Go.Proofs.Ytlanmkimaambgaa.hexes

namespace Go.Proofs.Ytlanmkimaambgaa.hexes
open Go.RowKit
theorem Row.cap {w : World} {lo hi e size n c : Nat} {A : Option Addr} {xs : List Value} (h : Row w lo hi e size A n c xs) : n ≤ c := by
  rcases h.own.2 with ⟨h0, rfl⟩ | ⟨g, cap, cur, hv, _, _, hnc, _⟩
  · exact Nat.zero_le _
  · simp only [Value.slice.injEq, true_and] at hv
    obtain ⟨_, rfl⟩ := hv
    exact hnc
end Go.Proofs.Ytlanmkimaambgaa.hexes

namespace Go.Proofs.Ytlanmkimaambgaa.hexes
open Go.RowKit

/-- A step's end as two rows. -/
theorem StepEnd.rows {w w' : World} {q : (List Ce × List Rc) × Bool} {e : Ending} (h : StepEnd w q e w') {us : List Ce} {out : List Rc} {ok : Bool} {m3 m4 : Nat} (hq : q = ((us, out), ok)) (h3 : us.length = m3) (h4 : out.length = m4) :
    ∃ A3 c3 A4 c4, e = .returned (.tuple #[.slice A3 m3 c3, .slice A4 m4 c4, .bool ok]) ∧ Row w' w.heap.size w'.heap.size 75 4 A3 m3 c3 (ceCells us) ∧ Row w' w.heap.size w'.heap.size 31 5 A4 m4 c4 (rcCells out) ∧ Below w.heap.size w w' := by
  subst hq
  obtain ⟨A3, c3, n3, A4, c4, n4, l3, l4, rfl, o3, o4, hb⟩ := h
  have e3 : n3 = m3 := l3.symm.trans h3
  have e4 : n4 = m4 := l4.symm.trans h4
  subst e3 e4
  obtain ⟨B3, d3, q3, r3⟩ := row_of o3
  obtain ⟨B4, d4, q4, r4⟩ := row_of o4
  simp only [Value.slice.injEq, true_and] at q3 q4
  obtain ⟨rfl, rfl⟩ := q3
  obtain ⟨rfl, rfl⟩ := q4
  exact ⟨A3, c3, A4, c4, rfl, r3, r4, hb⟩
end Go.Proofs.Ytlanmkimaambgaa.hexes

namespace Go.Proofs.Ytlanmkimaambgaa.hexes
open Go.RowKit

theorem implStep_rows {gs : List Nd} {wk cp : Int} {A : Option Addr} {n c : Nat} {ces : List Ce} {A2 : Option Addr} {n2 c2 : Nat} {r0 r1 r2 r3 r4 : Int} {us : List Ce} {out : List Rc} {ok : Bool} {m3 m4 : Nat} (hq : stepGr gs wk cp ces (r0, (r1, r2), r3, r4) = ((us, out), ok)) (h3 : us.length = m3) (h4 : out.length = m4) (hl : gs.length = n) (ho : ∀ x ∈ gs, x.2.2.2.length ≤ 1048576) (hn : n ≤ 1048576) (hl2 : ces.length = n2) (hA2 : A2 = none → c2 = 0) (hc2 : n2 ≤ c2) (hn2 : n2 ≤ 2000000) (w : World) (h : Nds w A gs) (h2 : Ces w A2 ces) :
    Calls Try.prog 8 #[.agg #[.slice A n c, .int .i64 wk, .int .i64 cp], .slice A2 n2 c2, .agg #[.int .i64 r0, .int .i64 r1, .int .i64 r2, .int .i64 r3, .int .i64 r4]] w fun e w' => ∃ A3 c3 A4 c4, e = .returned (.tuple #[.slice A3 m3 c3, .slice A4 m4 c4, .bool ok]) ∧ Row w' w.heap.size w'.heap.size 75 4 A3 m3 c3 (ceCells us) ∧ Row w' w.heap.size w'.heap.size 31 5 A4 m4 c4 (rcCells out) ∧ Below w.heap.size w w' :=
  (implStep_any gs wk cp A n c hl ho hn ces A2 n2 c2 hl2 hA2 hc2 hn2 r0 r1 r2 r3 r4 w h h2).mono fun _ _ he => he.rows hq h3 h4
end Go.Proofs.Ytlanmkimaambgaa.hexes

namespace Go.Proofs.Ytlanmkimaambgaa.hexes
open Go.RowKit

def findS23 (n : Nat) : Code → Option Code
  | .region id ops d => if id = n then some (.region id ops d) else none
  | .seq a b => match findS23 n a with
    | some c => some c
    | none => findS23 n b
  | .block _ c => findS23 n c
  | .scope c => findS23 n c
  | .loop c => findS23 n c
  | .cond _ a b => match findS23 n a with
    | some c => some c
    | none => findS23 n b
  | _ => none
def opsOfS23 : Option Code → Array Oper
  | some (.region _ ops _) => ops
  | _ => #[]
noncomputable def opsS23 : Array Oper := opsOfS23 (Try.f9.body.bind (findS23 23))
def schS23 : List Nat := [0, 1, 2, 3, 4, 5, 6, 7, 8, 9, 10, 11, 12]
def LS23 (k : Nat) : Array Bool := ((List.range 13).map fun i => (schS23.take k).contains i).toArray
theorem noselS23 : Region.noSelect opsS23 = true := by kernel_rfl
def qS23_0 : Oper := { dst := some 113, op := Op.move (Operand.tmp 10), type := 34, pos := "l10_steps.go:32", after := #[], guard := none }
theorem hS23_0 : opsS23[0]? = some qS23_0 := by kernel_rfl
theorem lS23_0 : (LS23 0).setIfInBounds 0 true = LS23 1 := by kernel_rfl
theorem tS23_0 : RegT Try.prog opsS23 qS23_0 (some 113) 12 (LS23 0) (LS23 1) := regT hS23_0 rfl noselS23 (by kernel_rfl) (by kernel_rfl) lS23_0
def qS23_1 : Oper := { dst := some 114, op := Op.fieldAddr 42 (Operand.tmp 11) 3, type := 0, pos := "l10_steps.go:32", after := #[], guard := none }
theorem hS23_1 : opsS23[1]? = some qS23_1 := by kernel_rfl
theorem lS23_1 : (LS23 1).setIfInBounds 1 true = LS23 2 := by kernel_rfl
theorem tS23_1 : RegT Try.prog opsS23 qS23_1 (some 114) 11 (LS23 1) (LS23 2) := regT hS23_1 rfl noselS23 (by kernel_rfl) (by kernel_rfl) lS23_1
def qS23_2 : Oper := { dst := some 115, op := Op.load 40 (Operand.tmp 114), type := 40, pos := "l10_steps.go:32", after := #[{ on := 1, ground := Ground.data }], guard := none }
theorem hS23_2 : opsS23[2]? = some qS23_2 := by kernel_rfl
theorem lS23_2 : (LS23 2).setIfInBounds 2 true = LS23 3 := by kernel_rfl
theorem tS23_2 : RegT Try.prog opsS23 qS23_2 (some 115) 10 (LS23 2) (LS23 3) := regT hS23_2 rfl noselS23 (by kernel_rfl) (by kernel_rfl) lS23_2
def qS23_3 : Oper := { dst := some 116, op := Op.move (Operand.tmp 21), type := 3, pos := "l10_steps.go:32", after := #[], guard := none }
theorem hS23_3 : opsS23[3]? = some qS23_3 := by kernel_rfl
theorem lS23_3 : (LS23 3).setIfInBounds 3 true = LS23 4 := by kernel_rfl
theorem tS23_3 : RegT Try.prog opsS23 qS23_3 (some 116) 9 (LS23 3) (LS23 4) := regT hS23_3 rfl noselS23 (by kernel_rfl) (by kernel_rfl) lS23_3
def qS23_4 : Oper := { dst := some 117, op := Op.indexAddr 40 (Operand.tmp 115) (Operand.tmp 116), type := 0, pos := "l10_steps.go:32", after := #[{ on := 2, ground := Ground.data }, { on := 3, ground := Ground.data }], guard := none }
theorem hS23_4 : opsS23[4]? = some qS23_4 := by kernel_rfl
theorem lS23_4 : (LS23 4).setIfInBounds 4 true = LS23 5 := by kernel_rfl
theorem tS23_4 : RegT Try.prog opsS23 qS23_4 (some 117) 8 (LS23 4) (LS23 5) := regT hS23_4 rfl noselS23 (by kernel_rfl) (by kernel_rfl) lS23_4
def qS23_5 : Oper := { dst := some 118, op := Op.load 3 (Operand.tmp 117), type := 3, pos := "l10_steps.go:32", after := #[{ on := 4, ground := Ground.data }], guard := none }
theorem hS23_5 : opsS23[5]? = some qS23_5 := by kernel_rfl
theorem lS23_5 : (LS23 5).setIfInBounds 5 true = LS23 6 := by kernel_rfl
theorem tS23_5 : RegT Try.prog opsS23 qS23_5 (some 118) 7 (LS23 5) (LS23 6) := regT hS23_5 rfl noselS23 (by kernel_rfl) (by kernel_rfl) lS23_5
def qS23_6 : Oper := { dst := some 119, op := Op.load 29 (Operand.tmp 18), type := 29, pos := "l10_steps.go:32", after := #[], guard := none }
theorem hS23_6 : opsS23[6]? = some qS23_6 := by kernel_rfl
theorem lS23_6 : (LS23 6).setIfInBounds 6 true = LS23 7 := by kernel_rfl
theorem tS23_6 : RegT Try.prog opsS23 qS23_6 (some 119) 6 (LS23 6) (LS23 7) := regT hS23_6 rfl noselS23 (by kernel_rfl) (by kernel_rfl) lS23_6
def qS23_7 : Oper := { dst := some 120, op := Op.move (Operand.tmp 13), type := 3, pos := "l10_steps.go:32", after := #[], guard := none }
theorem hS23_7 : opsS23[7]? = some qS23_7 := by kernel_rfl
theorem lS23_7 : (LS23 7).setIfInBounds 7 true = LS23 8 := by kernel_rfl
theorem tS23_7 : RegT Try.prog opsS23 qS23_7 (some 120) 5 (LS23 7) (LS23 8) := regT hS23_7 rfl noselS23 (by kernel_rfl) (by kernel_rfl) lS23_7
def qS23_8 : Oper := { dst := some 121, op := Op.move (Operand.tmp 14), type := 3, pos := "l10_steps.go:32", after := #[], guard := none }
theorem hS23_8 : opsS23[8]? = some qS23_8 := by kernel_rfl
theorem lS23_8 : (LS23 8).setIfInBounds 8 true = LS23 9 := by kernel_rfl
theorem tS23_8 : RegT Try.prog opsS23 qS23_8 (some 121) 4 (LS23 8) (LS23 9) := regT hS23_8 rfl noselS23 (by kernel_rfl) (by kernel_rfl) lS23_8
def qS23_9 : Oper := { dst := some 122, op := Op.build 31 #[(0, Operand.tmp 118), (1, Operand.tmp 119), (2, Operand.tmp 120), (3, Operand.tmp 121)], type := 31, pos := "l10_steps.go:32", after := #[{ on := 5, ground := Ground.data }, { on := 6, ground := Ground.data }, { on := 7, ground := Ground.data }, { on := 8, ground := Ground.data }], guard := none }
theorem hS23_9 : opsS23[9]? = some qS23_9 := by kernel_rfl
theorem lS23_9 : (LS23 9).setIfInBounds 9 true = LS23 10 := by kernel_rfl
theorem tS23_9 : RegT Try.prog opsS23 qS23_9 (some 122) 3 (LS23 9) (LS23 10) := regT hS23_9 rfl noselS23 (by kernel_rfl) (by kernel_rfl) lS23_9
def qS23_10 : Oper := { dst := some 123, op := Op.buildSlice 34 1 #[(0, Operand.tmp 122)], type := 34, pos := "l10_steps.go:32", after := #[{ on := 9, ground := Ground.data }], guard := none }
theorem hS23_10 : opsS23[10]? = some qS23_10 := by kernel_rfl
theorem lS23_10 : (LS23 10).setIfInBounds 10 true = LS23 11 := by kernel_rfl
theorem cS23_10 : RegC Try.prog opsS23 qS23_10 (some 123) 2 (LS23 10) (LS23 11) := regC hS23_10 rfl (by kernel_rfl) lS23_10
def qS23_11 : Oper := { dst := some 124, op := Op.call { callee := Callee.builtin Builtin.append, args := #[Operand.tmp 113, Operand.tmp 123], argTypes := #[34, 34] }, type := 34, pos := "l10_steps.go:32", after := #[{ on := 0, ground := Ground.data }, { on := 10, ground := Ground.data }], guard := none }
theorem hS23_11 : opsS23[11]? = some qS23_11 := by kernel_rfl
theorem lS23_11 : (LS23 11).setIfInBounds 11 true = LS23 12 := by kernel_rfl
theorem cS23_11 : RegC Try.prog opsS23 qS23_11 (some 124) 1 (LS23 11) (LS23 12) := regC hS23_11 rfl (by kernel_rfl) lS23_11
def qS23_12 : Oper := { dst := some 10, op := Op.assign (Operand.tmp 124), type := 34, pos := "l10_steps.go:32", after := #[{ on := 11, ground := Ground.data }, { on := 11, ground := Ground.chain }, { on := 0, ground := Ground.phase }, { on := 1, ground := Ground.phase }, { on := 2, ground := Ground.phase }, { on := 3, ground := Ground.phase }, { on := 4, ground := Ground.phase }, { on := 5, ground := Ground.phase }, { on := 6, ground := Ground.phase }, { on := 7, ground := Ground.phase }, { on := 8, ground := Ground.phase }, { on := 9, ground := Ground.phase }, { on := 10, ground := Ground.phase }, { on := 11, ground := Ground.phase }], guard := none }
theorem hS23_12 : opsS23[12]? = some qS23_12 := by kernel_rfl
theorem lS23_12 : (LS23 12).setIfInBounds 12 true = LS23 13 := by kernel_rfl
theorem tS23_12 : RegT Try.prog opsS23 qS23_12 (some 10) 0 (LS23 12) (LS23 13) := regT hS23_12 rfl noselS23 (by kernel_rfl) (by kernel_rfl) lS23_12
end Go.Proofs.Ytlanmkimaambgaa.hexes

