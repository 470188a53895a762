/-
  A row's capacity is not below its length.
  What chapter 10's laws use of a step's results: two rows out of one call.
  A step of the reference as two rows.
  The program's StepOp: the contract of impl.StepOp.
-/
import Derived.Test.YtlanmkimaambgaaJ1
import Derived.Test.YtlanmkimaambgaaJ29
import Derived.Test.YtlanmkimaambgaaJ33
import Derived.Test.YtlanmkimaambgaaJ34
import Derived.Test.YtlanmkimaambgaaJ46
import Derived.Test.YtlanmkimaambgaaJ40

namespace Go.Proofs.Ytlanmkimaambgaa.hexes
open Go.RowKit
theorem Row.cap {w : World} {lo hi e size n c : Nat} {A : Option Addr} {xs : List Value} (h : Row w lo hi e size A n c xs) : n ≤ c := by
  rcases h.own.2 with ⟨h0, rfl⟩ | ⟨g, cap, cur, hv, _, _, hnc, _⟩
  · exact Nat.zero_le _
  · simp only [Value.slice.injEq, true_and] at hv
    obtain ⟨_, rfl⟩ := hv
    exact hnc
end Go.Proofs.Ytlanmkimaambgaa.hexes

namespace Go.Proofs.Ytlanmkimaambgaa.hexes
open Go.RowKit

theorem rowLow {w : World} {lo lo' hi e size n c : Nat} {A : Option Addr} {xs : List Value} (h : Row w lo hi e size A n c xs) (hl : lo' ≤ lo) : Row w lo' hi e size A n c xs := ⟨own_base h.own hl, h.lt⟩
/-- A step's end as two rows. -/
theorem StepEnd.rows {w w' : World} {q : (List Ce × List Rc) × Bool} {e : Ending} (h : StepEnd w q e w') {us : List Ce} {out : List Rc} {ok : Bool} {m3 m4 : Nat} (hq : q = ((us, out), ok)) (h3 : us.length = m3) (h4 : out.length = m4) :
    ∃ A3 c3 A4 c4, e = .returned (.tuple #[.slice A3 m3 c3, .slice A4 m4 c4, .bool ok]) ∧ Row w' w.heap.size w'.heap.size 75 4 A3 m3 c3 (ceCells us) ∧ Row w' w.heap.size w'.heap.size 31 5 A4 m4 c4 (rcCells out) ∧ Below w.heap.size w w' := by
  subst hq
  obtain ⟨A3, c3, n3, A4, c4, n4, l3, l4, rfl, o3, o4, hb⟩ := h
  have e3 : n3 = m3 := l3.symm.trans h3
  have e4 : n4 = m4 := l4.symm.trans h4
  subst e3 e4
  obtain ⟨B3, d3, q3, r3⟩ := row_of o3
  obtain ⟨B4, d4, q4, r4⟩ := row_of o4
  simp only [Value.slice.injEq, true_and] at q3 q4
  obtain ⟨rfl, rfl⟩ := q3
  obtain ⟨rfl, rfl⟩ := q4
  exact ⟨A3, c3, A4, c4, rfl, r3, r4, hb⟩
theorem markCe_two {w : World} {lo hi lo' hi' n c n' c' : Nat} {A A' : Option Addr} {zs : List Ce} {ys : List Value} (k0 : Nat) (h : Row w lo hi 75 4 A n c (ceCells zs)) (h' : Row w lo' hi' 31 5 A' n' c' ys) (hn : n ≤ 4194304) (hk1 : k0 ≤ 41943040) :
    Calls Try.prog 27 #[.slice A n c, .int .i64 (k0 : Int)] w fun e w' => e = .returned (.int .i64 ((k0 + 4 * n : Nat) : Int)) ∧ Row w' lo hi 75 4 A n c (ceCells (ceMarks k0 n)) ∧ Row w' lo' hi' 31 5 A' n' c' ys ∧ Wrote w w' lo hi :=
  (markCeS_any n k0 lo zs h.ceLen (.slice A n c) w h.own hn hk1).mono fun _ _ ⟨he, ho, hg⟩ => ⟨he, ⟨ho, h.lt⟩, ⟨h'.own.kept hg (own_types h'.own h.own (by decide)), h'.lt⟩, _, hg, fun g hgg => ⟨own_ge h.own g hgg, h.lt g hgg⟩⟩
theorem markRc_two {w : World} {lo hi lo' hi' n c n' c' : Nat} {A A' : Option Addr} {zs : List Rc} {ys : List Value} (k0 : Nat) (h : Row w lo hi 31 5 A n c (rcCells zs)) (h' : Row w lo' hi' 75 4 A' n' c' ys) (hn : n ≤ 4194304) (hk1 : k0 ≤ 41943040) :
    Calls Try.prog 28 #[.slice A n c, .int .i64 (k0 : Int)] w fun e w' => e = .returned (.int .i64 ((k0 + 5 * n : Nat) : Int)) ∧ Row w' lo hi 31 5 A n c (rcCells (rcMarks k0 n)) ∧ Row w' lo' hi' 75 4 A' n' c' ys ∧ Wrote w w' lo hi :=
  (markRcS_any n k0 lo zs h.rcLen (.slice A n c) w h.own hn hk1).mono fun _ _ ⟨he, ho, hg⟩ => ⟨he, ⟨ho, h.lt⟩, ⟨h'.own.kept hg (own_types h'.own h.own (by decide)), h'.lt⟩, _, hg, fun g hgg => ⟨own_ge h.own g hgg, h.lt g hgg⟩⟩
end Go.Proofs.Ytlanmkimaambgaa.hexes

namespace Go.Proofs.Ytlanmkimaambgaa.hexes
open Go.RowKit

theorem specStep_rows {gs : List Nd} {wk cp : Int} {A : Option Addr} {n c : Nat} {ces : List Ce} {A2 : Option Addr} {n2 c2 : Nat} {r0 r1 r2 r3 r4 : Int} {us : List Ce} {out : List Rc} {ok : Bool} {m3 m4 : Nat} (hq : stepGr gs wk cp ces (r0, (r1, r2), r3, r4) = ((us, out), ok)) (h3 : us.length = m3) (h4 : out.length = m4) (hl : gs.length = n) (ho : ∀ x ∈ gs, x.2.2.2.length ≤ 1048576) (hn : n ≤ 1048576) (hl2 : ces.length = n2) (hA2 : A2 = none → c2 = 0) (hc2 : n2 ≤ c2) (hn2 : n2 ≤ 2000000) (w : World) (h : Nds w A gs) (h2 : Ces w A2 ces) :
    Calls Try.prog 9 #[.agg #[.slice A n c, .int .i64 wk, .int .i64 cp], .slice A2 n2 c2, .agg #[.int .i64 r0, .int .i64 r1, .int .i64 r2, .int .i64 r3, .int .i64 r4]] w fun e w' => ∃ A3 c3 A4 c4, e = .returned (.tuple #[.slice A3 m3 c3, .slice A4 m4 c4, .bool ok]) ∧ Row w' w.heap.size w'.heap.size 75 4 A3 m3 c3 (ceCells us) ∧ Row w' w.heap.size w'.heap.size 31 5 A4 m4 c4 (rcCells out) ∧ Below w.heap.size w w' :=
  (specStep_any gs wk cp A n c hl ho hn ces A2 n2 c2 hl2 hA2 hc2 hn2 r0 r1 r2 r3 r4 w h h2).mono fun _ _ he => he.rows hq h3 h4
end Go.Proofs.Ytlanmkimaambgaa.hexes

namespace Go.Proofs.Ytlanmkimaambgaa.hexes
open Go.RowKit

theorem stepN_mem {k a b : Int} {zs : List Int} {ky vy : Int} {ces us : List Ce} {r : Rc} {on : Bool} (hr : remB k = true) (hrc : recC k ces (r.1, r.2.1.1, r.2.2.1, r.2.2.2) = (us, on)) :
    stepNd (k, a, b, zs) ky vy (chgO true k a b r.2.2.1) ces r = ((us, if on = true then emitL zs r.2.1 ky vy else []), true) := by
  have h7 : k ≠ 7 := by rintro rfl; exact absurd hr (by decide)
  have hg : ¬(chgO true k a b r.2.2.1 = false ∧ k ≠ 8) := by
    rintro ⟨h1, h8⟩
    unfold remB at hr
    unfold chgO at h1
    have h3 : k ≠ 3 := by rintro rfl; simp at hr
    rw [if_neg h3] at h1
    simp [h8] at h1
  unfold stepNd
  rw [if_neg hg]
  simp only [hr, hrc, if_true, h7, if_false]
  cases on <;> simp
theorem stepN_back {a b : Int} {zs : List Int} {ky vy : Int} {ces : List Ce} {r : Rc} :
    stepNd (7, a, b, zs) ky vy (chgO true 7 a b r.2.2.1) ces r = ((ces, if hasNext r.2.1.1 r.2.1.2 = true then emitL zs (r.2.1.1, r.2.1.2 + 1) ky vy else []), true) := by
  unfold stepNd
  have h1 : chgO true 7 a b r.2.2.1 = true := by simp [chgO]
  have h2 : remB 7 = false := by decide
  rw [if_neg (by rw [h1]; simp)]
  simp only [h2]
  cases hasNext r.2.1.1 r.2.1.2 <;> simp
theorem stepN_else {k a b : Int} {zs : List Int} {ky vy : Int} {ces : List Ce} {r : Rc} (hr : remB k = false) (hk : k ≠ 7) :
    stepNd (k, a, b, zs) ky vy (chgO true k a b r.2.2.1) ces r = ((ces, if chgO true k a b r.2.2.1 = true then emitL zs r.2.1 ky vy else []), true) := by
  have h8 : k ≠ 8 := by rintro rfl; exact absurd hr (by decide)
  unfold stepNd
  cases chgO true k a b r.2.2.1 with
  | false => simp [h8]
  | true => simp [hr, hk]
theorem stepG_no {gs : List Nd} {wk cp : Int} {ces : List Ce} {r : Rc} (h : (hasB gs r.1 && okGr gs dec1 wk cp && okRc r) = false) : stepGr gs wk cp ces r = ((ces, []), false) := by
  unfold stepGr
  rw [if_pos h]
theorem stepG_yes {gs : List Nd} {wk cp : Int} {ces : List Ce} {r : Rc} {k a b : Int} {zs : List Int} (h : (hasB gs r.1 && okGr gs dec1 wk cp && okRc r) = true) (hx : nodeAt gs r.1 = (k, a, b, zs)) :
    stepGr gs wk cp ces r = stepNd (k, a, b, zs) (chgK true k a r.2.2.1) (chgV true k a r.2.2.2) (chgO true k a b r.2.2.1) ces r := by
  have ho := okX_of h
  unfold stepGr
  rw [if_neg (by rw [h]; simp), ho, hx]

set_option maxRecDepth 1000000 in
set_option maxHeartbeats 8000000 in
theorem implStep_any (gs : List Nd) (wk cp : Int) (A : Option Addr) (n c : Nat) (hl : gs.length = n) (ho : ∀ x ∈ gs, x.2.2.2.length ≤ 1048576) (hn : n ≤ 1048576) (ces : List Ce) (A2 : Option Addr) (n2 c2 : Nat) (hl2 : ces.length = n2) (hA2 : A2 = none → c2 = 0) (_hc2 : n2 ≤ c2) (hn2 : n2 ≤ 2000000) (r0 r1 r2 r3 r4 : Int) (w : World) (h : Nds w A gs) (h2 : Ces w A2 ces) :
    Calls Try.prog 8 #[.agg #[.slice A n c, .int .i64 wk, .int .i64 cp], .slice A2 n2 c2, .agg #[.int .i64 r0, .int .i64 r1, .int .i64 r2, .int .i64 r3, .int .i64 r4]] w (StepEnd w (stepGr gs wk cp ces (r0, (r1, r2), r3, r4))) := by
  obtain ⟨⟨k, a, b, zs⟩, hx⟩ : ∃ x, nodeAt gs r0 = x := ⟨_, rfl⟩
  obtain ⟨m, hm⟩ : ∃ m, zs.length = m := ⟨_, rfl⟩
  obtain ⟨q, hq⟩ : ∃ q, stepGr gs wk cp ces (r0, (r1, r2), r3, r4) = q := ⟨_, rfl⟩
  obtain ⟨gk, hgk⟩ : ∃ q, (hasB gs r0 && okGr gs dec1 wk cp && okRc (r0, (r1, r2), r3, r4)) = q := ⟨_, rfl⟩
  rw [hq]
  have hmn : m ≤ 1048576 := by
    have h := nodeAt_few ho r0
    rw [hx] at h
    rw [← hm]
    exact h
  have HX := Lib.hid hx
  have HM := Lib.hid hm
  have HQ := Lib.hid hq
  have HGK := Lib.hid hgk
  have HL := Lib.hid hl
  have HO := Lib.hid ho
  have HL2 := Lib.hid hl2
  have HA2 := Lib.hid hA2
  have S0 := Lib.hid h
  have S2 := Lib.hid h2
  clear hx hm hq hgk hl ho hl2 hA2 h h2
  obtain ⟨V, hW⟩ : ∃ z, ((w.alloc (.cells #[.slice A n c, .int .i64 wk, .int .i64 cp] 26)).alloc (.cells #[.int .i64 r0, .int .i64 r1, .int .i64 r2, .int .i64 r3, .int .i64 r4] 31)) = z := ⟨_, rfl⟩
  have hb : Below w.heap.size w V := by rw [← hW]; exact (((Below.refl _ _).alloc (by first | (simp; done) | (simp; omega) | omega) _).alloc (by first | (simp; done) | (simp; omega) | omega) _)
  have az : V.heap.size = w.heap.size + 2 := by rw [← hW]; simp
  have NG := Lib.hid (show Blk V (w.heap.size) 26 #[.slice A n c, .int .i64 wk, .int .i64 cp] by rw [← hW]; exact ((Below.heap_alloc _ _ _ (by first | (simp; done) | (simp; omega))).trans (Blk.new _ _ _)))
  have NR := Lib.hid (show Blk V (w.heap.size + 1) 31 #[.int .i64 r0, .int .i64 r1, .int .i64 r2, .int .i64 r3, .int .i64 r4] by rw [← hW]; exact ((show w.heap.size + 1 = ((w.alloc _)).heap.size by simp) ▸ Blk.new _ _ _))
  have AZV := Lib.hid az
  clear az
  have sz1 := hb.size
  have B1 := Lib.hid (hb)
  clear hb
  have G_1 := NG
  clear NG
  have ltG : w.heap.size < V.heap.size := G_1.out.lt
  have R_1 := NR
  clear NR
  have ltR : w.heap.size + 1 < V.heap.size := R_1.out.lt
  go_enter Try.func8, Try.ntmps8
  go_wp2_with fail
  clear hW
  refine (cloneCe_any n2 ces HL2.out A2 c2 HA2.out _ (S2.out.below B1.out) (by omega)).mono ?_
  rintro e w2 ⟨vs, rfl, oS, hb⟩
  have sz2 := hb.size
  have B2 := Lib.hid (below_chain B1.out hb)
  have G_2 := Lib.hid (G_1.out.below hb)
  have R_2 := Lib.hid (R_1.out.below hb)
  clear hb B1 G_1 R_1
  obtain ⟨As, cs, rfl, rS⟩ := row_of oS
  clear oS
  have S_2 := Lib.hid rS
  clear rS
  have xG0 : w2.cell? ⟨w.heap.size, 0, none⟩ = some (.slice A n c) := by rw [G_2.out.cell]; rfl
  have xG1 : w2.cell? ⟨w.heap.size, 1, none⟩ = some (.int .i64 wk) := by rw [G_2.out.cell]; rfl
  have xG2 : w2.cell? ⟨w.heap.size, 2, none⟩ = some (.int .i64 cp) := by rw [G_2.out.cell]; rfl
  have xR0 : w2.cell? ⟨w.heap.size + 1, 0, none⟩ = some (.int .i64 r0) := by rw [R_2.out.cell]; rfl
  have xR1 : w2.cell? ⟨w.heap.size + 1, 1, none⟩ = some (.int .i64 r1) := by rw [R_2.out.cell]; rfl
  have xR2 : w2.cell? ⟨w.heap.size + 1, 2, none⟩ = some (.int .i64 r2) := by rw [R_2.out.cell]; rfl
  have xR3 : w2.cell? ⟨w.heap.size + 1, 3, none⟩ = some (.int .i64 r3) := by rw [R_2.out.cell]; rfl
  have xR4 : w2.cell? ⟨w.heap.size + 1, 4, none⟩ = some (.int .i64 r4) := by rw [R_2.out.cell]; rfl
  go_wp2_with fail
  cases gk with
  | false =>
    clear xG0 xG1 xG2 xR0 xR1 xR2 xR3 xR4
    refine (nodeFor_no gs wk cp A n c HL.out HO.out hn r0 r1 r2 r3 r4 _ (S0.out.below B2.out) HGK.out).mono ?_
    rintro e w4 ⟨rfl, hb⟩
    have sz3 := hb.size
    have B3 := Lib.hid (below_chain B2.out hb)
    have S_3 := Lib.hid (S_2.out.below hb)
    have G_3 := Lib.hid (G_2.out.below hb)
    have R_3 := Lib.hid (R_2.out.below hb)
    clear hb B2 S_2 G_2 R_2
    have HF := Lib.hid (show q = ((ces, []), false) by rw [← HQ.out]; exact stepG_no (r := (r0, (r1, r2), r3, r4)) HGK.out)
    go_wp2_with fail
    have b1 : Below w4.heap.size w4 (w4.alloc (.cells #[.int .i64 0, .int .i64 0, .int .i64 0, .slice none 0 0] 42)) := (Below.refl _ _).alloc (Nat.le_refl _) _
    have rO : ((w4.alloc (.cells #[.int .i64 0, .int .i64 0, .int .i64 0, .slice none 0 0] 42)).alloc (.cells #[] 31)).ownsRow (w4.heap.size + 1) 31 5 (.slice (some ⟨w4.heap.size + 1, 0, none⟩) 0 0) 0 [] := by
      have h := (row_lit (size := 5) (Blk.new (w4.alloc (.cells #[.int .i64 0, .int .i64 0, .int .i64 0, .slice none 0 0] 42)) 31 #[])).own
      rw [show (w4.alloc (.cells #[.int .i64 0, .int .i64 0, .int .i64 0, .slice none 0 0] 42)).heap.size = w4.heap.size + 1 by simp] at h
      exact h
    exact bodyPost_ret (v := .tuple #[.slice As n2 cs, .slice (some ⟨w4.heap.size + 1, 0, none⟩) 0 0, .bool false]) (by simp [results, Try.results8, go_sem]) rfl (by rw [HF.out]; exact ⟨As, cs, n2, _, 0, 0, HL2.out, rfl, rfl, (own_base (own_below S_3.out.own b1) (by omega)).alloc _, own_base rO (by omega), (below_chain B3.out b1).alloc (by simp; omega) _⟩)
  | true =>
    obtain ⟨⟨hb0, hg0⟩, hr0⟩ : (hasB gs r0 = true ∧ okGr gs dec1 wk cp = true) ∧ okRc (r0, (r1, r2), r3, r4) = true := by
      have h := HGK.out
      simpa only [Bool.and_eq_true] using h
    clear xG0 xG1 xG2 xR0 xR1 xR2 xR3 xR4
    refine (nodeFor_yes gs wk cp A n c HL.out HO.out hn r0 r1 r2 r3 r4 _ (S0.out.below B2.out) HX.out HM.out hb0 hg0 hr0).mono ?_
    rintro e w4 ⟨An, cn, rfl, rZ, hb⟩
    have sz3 := hb.size
    have B3 := Lib.hid (below_chain B2.out hb)
    have S_3 := Lib.hid (S_2.out.below hb)
    have G_3 := Lib.hid (G_2.out.below hb)
    have R_3 := Lib.hid (R_2.out.below hb)
    clear hb B2 S_2 G_2 R_2
    have Z_3 := Lib.hid rZ
    clear rZ
    clear hb0 hg0 hr0
    obtain ⟨ky, hK⟩ : ∃ v, chgK true k a r3 = v := ⟨_, rfl⟩
    obtain ⟨vy, hV⟩ : ∃ v, chgV true k a r4 = v := ⟨_, rfl⟩
    obtain ⟨go, hgo⟩ : ∃ v, chgO true k a b r3 = v := ⟨_, rfl⟩
    have HOK := Lib.hid (show okC k a b (dec1 a) r3 r4 zs = true by
      have h := okX_of (r := (r0, (r1, r2), r3, r4)) HGK.out
      unfold okX at h
      rw [show (nodeAt gs (((r0, (r1, r2), r3, r4) : Rc).1)) = (k, a, b, zs) from HX.out] at h
      exact h)
    have SN := Lib.hid (show q = stepNd (k, a, b, zs) ky vy go ces (r0, (r1, r2), r3, r4) by rw [← HQ.out, stepG_yes (r := (r0, (r1, r2), r3, r4)) HGK.out HX.out, ← hK, ← hV, ← hgo])
    have HK := Lib.hid hK
    have HV := Lib.hid hV
    have HGO := Lib.hid hgo
    clear hK hV hgo
    have hcn := Lib.hid (own_capS Z_3.out.own)
    obtain ⟨V4, hW⟩ : ∃ z, (w4.alloc (.cells #[.int .i64 k, .int .i64 a, .int .i64 b, .slice An m cn] 42)) = z := ⟨_, rfl⟩
    have hb : Below w4.heap.size w4 V4 := by rw [← hW]; exact ((Below.refl _ _).alloc (by first | (simp; done) | (simp; omega) | omega) _)
    have az : V4.heap.size = w4.heap.size + 1 := by rw [← hW]; simp
    have NN := Lib.hid (show Blk V4 (w4.heap.size) 42 #[.int .i64 k, .int .i64 a, .int .i64 b, .slice An m cn] by rw [← hW]; exact (Blk.new _ _ _))
    have AZV4 := Lib.hid az
    clear az
    have sz4 := hb.size
    have B4 := Lib.hid (below_chain B3.out hb)
    have S_4 := Lib.hid (S_3.out.below hb)
    have Z_4 := Lib.hid (Z_3.out.below hb)
    have G_4 := Lib.hid (G_3.out.below hb)
    have R_4 := Lib.hid (R_3.out.below hb)
    clear hb B3 S_3 Z_3 G_3 R_3
    have N_4 := NN
    clear NN
    have ltN : w4.heap.size < V4.heap.size := N_4.out.lt
    have xN0 : V4.cell? ⟨w4.heap.size, 0, none⟩ = some (.int .i64 k) := by rw [N_4.out.cell]; rfl
    have xN1 : V4.cell? ⟨w4.heap.size, 1, none⟩ = some (.int .i64 a) := by rw [N_4.out.cell]; rfl
    have xN2 : V4.cell? ⟨w4.heap.size, 2, none⟩ = some (.int .i64 b) := by rw [N_4.out.cell]; rfl
    have xN3 : V4.cell? ⟨w4.heap.size, 3, none⟩ = some (.slice An m cn) := by rw [N_4.out.cell]; rfl
    have xR0 : V4.cell? ⟨w.heap.size + 1, 0, none⟩ = some (.int .i64 r0) := by rw [R_4.out.cell]; rfl
    have xR1 : V4.cell? ⟨w.heap.size + 1, 1, none⟩ = some (.int .i64 r1) := by rw [R_4.out.cell]; rfl
    have xR2 : V4.cell? ⟨w.heap.size + 1, 2, none⟩ = some (.int .i64 r2) := by rw [R_4.out.cell]; rfl
    have xR3 : V4.cell? ⟨w.heap.size + 1, 3, none⟩ = some (.int .i64 r3) := by rw [R_4.out.cell]; rfl
    have xR4 : V4.cell? ⟨w.heap.size + 1, 4, none⟩ = some (.int .i64 r4) := by rw [R_4.out.cell]; rfl
    go_wp2_with fail
    by_cases hr : remB k = true
    · skip
      obtain ⟨us, on, hrc⟩ : ∃ p o, recC k ces (r0, r1, r3, r4) = (p, o) := ⟨_, _, rfl⟩
      obtain ⟨m3, hm3⟩ : ∃ m, us.length = m := ⟨_, rfl⟩
      obtain ⟨out, hout⟩ : ∃ o, (if on = true then emitL zs (r1, r2) ky vy else []) = o := ⟨_, rfl⟩
      have HF := Lib.hid (show q = ((us, out), true) by rw [SN.out, ← HGO.out, ← hout]; exact stepN_mem (r := (r0, (r1, r2), r3, r4)) hr hrc)
      have HM3 := Lib.hid hm3
      have PP := Lib.hid (fun W hw h2 => proc_mem k a b zs m HM.out hmn An cn hcn.out As n2 cs r0 r1 r2 r3 r4 HOK.out HK.out HV.out W hw ces HL2.out S_4.out.nil (own_capS S_4.out.own) hn2 h2 hr hrc hm3 hout)
      clear hr hrc hm3 hout
      clear hW xN0 xN1 xN2 xN3 xR0 xR1 xR2 xR3 xR4
      refine (PP.out _ Z_4.out.is S_4.out.ce).mono ?_
      rintro e w6 ⟨A3, c3, A4, c4, m4, lm4, rfl, r3x, r4x, hb⟩
      have sz5 := hb.size
      have B5 := Lib.hid (below_chain B4.out hb)
      have S_5 := Lib.hid (S_4.out.below hb)
      have Z_5 := Lib.hid (Z_4.out.below hb)
      have G_5 := Lib.hid (G_4.out.below hb)
      have R_5 := Lib.hid (R_4.out.below hb)
      have N_5 := Lib.hid (N_4.out.below hb)
      clear hb B4 S_4 Z_4 G_4 R_4 N_4
      have LM := Lib.hid lm4
      clear lm4
      have X_5 := Lib.hid r3x
      clear r3x
      have Y_5 := Lib.hid r4x
      clear r4x
      go_wp2
      exact bodyPost_ret (v := .tuple #[.slice A3 m3 c3, .slice A4 m4 c4, .bool true]) (by simp [results, Try.results8, go_sem]) rfl (by rw [HF.out]; exact ⟨A3, c3, m3, A4, c4, m4, HM3.out, LM.out, rfl, own_base X_5.out.own (by omega), own_base Y_5.out.own (by omega), B5.out⟩)
    replace hr : remB k = false := by simpa using hr
    by_cases hk : k = 7
    · skip
      obtain ⟨out, hout⟩ : ∃ o, (if hasNext r1 r2 = true then emitL zs (r1, r2 + 1) ky vy else []) = o := ⟨_, rfl⟩
      have HF := Lib.hid (show q = ((ces, out), true) by rw [SN.out, ← HGO.out, ← hout, hk]; exact stepN_back (r := (r0, (r1, r2), r3, r4)))
      have PP := Lib.hid (fun W hw => proc_back k a b zs m HM.out hmn An cn hcn.out As n2 cs r0 r1 r2 r3 r4 HOK.out HK.out HV.out W hw hr hk hout)
      clear hr hk hout
      clear hW xN0 xN1 xN2 xN3 xR0 xR1 xR2 xR3 xR4
      refine (PP.out _ Z_4.out.is).mono ?_
      rintro e w6 ⟨A4, c4, m4, lm4, rfl, r4x, hb⟩
      have sz5 := hb.size
      have B5 := Lib.hid (below_chain B4.out hb)
      have S_5 := Lib.hid (S_4.out.below hb)
      have Z_5 := Lib.hid (Z_4.out.below hb)
      have G_5 := Lib.hid (G_4.out.below hb)
      have R_5 := Lib.hid (R_4.out.below hb)
      have N_5 := Lib.hid (N_4.out.below hb)
      clear hb B4 S_4 Z_4 G_4 R_4 N_4
      have LM := Lib.hid lm4
      clear lm4
      have Y_5 := Lib.hid r4x
      clear r4x
      go_wp2
      exact bodyPost_ret (v := .tuple #[.slice As n2 cs, .slice A4 m4 c4, .bool true]) (by simp [results, Try.results8, go_sem]) rfl (by rw [HF.out]; exact ⟨As, cs, n2, A4, c4, m4, HL2.out, LM.out, rfl, own_base S_5.out.own (by omega), own_base Y_5.out.own (by omega), B5.out⟩)
    · skip
      obtain ⟨out, hout⟩ : ∃ o, (if chgO true k a b r3 = true then emitL zs (r1, r2) ky vy else []) = o := ⟨_, rfl⟩
      have HF := Lib.hid (show q = ((ces, out), true) by rw [SN.out, ← HGO.out, ← hout]; exact stepN_else (r := (r0, (r1, r2), r3, r4)) hr hk)
      have PP := Lib.hid (fun W hw => proc_else k a b zs m HM.out hmn An cn hcn.out As n2 cs r0 r1 r2 r3 r4 HOK.out HK.out HV.out W hw hr hk hout)
      clear hr hk hout
      clear hW xN0 xN1 xN2 xN3 xR0 xR1 xR2 xR3 xR4
      refine (PP.out _ Z_4.out.is).mono ?_
      rintro e w6 ⟨A4, c4, m4, lm4, rfl, r4x, hb⟩
      have sz5 := hb.size
      have B5 := Lib.hid (below_chain B4.out hb)
      have S_5 := Lib.hid (S_4.out.below hb)
      have Z_5 := Lib.hid (Z_4.out.below hb)
      have G_5 := Lib.hid (G_4.out.below hb)
      have R_5 := Lib.hid (R_4.out.below hb)
      have N_5 := Lib.hid (N_4.out.below hb)
      clear hb B4 S_4 Z_4 G_4 R_4 N_4
      have LM := Lib.hid lm4
      clear lm4
      have Y_5 := Lib.hid r4x
      clear r4x
      go_wp2
      exact bodyPost_ret (v := .tuple #[.slice As n2 cs, .slice A4 m4 c4, .bool true]) (by simp [results, Try.results8, go_sem]) rfl (by rw [HF.out]; exact ⟨As, cs, n2, A4, c4, m4, HL2.out, LM.out, rfl, own_base S_5.out.own (by omega), own_base Y_5.out.own (by omega), B5.out⟩)
end Go.Proofs.Ytlanmkimaambgaa.hexes

