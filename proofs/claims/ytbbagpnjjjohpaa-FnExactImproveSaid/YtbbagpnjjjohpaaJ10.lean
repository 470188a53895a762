/-
  Graphs that came into a law: what its walk is told of them.
-/
import Derived.Test.YtbbagpnjjjohpaaJ9
import Derived.Test.YtbbagpnjjjohpaaJ6
import Derived.Lib.SmallJoins
import Derived.Deep.Slices
import Derived.ChangeSame
import Derived.OpenShut

namespace Go.Proofs.Ytbbagpnjjjohpaa.hexes
open Go.RowKit Go.ChangeShapes Go.WideShapes Go.Deep Go.Joins

/-- WHAT THE WALK IS TOLD OF A LIST OF NODES THAT CAME IN. -/
structure IsNds (w : World) (a : Option Addr) (n : Nat) (gs : List Nd) : Prop where
  len : gs.length = n
  max : n ≤ maxLen
  is : Nds w a gs
  outs : ∀ x ∈ gs, x.2.2.2.length ≤ maxLen
  wf : ∀ x ∈ gs, (Lit.int .i64 x.1).wf = true ∧ (Lit.int .i64 x.2.1).wf = true ∧ (Lit.int .i64 x.2.2.1).wf = true ∧ ∀ z ∈ x.2.2.2, (Lit.int .i64 z).wf = true

set_option maxRecDepth 100000 in
theorem nd_cells {H : Type} {enc : TypeId × Value → H} {W : World} {fuel : Nat} {cs : List Value} {x : DataW H × List MemPlace}
    (hf : DataW.trod enc Try.prog W 0 (fun _ => true) true fuel 128 cs = some x) :
    ∃ (A : Option Addr) (n c : Nat) (zs : List Int) (k a b : Int), cs = [.int .i64 k, .int .i64 a, .int .i64 b, .slice A n c] ∧ IsInts W A n zs ∧ n ≤ c ∧ (A = none → c = 0) ∧ (Lit.int .i64 k).wf = true ∧ (Lit.int .i64 a).wf = true ∧ (Lit.int .i64 b).wf = true := by
  have ce_int : Try.prog.cellsOf 3 = 1 := by kernel_rfl
  have ce_sl : Try.prog.cellsOf 44 = 1 := by kernel_rfl
  have ce : Try.prog.cellsOf 128 = 4 := by kernel_rfl
  have hlen : cs.length = 4 := by
    obtain ⟨_, _, _, _, hl, _⟩ := DataW.trod_struct Try.underlying128 hf
    rw [ce] at hl
    exact hl
  obtain ⟨v0, v1, v2, v3, hcs⟩ : ∃ v0 v1 v2 v3, cs = [v0, v1, v2, v3] := by
    rcases hq : cs with _ | ⟨u0, _ | ⟨u1, _ | ⟨u2, _ | ⟨u3, _ | ⟨u4, us⟩⟩⟩⟩⟩
    all_goals rw [hq] at hlen
    case cons.cons.cons.cons.nil => exact ⟨u0, u1, u2, u3, rfl⟩
    all_goals simp at hlen
  rw [hcs] at hf
  obtain ⟨xs, k, _, _, hl, hxl, hfl⟩ := DataW.trod_struct Try.underlying128 hf
  have hxl2 : xs.length = 4 := hxl
  clear hxl hl
  obtain ⟨y0, y1, y2, y3, rfl⟩ : ∃ y0 y1 y2 y3, xs = [y0, y1, y2, y3] := by
    rcases xs with _ | ⟨z0, _ | ⟨z1, _ | ⟨z2, _ | ⟨z3, _ | ⟨z4, zs⟩⟩⟩⟩⟩
    case cons.cons.cons.cons.nil => exact ⟨z0, z1, z2, z3, rfl⟩
    all_goals simp at hxl2
  have g0 := hfl 0 _ rfl
  have g1 := hfl 1 _ rfl
  have g2 := hfl 2 _ rfl
  have g3 := hfl 3 _ rfl
  simp [ce_int, ce_sl] at g0 g1 g2 g3
  clear hfl
  obtain ⟨p, e0, _, w0⟩ := DataW.trod_int Try.underlying3 g0
  obtain ⟨a, e1, _, w1⟩ := DataW.trod_int Try.underlying3 g1
  obtain ⟨b, e2, _, w2⟩ := DataW.trod_int Try.underlying3 g2
  simp only [List.cons.injEq, and_true] at e0 e1 e2
  obtain ⟨A, n, c, hv3, hnc, hnil⟩ : ∃ A n c, v3 = .slice A n c ∧ n ≤ c ∧ (A = none → c = 0) := by
    rcases open_slice Try.underlying44 g3 with ⟨hc, _⟩ | ⟨ad, l, c, m, n, D, Pl, hc, _, hlc, _⟩
    · simp only [List.cons.injEq, and_true] at hc; exact ⟨_, _, _, hc, Nat.zero_le _, fun _ => rfl⟩
    · simp only [List.cons.injEq, and_true] at hc; exact ⟨_, _, _, hc, hlc, fun h => by cases h⟩
  subst hv3
  obtain ⟨zs, hzs⟩ := isInts_of_trod g3
  refine ⟨A, n, c, zs, p, a, b, ?_, hzs, hnc, hnil, w0, w1, w2⟩
  rw [hcs, e0, e1, e2]

theorem isNds_of_trod {H : Type} {enc : TypeId × Value → H} {W : World} {fuel len cap : Nat} {a : Option Addr} {x : DataW H × List MemPlace}
    (h : DataW.trod enc Try.prog W 0 (fun _ => true) true fuel 55 [.slice a len cap] = some x) : ∃ gs, IsNds W a len gs := by
  rcases open_slice Try.underlying55 h with ⟨hcs, _⟩ | ⟨ad, l, c, m, n, D, Pl, hcs, _, hl, hm, hmm, _, hc⟩
  · simp only [List.cons.injEq, Value.slice.injEq, and_true] at hcs
    obtain ⟨rfl, rfl, rfl⟩ := hcs
    exact ⟨[], rfl, Nat.zero_le _, (fun h => absurd h (by simp)), (fun z hz => by cases hz), (fun z hz => by cases hz)⟩
  · simp only [List.cons.injEq, Value.slice.injEq, and_true] at hcs
    obtain ⟨rfl, rfl, rfl⟩ := hcs
    simp only [if_true] at hmm
    subst hmm
    have ce : Try.prog.cellsOf 128 = 4 := by kernel_rfl
    have key : ∀ i, i < len → ∃ (v : Nv) (g : Nd), NdFits W v g ∧ (W.cell? (ad.add (i * 4)) = some (.int .i64 v.1) ∧ W.cell? (ad.add (i * 4 + 1)) = some (.int .i64 v.2.1) ∧ W.cell? (ad.add (i * 4 + 2)) = some (.int .i64 v.2.2.1) ∧ W.cell? (ad.add (i * 4 + 3)) = some (.slice v.2.2.2.1 v.2.2.2.2.1 v.2.2.2.2.2)) ∧
        g.2.2.2.length ≤ maxLen ∧ (Lit.int .i64 g.1).wf = true ∧ (Lit.int .i64 g.2.1).wf = true ∧ (Lit.int .i64 g.2.2.1).wf = true ∧ ∀ z ∈ g.2.2.2, (Lit.int .i64 z).wf = true := fun i hi => by
      obtain ⟨cs', h1, h2⟩ := hc i (by omega)
      rw [ce] at h1
      obtain ⟨_, hlen, hcell⟩ := World.cells?_some h1
      obtain ⟨A, n1, c1, zs, k, p, q, rfl, hz, hnc, hnil, hw0, hw1, hw2⟩ := nd_cells h2
      have e0 := hcell 0 (by omega)
      have e1 := hcell 1 (by omega)
      have e2 := hcell 2 (by omega)
      have e3 := hcell 3 (by omega)
      rw [add_add] at e0 e1 e2 e3
      exact ⟨(k, p, q, A, n1, c1), (k, p, q, zs), ⟨rfl, rfl, rfl, hz.len, hnc, hz.is, hnil⟩, ⟨by simpa using e0, by simpa using e1, by simpa using e2, by simpa using e3⟩, by rw [hz.len]; exact hz.max, hw0, hw1, hw2, hz.wf⟩
    have spot : 0 < len → ad = ⟨ad.block, ad.off, none⟩ := fun hp => by
      obtain ⟨v, g, _, ⟨h0, _⟩, _⟩ := key 0 hp
      have : ad.spot = none := by simpa [Addr.add] using World.cell?_spot h0
      cases ad; simp_all
    have build : ∀ k, k ≤ len → ∃ gs : List Nd, gs.length = k ∧ (∀ j, (h : j < gs.length) → ∃ v : Nv, NdFits W v gs[j] ∧ (W.cell? (ad.add (j * 4)) = some (.int .i64 v.1) ∧ W.cell? (ad.add (j * 4 + 1)) = some (.int .i64 v.2.1) ∧ W.cell? (ad.add (j * 4 + 2)) = some (.int .i64 v.2.2.1) ∧ W.cell? (ad.add (j * 4 + 3)) = some (.slice v.2.2.2.1 v.2.2.2.2.1 v.2.2.2.2.2))) ∧
        ∀ g ∈ gs, g.2.2.2.length ≤ maxLen ∧ (Lit.int .i64 g.1).wf = true ∧ (Lit.int .i64 g.2.1).wf = true ∧ (Lit.int .i64 g.2.2.1).wf = true ∧ ∀ z ∈ g.2.2.2, (Lit.int .i64 z).wf = true := by
      intro k
      induction k with
      | zero => exact fun _ => ⟨[], rfl, fun j h => absurd h (by simp), fun z hz => by cases hz⟩
      | succ k ih =>
        intro hk
        obtain ⟨gs, hl', hz, hwz⟩ := ih (by omega)
        obtain ⟨v, g, hfit, hcc, hw⟩ := key k (by omega)
        refine ⟨gs ++ [g], by simp [hl'], fun j hj => ?_, fun z hz => ?_⟩
        · by_cases hj2 : j < gs.length
          · rw [List.getElem_append_left hj2]
            exact hz j hj2
          · have hjk : j = k := by simp at hj; omega
            subst hjk
            rw [List.getElem_append_right (by omega)]
            simp only [hl', Nat.sub_self, List.getElem_cons_zero]
            exact ⟨v, hfit, hcc⟩
        · rcases List.mem_append.1 hz with h' | h'
          · exact hwz z h'
          · simp only [List.mem_singleton] at h'
            subst h'
            exact hw
    obtain ⟨gs, hl', hz, hwz⟩ := build len (Nat.le_refl _)
    refine ⟨gs, hl', Nat.le_trans hl hm, fun hp => ?_, fun g hg => (hwz g hg).1, fun g hg => (hwz g hg).2⟩
    have hadd : ∀ b o j, (Addr.add ⟨b, o, none⟩ j) = ⟨b, o + j, none⟩ := fun b o j => by clear hz hwz build key spot; unfold Addr.add; split <;> simp_all
    have hs := spot (by omega)
    refine ⟨ad.block, ad.off, by rw [← hs], ?_, fun j hj => ?_⟩
    · obtain ⟨v, _, h0, _⟩ := hz 0 (by omega)
      rw [hs, hadd] at h0
      exact World.block_lt_of_cell? W ⟨ad.block, ad.off + 0 * 4, none⟩ h0
    · obtain ⟨v, hfit, h0, h1, h2, h3⟩ := hz j hj
      rw [hs, hadd] at h0 h1 h2 h3
      exact ⟨v, hfit, h0, by rw [Nat.add_assoc]; exact h1, by rw [Nat.add_assoc]; exact h2, by rw [Nat.add_assoc]; exact h3⟩

set_option maxRecDepth 100000 in
theorem isGr_of_trod {H : Type} {enc : TypeId × Value → H} {W : World} {r : Reach} {b0 : Nat} {v : Value} {d : DataW H} {pl : List MemPlace}
    (hv : Value.okWide Try.prog W r b0 57 v) (h : DataW.Trod enc Try.prog W 0 (fun _ => true) true 57 v d pl) :
    ∃ (A : Option Addr) (n c : Nat) (gs : List Nd) (wk cp : Int), v = .agg #[.slice A n c, .int .i64 wk, .int .i64 cp] ∧ IsNds W A n gs ∧ n ≤ c ∧ (Lit.int .i64 wk).wf = true ∧ (Lit.int .i64 cp).wf = true := by
  obtain ⟨cs, rfl, hok⟩ := okWide_struct Try.underlying57 hv
  obtain ⟨fuel, hf⟩ := h
  have ce_int : Try.prog.cellsOf 3 = 1 := by kernel_rfl
  have ce_sl : Try.prog.cellsOf 55 = 1 := by kernel_rfl
  have ce : Try.prog.cellsOf 57 = 3 := by kernel_rfl
  have hf' : DataW.trod enc Try.prog W 0 (fun _ => true) true fuel 57 cs.toList = some (d, pl) := by simpa [Value.cells] using hf
  have hlen : cs.toList.length = 3 := by
    obtain ⟨_, _, _, _, hl, _⟩ := DataW.trod_struct Try.underlying57 hf'
    rw [ce] at hl
    exact hl
  obtain ⟨v0, v1, v2, hcs⟩ : ∃ v0 v1 v2, cs.toList = [v0, v1, v2] := by
    rcases hq : cs.toList with _ | ⟨u0, _ | ⟨u1, _ | ⟨u2, _ | ⟨u3, us⟩⟩⟩⟩
    all_goals rw [hq] at hlen
    case cons.cons.cons.nil => exact ⟨u0, u1, u2, rfl⟩
    all_goals simp at hlen
  rw [hcs] at hf'
  obtain ⟨xs, k, _, _, hl, hxl, hfl⟩ := DataW.trod_struct Try.underlying57 hf'
  have hxl2 : xs.length = 3 := hxl
  clear hxl hl
  obtain ⟨y0, y1, y2, rfl⟩ : ∃ y0 y1 y2, xs = [y0, y1, y2] := by
    rcases xs with _ | ⟨z0, _ | ⟨z1, _ | ⟨z2, _ | ⟨z3, zs⟩⟩⟩⟩
    case cons.cons.cons.nil => exact ⟨z0, z1, z2, rfl⟩
    all_goals simp at hxl2
  have g0 := hfl 0 _ rfl
  have g1 := hfl 1 _ rfl
  have g2 := hfl 2 _ rfl
  simp [ce_int, ce_sl] at g0 g1 g2
  clear hfl
  obtain ⟨p, e1, _, w1⟩ := DataW.trod_int Try.underlying3 g1
  obtain ⟨q, e2, _, w2⟩ := DataW.trod_int Try.underlying3 g2
  simp only [List.cons.injEq, and_true] at e1 e2
  obtain ⟨A, n, c, hv0, hnc⟩ : ∃ A n c, v0 = .slice A n c ∧ n ≤ c := by
    rcases open_slice Try.underlying55 g0 with ⟨hc, _⟩ | ⟨ad, l, c, m, n, D, Pl, hc, _, hlc, _⟩
    · simp only [List.cons.injEq, and_true] at hc; exact ⟨_, _, _, hc, Nat.zero_le _⟩
    · simp only [List.cons.injEq, and_true] at hc; exact ⟨_, _, _, hc, hlc⟩
  subst hv0
  obtain ⟨gs, hgs⟩ := isNds_of_trod g0
  refine ⟨A, n, c, gs, p, q, ?_, hgs, hnc, w1, w2⟩
  rw [← Array.toArray_toList (xs := cs), hcs, e1, e2]
end Go.Proofs.Ytbbagpnjjjohpaa.hexes

