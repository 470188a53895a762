/-
  Cells that came into a law: what its walk is told of them.
-/
import Derived.Test.YtbbagpnjjjohpaaJ29
import Derived.Deep.Slices
import Derived.ChangeSame
import Derived.OpenShut
import Derived.Lib.SmallJoins

namespace Go.Proofs.Ytbbagpnjjjohpaa.hexes
open Go.RowKit Go.ChangeShapes Go.WideShapes Go.Deep Go.Joins

/-- All its numbers are of 64 bits. -/
def wfCe (z : Ce) : Prop := (Lit.int .i64 z.1).wf = true ∧ (Lit.int .i64 z.2.1).wf = true ∧ (Lit.int .i64 z.2.2.1).wf = true ∧ (Lit.int .i64 z.2.2.2).wf = true
/-- WHAT THE WALK IS TOLD OF A LIST THAT CAME IN. -/
structure IsCes (w : World) (a : Option Addr) (n : Nat) (zs : List Ce) : Prop where
  len : zs.length = n
  max : n ≤ maxLen
  ces : Ces w a zs
  wf : ∀ z ∈ zs, wfCe z

theorem addr_add_ce (b off : Nat) (j : Nat) : (Addr.add ⟨b, off, none⟩ j) = ⟨b, off + j, none⟩ := by unfold Addr.add; split <;> simp_all

theorem ce_cells {H : Type} {enc : TypeId × Value → H} {W : World} {base : Nat} {sp : Nat → Bool} {held : Bool} {fuel : Nat} {cs : List Value} {x : DataW H × List MemPlace}
    (h : DataW.trod enc Try.prog W base sp held fuel 59 cs = some x) : ∃ p0 p1 p2 p3 : Int, cs = [.int .i64 p0, .int .i64 p1, .int .i64 p2, .int .i64 p3] ∧ (Lit.int .i64 p0).wf = true ∧ (Lit.int .i64 p1).wf = true ∧ (Lit.int .i64 p2).wf = true ∧ (Lit.int .i64 p3).wf = true := by
  have ce_int : Try.prog.cellsOf 3 = 1 := by kernel_rfl
  have ce : Try.prog.cellsOf 59 = 4 := by kernel_rfl
  have hlen : cs.length = 4 := by
    obtain ⟨_, _, _, _, hl, _⟩ := DataW.trod_struct Try.underlying59 h
    rw [ce] at hl
    exact hl
  obtain ⟨v0, v1, v2, v3, rfl⟩ : ∃ v0 v1 v2 v3, cs = [v0, v1, v2, v3] := by
    rcases cs with _ | ⟨u0, _ | ⟨u1, _ | ⟨u2, _ | ⟨u3, _ | ⟨u4, us⟩⟩⟩⟩⟩
    · simp at hlen
    · simp at hlen
    · simp at hlen
    · simp at hlen
    · exact ⟨u0, u1, u2, u3, rfl⟩
    · simp at hlen
  obtain ⟨xs_1, k_1, _, _, hl_1, hxl_1, hf_1⟩ := DataW.trod_struct Try.underlying59 h
  have hxl2_1 : xs_1.length = 4 := hxl_1
  clear hxl_1 hl_1
  obtain ⟨y_1_0, y_1_1, y_1_2, y_1_3, rfl⟩ : ∃ y_1_0 y_1_1 y_1_2 y_1_3, xs_1 = [y_1_0, y_1_1, y_1_2, y_1_3] := by
    rcases xs_1 with _ | ⟨z0, _ | ⟨z1, _ | ⟨z2, _ | ⟨z3, _ | ⟨z4, zs⟩⟩⟩⟩⟩
    · simp at hxl2_1
    · simp at hxl2_1
    · simp at hxl2_1
    · simp at hxl2_1
    · exact ⟨z0, z1, z2, z3, rfl⟩
    · simp at hxl2_1
  have g_1_0 := hf_1 0 _ rfl
  have g_1_1 := hf_1 1 _ rfl
  have g_1_2 := hf_1 2 _ rfl
  have g_1_3 := hf_1 3 _ rfl
  simp [ce_int] at g_1_0 g_1_1 g_1_2 g_1_3
  clear hf_1
  obtain ⟨p0, e0, _, w0⟩ := DataW.trod_int Try.underlying3 g_1_0
  simp only [List.cons.injEq, and_true] at e0
  obtain ⟨p1, e1, _, w1⟩ := DataW.trod_int Try.underlying3 g_1_1
  simp only [List.cons.injEq, and_true] at e1
  obtain ⟨p2, e2, _, w2⟩ := DataW.trod_int Try.underlying3 g_1_2
  simp only [List.cons.injEq, and_true] at e2
  obtain ⟨p3, e3, _, w3⟩ := DataW.trod_int Try.underlying3 g_1_3
  simp only [List.cons.injEq, and_true] at e3
  exact ⟨p0, p1, p2, p3, by rw [e0, e1, e2, e3], w0, w1, w2, w3⟩

theorem isCes_of_trod {H : Type} {enc : TypeId × Value → H} {W : World} {fuel len cap : Nat} {a : Option Addr} {x : DataW H × List MemPlace}
    (h : DataW.trod enc Try.prog W 0 (fun _ => true) true fuel 58 [.slice a len cap] = some x) : ∃ zs, IsCes W a len zs := by
  rcases open_slice Try.underlying58 h with ⟨hcs, _⟩ | ⟨ad, l, c, m, n, D, Pl, hcs, _, hl, hm, hmm, _, hc⟩
  · simp only [List.cons.injEq, Value.slice.injEq, and_true] at hcs
    obtain ⟨rfl, rfl, rfl⟩ := hcs
    exact ⟨[], rfl, Nat.zero_le _, (fun h => absurd h (by simp)), fun z hz => by cases hz⟩
  · simp only [List.cons.injEq, Value.slice.injEq, and_true] at hcs
    obtain ⟨rfl, rfl, rfl⟩ := hcs
    simp only [if_true] at hmm
    subst hmm
    have ce : Try.prog.cellsOf 59 = 4 := by kernel_rfl
    have key : ∀ i, i < len → ∃ p0 p1 p2 p3 : Int, (W.cell? (ad.add (i * 4)) = some (.int .i64 p0) ∧ W.cell? (ad.add (i * 4 + 1)) = some (.int .i64 p1) ∧ W.cell? (ad.add (i * 4 + 2)) = some (.int .i64 p2) ∧ W.cell? (ad.add (i * 4 + 3)) = some (.int .i64 p3)) ∧ (Lit.int .i64 p0).wf = true ∧ (Lit.int .i64 p1).wf = true ∧ (Lit.int .i64 p2).wf = true ∧ (Lit.int .i64 p3).wf = true := fun i hi => by
      obtain ⟨cs', h1, h2⟩ := hc i (by omega)
      rw [ce] at h1
      obtain ⟨_, hlen, hcell⟩ := World.cells?_some h1
      obtain ⟨p0, p1, p2, p3, rfl, hw⟩ := ce_cells h2
      have e0 := hcell 0 (by omega)
      have e1 := hcell 1 (by omega)
      have e2 := hcell 2 (by omega)
      have e3 := hcell 3 (by omega)
      rw [add_add] at e0 e1 e2 e3
      exact ⟨p0, p1, p2, p3, ⟨by simpa using e0, by simpa using e1, by simpa using e2, by simpa using e3⟩, hw⟩
    have spot : 0 < len → ad = ⟨ad.block, ad.off, none⟩ := fun hp => by
      obtain ⟨p0, p1, p2, p3, ⟨h0, _⟩, _⟩ := key 0 hp
      have : ad.spot = none := by simpa [Addr.add] using World.cell?_spot h0
      cases ad; simp_all
    have build : ∀ k, k ≤ len → ∃ zs : List Ce, zs.length = k ∧ (∀ j, (h : j < zs.length) → W.cell? (ad.add (j * 4)) = some (.int .i64 zs[j].1) ∧ W.cell? (ad.add (j * 4 + 1)) = some (.int .i64 zs[j].2.1) ∧ W.cell? (ad.add (j * 4 + 2)) = some (.int .i64 zs[j].2.2.1) ∧ W.cell? (ad.add (j * 4 + 3)) = some (.int .i64 zs[j].2.2.2)) ∧ ∀ z ∈ zs, wfCe z := by
      intro k
      induction k with
      | zero => exact fun _ => ⟨[], rfl, fun j h => absurd h (by simp), fun z hz => by cases hz⟩
      | succ k ih =>
        intro hk
        obtain ⟨zs, hl', hz, hwz⟩ := ih (by omega)
        obtain ⟨p0, p1, p2, p3, hcc, hw⟩ := key k (by omega)
        refine ⟨zs ++ [(p0, p1, p2, p3)], by simp [hl'], fun j hj => ?_, fun z hz => ?_⟩
        · by_cases hj2 : j < zs.length
          · rw [List.getElem_append_left hj2]
            exact hz j hj2
          · have hjk : j = k := by simp at hj; omega
            subst hjk
            rw [List.getElem_append_right (by omega)]
            simp only [hl', Nat.sub_self, List.getElem_cons_zero]
            exact hcc
        · rcases List.mem_append.1 hz with h' | h'
          · exact hwz z h'
          · simp only [List.mem_singleton] at h'
            subst h'
            exact hw
    obtain ⟨zs, hl', hz, hwz⟩ := build len (Nat.le_refl _)
    refine ⟨zs, hl', Nat.le_trans hl hm, fun hp => ?_, hwz⟩
    have hs := spot (by omega)
    refine ⟨ad.block, ad.off, by rw [← hs], ?_, fun j hj => ?_⟩
    · have h0 := (hz 0 (by omega)).1
      rw [hs, addr_add_ce] at h0
      exact World.block_lt_of_cell? W ⟨ad.block, ad.off + 0 * 4, none⟩ h0
    · obtain ⟨h0, h1, h2, h3⟩ := hz j hj
      rw [hs, addr_add_ce] at h0 h1 h2 h3
      exact ⟨h0, by rw [Nat.add_assoc]; exact h1, by rw [Nat.add_assoc]; exact h2, by rw [Nat.add_assoc]; exact h3⟩
end Go.Proofs.Ytbbagpnjjjohpaa.hexes

