/-
  Graphs that a draw gave: lists of nodes that lie from a block on.
-/
import Derived.Test.YtjplkoglibagkaaJ33

namespace Go.Proofs.Ytjplkoglibagkaa.hexes
open Go.RowKit

/-- A list of nodes that can be read at A, all of it from block B on. -/
def NdsF (B : Nat) (w : World) (A : Option Addr) (gs : List Nd) : Prop :=
  0 < gs.length → ∃ b off, A = some ⟨b, off, none⟩ ∧ B ≤ b ∧ b < w.heap.size ∧ ∀ j, (h : j < gs.length) → ∃ v : Nv, NdFits w v gs[j] ∧ (∀ b' off', v.2.2.2.1 = some ⟨b', off', none⟩ → B ≤ b') ∧
    w.cell? ⟨b, off + j * 4, none⟩ = some (.int .i64 v.1) ∧ w.cell? ⟨b, off + j * 4 + 1, none⟩ = some (.int .i64 v.2.1) ∧ w.cell? ⟨b, off + j * 4 + 2, none⟩ = some (.int .i64 v.2.2.1) ∧ w.cell? ⟨b, off + j * 4 + 3, none⟩ = some (.slice v.2.2.2.1 v.2.2.2.2.1 v.2.2.2.2.2)

theorem NdsF.nds {B : Nat} {w : World} {A : Option Addr} {gs : List Nd} (h : NdsF B w A gs) : Nds w A gs := fun hl => by
  obtain ⟨b, off, hA, _, hlt, hz⟩ := h hl
  refine ⟨b, off, hA, hlt, fun j hj => ?_⟩
  obtain ⟨v, hf, _, hc⟩ := hz j hj
  exact ⟨v, hf, hc⟩

theorem Ints.grown {w w' : World} {A : Option Addr} {zs : List Int} {c : Nat} (h : Ints w A zs) (hg : w.grownBy w' (some c)) (hc : ∀ b off, A = some ⟨b, off, none⟩ → b ≠ c) : Ints w' A zs := fun hl => by
  obtain ⟨b, off, hA, hlt, hz⟩ := h hl
  refine ⟨b, off, hA, Nat.lt_of_lt_of_le hlt hg.size, fun j hj => ?_⟩
  rw [World.cell?_of_block (a := ⟨b, off + j, none⟩) (hg.block b hlt (by simpa using hc b off hA))]
  exact hz j hj

theorem NdsF.grown {B : Nat} {w w' : World} {A : Option Addr} {gs : List Nd} {c : Nat} (h : NdsF B w A gs) (hg : w.grownBy w' (some c)) (hc : c < B) : NdsF B w' A gs := fun hl => by
  obtain ⟨b, off, hA, hB, hlt, hz⟩ := h hl
  have key : ∀ o, w'.cell? ⟨b, o, none⟩ = w.cell? ⟨b, o, none⟩ := fun o => World.cell?_of_block (a := ⟨b, o, none⟩) (hg.block b hlt (by simp; omega))
  refine ⟨b, off, hA, hB, Nat.lt_of_lt_of_le hlt hg.size, fun j hj => ?_⟩
  obtain ⟨v, hf, hv, h0, h1, h2, h3⟩ := hz j hj
  refine ⟨v, ⟨hf.k, hf.a, hf.b, hf.len, hf.cap, hf.is.grown hg (fun b' off' e => by have := hv b' off' e; omega), hf.nil⟩, hv, ?_, ?_, ?_, ?_⟩
  · rw [key]; exact h0
  · rw [key]; exact h1
  · rw [key]; exact h2
  · rw [key]; exact h3

theorem NdsF.below {B : Nat} {w w' : World} {A : Option Addr} {gs : List Nd} (h : NdsF B w A gs) (hb : Below w.heap.size w w') : NdsF B w' A gs := fun hl => by
  obtain ⟨b, off, hA, hB, hlt, hz⟩ := h hl
  refine ⟨b, off, hA, hB, Nat.lt_of_lt_of_le hlt hb.size, fun j hj => ?_⟩
  obtain ⟨v, hf, hv, h0, h1, h2, h3⟩ := hz j hj
  exact ⟨v, hf.below hb, hv, below_keep hb h0, below_keep hb h1, below_keep hb h2, below_keep hb h3⟩

theorem NdsF.take {B : Nat} {w : World} {A : Option Addr} {gs : List Nd} (h : NdsF B w A gs) (k : Nat) : NdsF B w A (gs.take k) := fun hl => by
  have hl2 : 0 < gs.length := by rw [List.length_take] at hl; omega
  obtain ⟨b, off, hA, hB, hlt, hz⟩ := h hl2
  refine ⟨b, off, hA, hB, hlt, fun j hj => ?_⟩
  have hj2 : j < gs.length := by rw [List.length_take] at hj; omega
  rw [List.getElem_take]
  exact hz j hj2

theorem NdsF.lower {B C : Nat} {w : World} {A : Option Addr} {gs : List Nd} (h : NdsF B w A gs) (hC : C ≤ B) : NdsF C w A gs := fun hl => by
  obtain ⟨b, off, hA, hB, hlt, hz⟩ := h hl
  refine ⟨b, off, hA, Nat.le_trans hC hB, hlt, fun j hj => ?_⟩
  obtain ⟨v, hf, hv, hc⟩ := hz j hj
  exact ⟨v, hf, fun b' off' e => Nat.le_trans hC (hv b' off' e), hc⟩

/-- The nodes that a row's cells stand for. -/
theorem inn_lists {b w : World} : ∀ (vs : List Nv), (∀ v ∈ vs, Inn b w v) → ∃ gs : List Nd, gs.length = vs.length ∧ ∀ i (h1 : i < vs.length) (h2 : i < gs.length), vs[i].1 = gs[i].1 ∧ vs[i].2.1 = gs[i].2.1 ∧ vs[i].2.2.1 = gs[i].2.2.1 ∧ gs[i].2.2.2.length = vs[i].2.2.2.2.1 ∧ vs[i].2.2.2.2.1 ≤ 4 ∧ w.ownsRow b.heap.size 3 1 (.slice vs[i].2.2.2.1 vs[i].2.2.2.2.1 vs[i].2.2.2.2.2) vs[i].2.2.2.2.1 (isCells gs[i].2.2.2) := by
  intro vs
  induction vs with
  | nil => exact fun _ => ⟨[], rfl, fun i h => absurd h (by simp)⟩
  | cons v vs ih =>
    intro h
    obtain ⟨gs, hl, hz⟩ := ih (fun u hu => h u (List.mem_cons_of_mem _ hu))
    obtain ⟨h4, zs, hzl, ho⟩ := h v (by simp)
    refine ⟨(v.1, v.2.1, v.2.2.1, zs) :: gs, by simp [hl], fun i h1 h2 => ?_⟩
    cases i with
    | zero => exact ⟨rfl, rfl, rfl, hzl, h4, ho⟩
    | succ i => exact hz i (by simpa using h1) (by simpa using h2)

/-- An owned row of nodes, each with a list of its own, reads as a list of nodes. -/
theorem ndsF_of {b w : World} {A : Option Addr} {n c : Nat} {vs : List Nv} (hr : w.ownsRow b.heap.size 37 4 (.slice A n c) n (nvCells vs)) (hl : vs.length = n) (hi : ∀ v ∈ vs, Inn b w v) :
    ∃ gs : List Nd, gs.length = n ∧ (∀ x ∈ gs, x.2.2.2.length ≤ 4) ∧ NdsF b.heap.size w A gs := by
  obtain ⟨gs, hgl, hz⟩ := inn_lists vs hi
  refine ⟨gs, by rw [hgl, hl], fun x hx => ?_, fun hp => ?_⟩
  · obtain ⟨i, hi2, rfl⟩ := List.getElem_of_mem hx
    have q := hz i (by omega) hi2
    omega
  · have hn : 0 < n := by omega
    obtain ⟨A', c', he, hf⟩ := own_form hr
    simp only [Value.slice.injEq, true_and] at he
    obtain ⟨rfl, rfl⟩ := he
    obtain ⟨g, rfl⟩ := hf hn
    refine ⟨g, 0, rfl, own_ge hr g rfl, own_lt hr, fun j hj => ?_⟩
    have hjv : j < vs.length := by omega
    obtain ⟨e0, e1, e2, e3⟩ := nvCells_at vs j hjv
    obtain ⟨f0, f1, f2, f3, f4, fo⟩ := hz j hjv hj
    obtain ⟨A2, c2, he, _, hs⟩ := Ints.of_own fo
    simp only [Value.slice.injEq, true_and] at he
    obtain ⟨e5, e6⟩ := he
    have hcap : vs[j].2.2.2.2.1 ≤ vs[j].2.2.2.2.2 := by
      rcases fo.2 with ⟨h0, h00⟩ | ⟨g', cap, cur, hv, _, _, hnc, _⟩
      · omega
      · simp only [Value.slice.injEq, true_and] at hv
        omega
    refine ⟨vs[j], ⟨f0, f1, f2, f3, hcap, by rw [e5]; exact hs, own_nil fo⟩, fun b' off' e => ?_, ?_, ?_, ?_, ?_⟩
    · rcases fo.2 with ⟨h0, h00⟩ | ⟨g', cap, cur, hv, hB, _⟩
      · simp only [Value.slice.injEq] at h0
        rw [h0.1] at e; cases e
      · simp only [Value.slice.injEq] at hv
        rw [hv.1] at e
        cases e
        exact hB
    · rw [Nat.zero_add, hr.cellAt (j * 4) (by omega)]; exact e0
    · rw [Nat.zero_add, hr.cellAt (j * 4 + 1) (by omega)]; exact e1
    · rw [Nat.zero_add, hr.cellAt (j * 4 + 2) (by omega)]; exact e2
    · rw [Nat.zero_add, hr.cellAt (j * 4 + 3) (by omega)]; exact e3

/-- How a drawn graph ends. -/
def GaEnd (w : World) (c : Nat) (A : Option Addr) (len cap : Nat) (e : Ending) (w' : World) : Prop :=
  ∃ (A1 : Option Addr) (n c1 : Nat) (wk cp : Int) (gs : List Nd), n ≤ 9 ∧ gs.length = n ∧ (∀ x ∈ gs, x.2.2.2.length ≤ 4) ∧ e = .returned (.agg #[.slice A1 n c1, .int .i64 wk, .int .i64 cp]) ∧ NdsF w.heap.size w' A1 gs ∧ Cursor w' c A len cap ∧ w.grownBy w' (some c)

end Go.Proofs.Ytjplkoglibagkaa.hexes

