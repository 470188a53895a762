/-
  A count table that came into a law: what its walk is told of it; boxes of stamps; rows with another base.
-/
import Derived.Test.YtiehpniogehkmaaCtKit
import Derived.Deep.Slices
import Derived.ChangeSame
import Derived.OpenShut
namespace Go.Proofs.Ytiehpniogehkmaa.hexes
open Go.RowKit Go.ChangeShapes Go.WideShapes Go.Deep

/-- WHAT THE WALK IS TOLD OF A TABLE THAT CAME IN. -/
structure IsCts (w : World) (a : Option Addr) (n : Nat) (zs : List Ct) : Prop where
  len : zs.length = n
  max : n ≤ maxLen
  cts : Cts w a zs

theorem addr_addc (b off : Nat) (j : Nat) : (Addr.add ⟨b, off, none⟩ j) = ⟨b, off + j, none⟩ := by unfold Addr.add; split <;> simp_all

theorem ct_cells {H : Type} {enc : TypeId × Value → H} {W : World} {fuel : Nat} {cs : List Value} {x : DataW H × List MemPlace}
    (h : DataW.trod enc Try.prog W 0 (fun _ => true) true fuel 77 cs = some x) : ∃ p0 p1 p2 : Int, cs = [.int .i64 p0, .int .i64 p1, .int .i64 p2] := by
  obtain ⟨xs, k, _, _, hl, hxl, hf⟩ := DataW.trod_struct Try.underlying77 h
  have ce : Try.prog.cellsOf 77 = 3 := by kernel_rfl
  have cs2 : Try.prog.cellsOf 48 = 2 := by kernel_rfl
  have ci : Try.prog.cellsOf 3 = 1 := by kernel_rfl
  rw [ce] at hl
  clear h
  have hxl2 : xs.length = 2 := hxl
  clear hxl
  obtain ⟨v0, v1, v2, rfl⟩ : ∃ v0 v1 v2, cs = [v0, v1, v2] := by
    rcases cs with _ | ⟨v0, _ | ⟨v1, _ | ⟨v2, _ | ⟨v3, cs⟩⟩⟩⟩
    · simp at hl
    · simp at hl
    · simp at hl
    · exact ⟨v0, v1, v2, rfl⟩
    · simp at hl
  obtain ⟨y0, y1, rfl⟩ : ∃ y0 y1, xs = [y0, y1] := by
    rcases xs with _ | ⟨y0, _ | ⟨y1, _ | ⟨y2, xs⟩⟩⟩
    · simp at hxl2
    · simp at hxl2
    · exact ⟨y0, y1, rfl⟩
    · simp at hxl2
  have g0 := hf 0 _ rfl
  have g1 := hf 1 _ rfl
  simp [cs2, ci] at g0 g1
  clear hf
  obtain ⟨ys, k2, _, _, hl2, hyl, hf2⟩ := DataW.trod_struct Try.underlying48 g0
  have hyl2 : ys.length = 2 := hyl
  clear hyl
  obtain ⟨z0, z1, rfl⟩ : ∃ y0 y1, ys = [y0, y1] := by
    rcases ys with _ | ⟨y0, _ | ⟨y1, _ | ⟨y2, xs⟩⟩⟩
    · simp at hyl2
    · simp at hyl2
    · exact ⟨y0, y1, rfl⟩
    · simp at hyl2
  have q0 := hf2 0 _ rfl
  have q1 := hf2 1 _ rfl
  simp [ci] at q0 q1
  obtain ⟨p0, e0, _, _⟩ := DataW.trod_int Try.underlying3 q0
  obtain ⟨p1, e1, _, _⟩ := DataW.trod_int Try.underlying3 q1
  obtain ⟨p2, e2, _, _⟩ := DataW.trod_int Try.underlying3 g1
  simp only [List.cons.injEq, and_true] at e0 e1 e2
  exact ⟨p0, p1, p2, by rw [e0, e1, e2]⟩

theorem isCts_of_trod {H : Type} {enc : TypeId × Value → H} {W : World} {fuel len cap : Nat} {a : Option Addr} {x : DataW H × List MemPlace}
    (h : DataW.trod enc Try.prog W 0 (fun _ => true) true fuel 44 [.slice a len cap] = some x) : ∃ zs, IsCts W a len zs := by
  rcases open_slice Try.underlying44 h with ⟨hcs, _⟩ | ⟨ad, l, c, m, n, D, Pl, hcs, _, hl, hm, hmm, _, hc⟩
  · simp only [List.cons.injEq, Value.slice.injEq, and_true] at hcs
    obtain ⟨rfl, rfl, rfl⟩ := hcs
    exact ⟨[], rfl, Nat.zero_le _, (fun h => absurd h (by simp))⟩
  · simp only [List.cons.injEq, Value.slice.injEq, and_true] at hcs
    obtain ⟨rfl, rfl, rfl⟩ := hcs
    simp only [if_true] at hmm
    subst hmm
    have ce : Try.prog.cellsOf 77 = 3 := by kernel_rfl
    have key : ∀ i, i < len → ∃ p0 p1 p2 : Int, W.cell? (ad.add (i * 3)) = some (.int .i64 p0) ∧ W.cell? (ad.add (i * 3 + 1)) = some (.int .i64 p1) ∧ W.cell? (ad.add (i * 3 + 2)) = some (.int .i64 p2) := fun i hi => by
      obtain ⟨cs', h1, h2⟩ := hc i (by omega)
      rw [ce] at h1
      obtain ⟨_, hlen, hcell⟩ := World.cells?_some h1
      obtain ⟨p0, p1, p2, rfl⟩ := ct_cells h2
      have e0 := hcell 0 (by omega)
      have e1 := hcell 1 (by omega)
      have e2 := hcell 2 (by omega)
      rw [add_add] at e0 e1 e2
      exact ⟨p0, p1, p2, by simpa using e0, by simpa using e1, by simpa using e2⟩
    have spot : 0 < len → ad = ⟨ad.block, ad.off, none⟩ := fun hp => by
      obtain ⟨p, q, r, h0, _⟩ := key 0 hp
      have : ad.spot = none := by simpa [Addr.add] using World.cell?_spot h0
      cases ad; simp_all
    have build : ∀ k, k ≤ len → ∃ zs : List Ct, zs.length = k ∧ ∀ j, (h : j < zs.length) → W.cell? (ad.add (j * 3)) = some (.int .i64 zs[j].1.1) ∧ W.cell? (ad.add (j * 3 + 1)) = some (.int .i64 zs[j].1.2) ∧ W.cell? (ad.add (j * 3 + 2)) = some (.int .i64 zs[j].2) := by
      intro k
      induction k with
      | zero => exact fun _ => ⟨[], rfl, fun j h => absurd h (by simp)⟩
      | succ k ih =>
        intro hk
        obtain ⟨zs, hl', hz⟩ := ih (by omega)
        obtain ⟨p, q, r, h0, h1, h2⟩ := key k (by omega)
        refine ⟨zs ++ [((p, q), r)], by simp [hl'], fun j hj => ?_⟩
        by_cases hj2 : j < zs.length
        · rw [List.getElem_append_left hj2]
          exact hz j hj2
        · have hjk : j = k := by simp at hj; omega
          subst hjk
          rw [List.getElem_append_right (by omega)]
          simp only [hl', Nat.sub_self, List.getElem_cons_zero]
          exact ⟨h0, h1, h2⟩
    obtain ⟨zs, hl', hz⟩ := build len (Nat.le_refl _)
    refine ⟨zs, hl', Nat.le_trans hl hm, fun hp => ?_⟩
    have hs := spot (by omega)
    refine ⟨ad.block, ad.off, by rw [← hs], ?_, fun j hj => ?_⟩
    · have h0 := (hz 0 (by omega)).1
      rw [hs, addr_addc] at h0
      exact World.block_lt_of_cell? W ⟨ad.block, ad.off + 0 * 3, none⟩ h0
    · have h0 := hz j hj
      rw [hs, addr_addc, addr_addc, addr_addc] at h0
      exact ⟨h0.1, by rw [Nat.add_assoc]; exact h0.2.1, by rw [Nat.add_assoc]; exact h0.2.2⟩

/-- A stamp in a block of its own. -/
structure Box (w : World) (b : Nat) (x y : Int) : Prop where
  c0 : w.cell? ⟨b, 0, none⟩ = some (.int .i64 x)
  c1 : w.cell? ⟨b, 1, none⟩ = some (.int .i64 y)
theorem Box.below {w w' : World} {b : Nat} {x y : Int} (h : Box w b x y) (hb : Below w.heap.size w w') : Box w' b x y := ⟨below_keep hb h.c0, below_keep hb h.c1⟩
theorem Box.wrote {w w' : World} {b : Nat} {x y : Int} {lo hi : Nat} (h : Box w b x y) (hw : Wrote w w' lo hi) (hd : b < lo ∨ hi ≤ b) : Box w' b x y := by
  obtain ⟨row, hg, hr⟩ := hw
  have hne : some b ≠ row := fun e => by have := hr b e.symm; omega
  exact ⟨World.grownBy.cell hg h.c0 hne, World.grownBy.cell hg h.c1 hne⟩
theorem Row.base {w : World} {lo lo' hi e size n c : Nat} {A : Option Addr} {xs : List Value} (h : Row w lo hi e size A n c xs) (hl : lo' ≤ lo) : Row w lo' hi e size A n c xs := ⟨own_base h.own hl, h.lt⟩
end Go.Proofs.Ytiehpniogehkmaa.hexes
