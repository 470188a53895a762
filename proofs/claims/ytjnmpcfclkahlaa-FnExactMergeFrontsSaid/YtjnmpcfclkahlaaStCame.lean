/-
  A list of stamps that came into a law: what its walk is told of it.
-/
import Derived.Test.YtjnmpcfclkahlaaStList
import Derived.Deep.SlicePairs
import Derived.ChangeSame
import Derived.OpenShut
namespace Go.Proofs.Ytjnmpcfclkahlaa.hexes
open Go.RowKit Go.ChangeShapes Go.WideShapes Go.Deep

def Bd64 (z : Int × Int) : Prop := (-9223372036854775808 ≤ z.1 ∧ z.1 ≤ 9223372036854775807) ∧ (-9223372036854775808 ≤ z.2 ∧ z.2 ≤ 9223372036854775807)

/-- WHAT THE WALK IS TOLD OF A LIST OF STAMPS THAT CAME IN. -/
structure IsSts (w : World) (a : Option Addr) (n : Nat) (zs : List (Int × Int)) : Prop where
  len : zs.length = n
  max : n ≤ maxLen
  sts : Sts w a zs
  bd : ∀ z ∈ zs, Bd64 z

theorem addr_add (b off : Nat) (j : Nat) : (Addr.add ⟨b, off, none⟩ j) = ⟨b, off + j, none⟩ := by unfold Addr.add; split <;> simp_all

theorem isSts_of_trod {H : Type} {enc : TypeId × Value → H} {W : World} {fuel len cap : Nat} {a : Option Addr} {x : DataW H × List MemPlace}
    (h : DataW.trod enc Try.prog W 0 (fun _ => true) true fuel 39 [.slice a len cap] = some x) : ∃ zs, IsSts W a len zs := by
  rcases open_slice_pairs Try.underlying39 Try.underlying44 (by kernel_rfl) rfl rfl (by kernel_rfl) (by kernel_rfl) h with ⟨hcs, _⟩ | ⟨ad, l, c, m, n, V0, V1, D0, D1, P0, P1, hcs, _, hl, hm, hmm, _, hc⟩
  · simp only [List.cons.injEq, Value.slice.injEq, and_true] at hcs
    obtain ⟨rfl, rfl, rfl⟩ := hcs
    exact ⟨[], rfl, Nat.zero_le _, (fun h => absurd h (by simp)), fun z hz => by cases hz⟩
  · simp only [List.cons.injEq, Value.slice.injEq, and_true] at hcs
    obtain ⟨rfl, rfl, rfl⟩ := hcs
    simp only [if_true] at hmm
    subst hmm
    have key : ∀ i, i < len → ∃ p q : Int, W.cell? (ad.add (i * 2)) = some (.int .i64 p) ∧ W.cell? (ad.add (i * 2 + 1)) = some (.int .i64 q) ∧ Bd64 (p, q) := fun i hi => by
      obtain ⟨h0, h1, t0, t1⟩ := hc i (by omega)
      obtain ⟨p, e0, _, w0⟩ := DataW.trod_int Try.underlying3 t0
      obtain ⟨q, e1, _, w1⟩ := DataW.trod_int Try.underlying3 t1
      simp only [List.cons.injEq, and_true] at e0 e1
      exact ⟨p, q, e0 ▸ h0, e1 ▸ h1, bounds_i64 w0, bounds_i64 w1⟩
    have spot : 0 < len → ad = ⟨ad.block, ad.off, none⟩ := fun hp => by
      obtain ⟨p, q, h0, _⟩ := key 0 hp
      have : ad.spot = none := by simpa [Addr.add] using World.cell?_spot h0
      cases ad; simp_all
    have build : ∀ k, k ≤ len → ∃ zs : List (Int × Int), zs.length = k ∧ (∀ z ∈ zs, Bd64 z) ∧ ∀ j, (h : j < zs.length) → W.cell? (ad.add (j * 2)) = some (.int .i64 zs[j].1) ∧ W.cell? (ad.add (j * 2 + 1)) = some (.int .i64 zs[j].2) := by
      intro k
      induction k with
      | zero => exact fun _ => ⟨[], rfl, (fun z hz => by cases hz), fun j h => absurd h (by simp)⟩
      | succ k ih =>
        intro hk
        obtain ⟨zs, hl', hb, hz⟩ := ih (by omega)
        obtain ⟨p, q, h0, h1, hbd⟩ := key k (by omega)
        refine ⟨zs ++ [(p, q)], by simp [hl'], fun z hzm => ?_, fun j hj => ?_⟩
        · rcases List.mem_append.1 hzm with h | h
          · exact hb z h
          · obtain rfl : z = (p, q) := by simpa using h
            exact hbd
        · by_cases hj2 : j < zs.length
          · rw [List.getElem_append_left hj2]
            exact hz j hj2
          · have hjk : j = k := by simp at hj; omega
            subst hjk
            rw [List.getElem_append_right (by omega)]
            simp only [hl', Nat.sub_self, List.getElem_cons_zero]
            exact ⟨h0, h1⟩
    obtain ⟨zs, hl', hb, hz⟩ := build len (Nat.le_refl _)
    refine ⟨zs, hl', Nat.le_trans hl hm, fun hp => ?_, hb⟩
    have hs := spot (by omega)
    refine ⟨ad.block, ad.off, by rw [← hs], ?_, fun j hj => ?_⟩
    · have h0 := (hz 0 (by omega)).1
      rw [hs, addr_add] at h0
      exact World.block_lt_of_cell? W ⟨ad.block, ad.off + 0 * 2, none⟩ h0
    · have h0 := hz j hj
      rw [hs, addr_add, addr_add] at h0
      exact ⟨h0.1, by rw [Nat.add_assoc]; exact h0.2⟩
end Go.Proofs.Ytjnmpcfclkahlaa.hexes
