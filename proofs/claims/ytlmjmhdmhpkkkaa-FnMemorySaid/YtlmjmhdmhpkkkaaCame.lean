/-
  What a law is told of the code that it draws from; the law's own bound on it.
-/
import Derived.Test.YtlmjmhdmhpkkkaaCursor
import Derived.OpenShut
namespace Go.Proofs.Ytlmjmhdmhpkkkaa.hexes
open Go.RowKit

/-- WHAT THE WALK IS TOLD OF A SLICE OF INTEGERS THAT CAME IN. -/
def IsRow (k : IntKind) (w : World) (a : Option Addr) (len cap : Nat) (zs : List Int) : Prop :=
  (a = none ∧ len = 0 ∧ cap = 0 ∧ zs = []) ∨
  ∃ x, a = some x ∧ len ≤ cap ∧ cap ≤ maxLen ∧ zs.length = cap ∧ (∀ i, i < zs.length → w.cell? (x.add i) = some (.int k (zs.getD i 0))) ∧ ∀ n ∈ zs, (Lit.int k n).wf = true

theorem came_of_row {w : World} {a : Option Addr} {len cap : Nat} {zs : List Int} (h : IsRow .u8 w a len cap zs) : Came w a len := fun hl => by
  rcases h with ⟨_, rfl, _⟩ | ⟨x, rfl, hlc, _, hz, hcell, hwf⟩
  · omega
  · obtain ⟨b, off, spot⟩ := x
    have hc0 := hcell 0 (by omega)
    have hspot : spot = none := by simpa [Addr.add] using World.cell?_spot hc0
    subst hspot
    have hadd : ∀ j, (Addr.add ⟨b, off, none⟩ j) = ⟨b, off + j, none⟩ := fun j => by unfold Addr.add; split <;> simp_all
    refine ⟨b, off, rfl, ?_, fun j hj => ?_⟩
    · rw [hadd 0] at hc0
      exact World.block_lt_of_cell? w _ hc0
    · have hcj := hcell j (by omega)
      rw [hadd j] at hcj
      have hj' : j < zs.length := by omega
      have hm : zs.getD j 0 ∈ zs := by rw [List.getD_eq_getElem?_getD, List.getElem?_eq_getElem hj']; exact List.getElem_mem hj'
      have hb := bounds_u8 (hwf _ hm)
      refine ⟨(zs.getD j 0).toNat, by omega, ?_⟩
      rw [hcj]
      congr 2
      omega

theorem big_any (A : Option Addr) (len cap : Nat) (w : World) :
    Calls Try.prog 11 #[.slice A len cap] w fun e w' => e = .returned (.bool (decide (1048576 < (len : Int)))) ∧ w = w' := by
  go_enter Try.func11, Try.ntmps11
  go_wp2
  go_ret
  exact ⟨rfl, rfl⟩

/-- The bytes of a code as cells. -/
theorem cells_of_came {w : World} {a : Option Addr} {len : Nat} (h : Came w a len) (hl : 0 < len) : ∃ b off, a = some ⟨b, off, none⟩ ∧ b < w.heap.size ∧ ∃ zs : List Nat, zs.length = len ∧ (∀ z ∈ zs, z ≤ 255) ∧ ∀ j u, (zs.map fun (z : Nat) => Value.int .u8 (z : Int))[j]? = some u → w.cell? ⟨b, off + j, none⟩ = some u := by
  obtain ⟨b, off, rfl, hlt, hz⟩ := h hl
  refine ⟨b, off, rfl, hlt, ?_⟩
  have key : ∀ n, n ≤ len → ∃ zs : List Nat, zs.length = n ∧ (∀ z ∈ zs, z ≤ 255) ∧ ∀ j u, (zs.map fun (z : Nat) => Value.int .u8 (z : Int))[j]? = some u → w.cell? ⟨b, off + j, none⟩ = some u := by
    intro n
    induction n with
    | zero => exact fun _ => ⟨[], rfl, (fun z hz => by cases hz), fun j u h => by simp at h⟩
    | succ n ih =>
      intro hn
      obtain ⟨zs, hl, hb, hc⟩ := ih (by omega)
      obtain ⟨z, hz1, hz2⟩ := hz n (by omega)
      refine ⟨zs ++ [z], by simp [hl], fun y hy => ?_, fun j u h => ?_⟩
      · rcases List.mem_append.1 hy with h | h
        · exact hb y h
        · obtain rfl : y = z := by simpa using h
          exact hz1
      · rw [List.map_append] at h
        by_cases hj : j < zs.length
        · rw [List.getElem?_append_left (by simpa using hj)] at h
          exact hc j u h
        · rw [List.getElem?_append_right (by simpa using hj)] at h
          simp only [List.length_map, List.map_cons, List.map_nil] at h
          have hj0 : j = n := by
            rcases Nat.lt_or_ge (j - zs.length) 1 with h1 | h1
            · omega
            · rw [List.getElem?_eq_none (by simpa using h1)] at h; cases h
          subst hj0
          rw [hl, Nat.sub_self] at h
          simp only [List.getElem?_cons_zero, Option.some.injEq] at h
          rw [hz2, h]
  exact key len (Nat.le_refl _)

/-- The bytes of a code that came in, as what an append takes. -/
theorem row_news {w w' : World} {x : Addr} {len cap : Nat} {zs : List Int} (h : IsRow .u8 w (some x) len cap zs) (hb : Below w.heap.size w w') :
    ∃ news : List Value, news.length = len ∧ (∀ u ∈ news, ∃ z : Nat, z ≤ 255 ∧ u = .int .u8 (z : Int)) ∧ ∀ j u, news[j]? = some u → w'.cell? (x.add j) = some u := by
  rcases h with ⟨hn, _⟩ | ⟨x', hx, hlc, _, hz, hcell, hwf⟩
  · cases hn
  · obtain rfl : x = x' := Option.some.inj hx
    refine ⟨(zs.take len).map fun n => Value.int .u8 n, by simp; omega, fun u hu => ?_, fun j u hu => ?_⟩
    · simp only [List.mem_map] at hu
      obtain ⟨n, hn, rfl⟩ := hu
      have hb := bounds_u8 (hwf n (List.mem_of_mem_take hn))
      exact ⟨n.toNat, by omega, by congr 1; omega⟩
    · simp only [List.getElem?_map, Option.map_eq_some_iff] at hu
      obtain ⟨n, hn, rfl⟩ := hu
      rw [List.getElem?_take] at hn
      split at hn
      · rename_i hjl
        have hj : j < zs.length := by omega
        have hc := hcell j hj
        rw [List.getD_eq_getElem?_getD, hn] at hc
        exact (hb.cell (World.block_lt_of_cell? w _ hc)).trans hc
      · cases hn

/-- A row of bytes that the call itself made is a code. -/
theorem came_of_own {w : World} {B n : Nat} {v : Value} {xs : List Value} (h : w.ownsRow B 5 1 v n xs) (hx : ∀ u ∈ xs, ∃ z : Nat, z ≤ 255 ∧ u = .int .u8 (z : Int)) : ∃ A cap, v = .slice A n cap ∧ Came w A n := by
  rcases h.2 with ⟨rfl, rfl⟩ | ⟨g, cap, cur, rfl, _, hg, hnc, _, hcs, htk⟩
  · exact ⟨none, 0, rfl, fun h => absurd h (by omega)⟩
  · refine ⟨some ⟨g, 0, none⟩, cap, rfl, fun hl => ⟨g, 0, rfl, ?_, fun j hj => ?_⟩⟩
    · rcases Nat.lt_or_ge g w.heap.size with hlt | hge
      · exact hlt
      · rw [Array.getElem?_eq_none hge] at hg; cases hg
    · have hjx : j < xs.length := by rw [h.1]; omega
      obtain ⟨z, hz, hu⟩ := hx xs[j] (List.getElem_mem hjx)
      refine ⟨z, hz, ?_⟩
      rw [Nat.zero_add, cell_of_row w g j cur 5 (0, 0) hg, ← hu]
      have : xs[j]? = some xs[j] := List.getElem?_eq_getElem hjx
      have hcur : (cur.toList.take (n * 1))[j]? = some xs[j] := by rw [htk]; exact this
      rw [List.getElem?_take] at hcur
      split at hcur
      · simpa using hcur
      · cases hcur
end Go.Proofs.Ytlmjmhdmhpkkkaa.hexes
