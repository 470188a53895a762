/-
  A statement of spec.DrawSameGraph: its operations, and a theorem a step.
  What a law is told of the code that it draws from; the law's own bound on it.
-/
import Derived.Test.YtjplkoglibagkaaProg
import Derived.WalkKit
import Derived.Deep.RegionHeld3
import Derived.Test.YtjplkoglibagkaaJ2
import Derived.OpenShut

namespace Go.Proofs.Ytjplkoglibagkaa.hexes
open Go.RowKit

def findG6 (n : Nat) : Code → Option Code
  | .region id ops d => if id = n then some (.region id ops d) else none
  | .seq a b => match findG6 n a with
    | some c => some c
    | none => findG6 n b
  | .block _ c => findG6 n c
  | .scope c => findG6 n c
  | .loop c => findG6 n c
  | .cond _ a b => match findG6 n a with
    | some c => some c
    | none => findG6 n b
  | _ => none
def opsOfG6 : Option Code → Array Oper
  | some (.region _ ops _) => ops
  | _ => #[]
noncomputable def opsG6 : Array Oper := opsOfG6 (Try.f23.body.bind (findG6 5))
def schG6 : List Nat := [0, 1, 2, 3, 4]
def LG6 (k : Nat) : Array Bool := ((List.range 5).map fun i => (schG6.take k).contains i).toArray
theorem noselG6 : Region.noSelect opsG6 = true := by kernel_rfl
def qG6_0 : Oper := { dst := some 15, op := Op.load 26 (Operand.tmp 5), type := 26, pos := "l08_graphs.go:189", after := #[], guard := none }
theorem hG6_0 : opsG6[0]? = some qG6_0 := by kernel_rfl
def qG6_1 : Oper := { dst := some 16, op := Op.move (Operand.tmp 4), type := 58, pos := "l08_graphs.go:189", after := #[], guard := none }
theorem hG6_1 : opsG6[1]? = some qG6_1 := by kernel_rfl
def qG6_2 : Oper := { dst := some 17, op := Op.call { callee := Callee.value (Operand.func 40), args := #[Operand.tmp 16], argTypes := #[58] }, type := 26, pos := "l08_graphs.go:189", after := #[{ on := 1, ground := Ground.data }], guard := none }
theorem hG6_2 : opsG6[2]? = some qG6_2 := by kernel_rfl
def qG6_3 : Oper := { dst := none, op := Op.store 26 (Operand.tmp 2) (Operand.tmp 15), type := 0, pos := "l08_graphs.go:189", after := #[{ on := 0, ground := Ground.data }, { on := 2, ground := Ground.chain }, { on := 0, ground := Ground.phase }, { on := 1, ground := Ground.textOnly Departure.lateStores }, { on := 2, ground := Ground.textOnly Departure.lateStoresUnsure }], guard := none }
theorem hG6_3 : opsG6[3]? = some qG6_3 := by kernel_rfl
def qG6_4 : Oper := { dst := none, op := Op.store 26 (Operand.tmp 3) (Operand.tmp 17), type := 0, pos := "l08_graphs.go:189", after := #[{ on := 2, ground := Ground.data }, { on := 3, ground := Ground.chain }, { on := 0, ground := Ground.phase }, { on := 1, ground := Ground.phase }, { on := 2, ground := Ground.phase }, { on := 3, ground := Ground.phase }], guard := none }
theorem hG6_4 : opsG6[4]? = some qG6_4 := by kernel_rfl
theorem tG6_e_0 {Q : Exit → Act → World → Prop} {S : World → Prop} {a : Act} {w : World} (v : Value) (hQ : ∀ c a w, Q (.panic c) (a.put (some 15) v) w → Q (.panic c) a w) (hy : YieldsIf Try.prog opsG6 S qG6_0 v a) (hS : S w)
    (h : wpAnyH Try.prog .any opsG6 Q S 4 (#[true, false, false, false, false] : Array Bool) (a.put (some 15) v) w) : wpAnyH Try.prog .any opsG6 Q S 5 (#[false, false, false, false, false] : Array Bool) a w :=
  wpAnyH_take (i := 0) hG6_0 noselG6 (by kernel_rfl) (by kernel_rfl) hQ hy hS ((show (#[false, false, false, false, false] : Array Bool).setIfInBounds 0 true = (#[true, false, false, false, false] : Array Bool) by kernel_rfl).symm ▸ h)
theorem tG6_0_1 {Q : Exit → Act → World → Prop} {S : World → Prop} {a : Act} {w : World} (v : Value) (hQ : ∀ c a w, Q (.panic c) (a.put (some 16) v) w → Q (.panic c) a w) (hy : YieldsIf Try.prog opsG6 S qG6_1 v a) (hS : S w)
    (h : wpAnyH Try.prog .any opsG6 Q S 3 (#[true, true, false, false, false] : Array Bool) (a.put (some 16) v) w) : wpAnyH Try.prog .any opsG6 Q S 4 (#[true, false, false, false, false] : Array Bool) a w :=
  wpAnyH_take (i := 1) hG6_1 noselG6 (by kernel_rfl) (by kernel_rfl) hQ hy hS ((show (#[true, false, false, false, false] : Array Bool).setIfInBounds 1 true = (#[true, true, false, false, false] : Array Bool) by kernel_rfl).symm ▸ h)
set_option maxRecDepth 100000 in
theorem cG6_0123_4 {Q : Exit → Act → World → Prop} {S : World → Prop} {a : Act} {w : World}
    (h4 : ∀ K' : Act → World → Prop, Shut (∀ a w, S w → (S w → wpAnyH Try.prog .any opsG6 Q S 0 (#[true, true, true, true, true] : Array Bool) a w) → K' a w) → if Region.wanted qG6_4 (yielded opsG6 a.tmps) = true then Oper.wp Try.prog qG6_4 a w K' Q else K' (a.put (none) undef) w) :
    wpAnyH Try.prog .any opsG6 Q S 1 (#[true, true, true, true, false] : Array Bool) a w :=
  wpAnyH_ready (rs := [4]) (by kernel_rfl) (by simp) (AllReadyH.cons hG6_4 (fun K' hK => h4 K' ((show (#[true, true, true, true, false] : Array Bool).setIfInBounds 4 true = (#[true, true, true, true, true] : Array Bool) by kernel_rfl) ▸ hK)) AllReadyH.nil)
set_option maxRecDepth 100000 in
theorem cG6_012_3 {Q : Exit → Act → World → Prop} {S : World → Prop} {a : Act} {w : World}
    (h3 : ∀ K' : Act → World → Prop, Shut (∀ a w, S w → (S w → wpAnyH Try.prog .any opsG6 Q S 1 (#[true, true, true, true, false] : Array Bool) a w) → K' a w) → if Region.wanted qG6_3 (yielded opsG6 a.tmps) = true then Oper.wp Try.prog qG6_3 a w K' Q else K' (a.put (none) undef) w) :
    wpAnyH Try.prog .any opsG6 Q S 2 (#[true, true, true, false, false] : Array Bool) a w :=
  wpAnyH_ready (rs := [3]) (by kernel_rfl) (by simp) (AllReadyH.cons hG6_3 (fun K' hK => h3 K' ((show (#[true, true, true, false, false] : Array Bool).setIfInBounds 3 true = (#[true, true, true, true, false] : Array Bool) by kernel_rfl) ▸ hK)) AllReadyH.nil)
set_option maxRecDepth 100000 in
theorem cG6_01_2 {Q : Exit → Act → World → Prop} {S : World → Prop} {a : Act} {w : World}
    (h2 : ∀ K' : Act → World → Prop, Shut (∀ a w, S w → (S w → wpAnyH Try.prog .any opsG6 Q S 2 (#[true, true, true, false, false] : Array Bool) a w) → K' a w) → if Region.wanted qG6_2 (yielded opsG6 a.tmps) = true then Oper.wp Try.prog qG6_2 a w K' Q else K' (a.put (some 17) undef) w) :
    wpAnyH Try.prog .any opsG6 Q S 3 (#[true, true, false, false, false] : Array Bool) a w :=
  wpAnyH_ready (rs := [2]) (by kernel_rfl) (by simp) (AllReadyH.cons hG6_2 (fun K' hK => h2 K' ((show (#[true, true, false, false, false] : Array Bool).setIfInBounds 2 true = (#[true, true, true, false, false] : Array Bool) by kernel_rfl) ▸ hK)) AllReadyH.nil)
end Go.Proofs.Ytjplkoglibagkaa.hexes

namespace Go.Proofs.Ytjplkoglibagkaa.hexes
open Go.RowKit

/-- WHAT THE WALK IS TOLD OF A SLICE OF INTEGERS THAT CAME IN. -/
def IsRow (k : IntKind) (w : World) (a : Option Addr) (len cap : Nat) (zs : List Int) : Prop :=
  (a = none ∧ len = 0 ∧ cap = 0 ∧ zs = []) ∨
  ∃ x, a = some x ∧ len ≤ cap ∧ cap ≤ maxLen ∧ zs.length = cap ∧ (∀ i, i < zs.length → w.cell? (x.add i) = some (.int k (zs.getD i 0))) ∧ ∀ n ∈ zs, (Lit.int k n).wf = true

theorem came_of_row {w : World} {a : Option Addr} {len cap : Nat} {zs : List Int} (h : IsRow .u8 w a len cap zs) : Came w a len := fun hl => by
  rcases h with ⟨_, rfl, _⟩ | ⟨x, rfl, hlc, _, hz, hcell, hwf⟩
  · omega
  · obtain ⟨b, off, spot⟩ := x
    have hc0 := hcell 0 (by omega)
    have hspot : spot = none := by simpa [Addr.add] using World.cell?_spot hc0
    subst hspot
    have hadd : ∀ j, (Addr.add ⟨b, off, none⟩ j) = ⟨b, off + j, none⟩ := fun j => by unfold Addr.add; split <;> simp_all
    refine ⟨b, off, rfl, ?_, fun j hj => ?_⟩
    · rw [hadd 0] at hc0
      exact World.block_lt_of_cell? w _ hc0
    · have hcj := hcell j (by omega)
      rw [hadd j] at hcj
      have hj' : j < zs.length := by omega
      have hm : zs.getD j 0 ∈ zs := by rw [List.getD_eq_getElem?_getD, List.getElem?_eq_getElem hj']; exact List.getElem_mem hj'
      have hb := bounds_u8 (hwf _ hm)
      refine ⟨(zs.getD j 0).toNat, by omega, ?_⟩
      rw [hcj]
      congr 2
      omega

theorem big_any (A : Option Addr) (len cap : Nat) (w : World) :
    Calls Try.prog 10 #[.slice A len cap] w fun e w' => e = .returned (.bool (decide (1048576 < (len : Int)))) ∧ w = w' := by
  go_enter Try.func10, Try.ntmps10
  go_wp2
  go_ret
  exact ⟨rfl, rfl⟩

/-- The bytes of a code as cells. -/
theorem cells_of_came {w : World} {a : Option Addr} {len : Nat} (h : Came w a len) (hl : 0 < len) : ∃ b off, a = some ⟨b, off, none⟩ ∧ b < w.heap.size ∧ ∃ zs : List Nat, zs.length = len ∧ (∀ z ∈ zs, z ≤ 255) ∧ ∀ j u, (zs.map fun (z : Nat) => Value.int .u8 (z : Int))[j]? = some u → w.cell? ⟨b, off + j, none⟩ = some u := by
  obtain ⟨b, off, rfl, hlt, hz⟩ := h hl
  refine ⟨b, off, rfl, hlt, ?_⟩
  have key : ∀ n, n ≤ len → ∃ zs : List Nat, zs.length = n ∧ (∀ z ∈ zs, z ≤ 255) ∧ ∀ j u, (zs.map fun (z : Nat) => Value.int .u8 (z : Int))[j]? = some u → w.cell? ⟨b, off + j, none⟩ = some u := by
    intro n
    induction n with
    | zero => exact fun _ => ⟨[], rfl, (fun z hz => by cases hz), fun j u h => by simp at h⟩
    | succ n ih =>
      intro hn
      obtain ⟨zs, hl, hb, hc⟩ := ih (by omega)
      obtain ⟨z, hz1, hz2⟩ := hz n (by omega)
      refine ⟨zs ++ [z], by simp [hl], fun y hy => ?_, fun j u h => ?_⟩
      · rcases List.mem_append.1 hy with h | h
        · exact hb y h
        · obtain rfl : y = z := by simpa using h
          exact hz1
      · rw [List.map_append] at h
        by_cases hj : j < zs.length
        · rw [List.getElem?_append_left (by simpa using hj)] at h
          exact hc j u h
        · rw [List.getElem?_append_right (by simpa using hj)] at h
          simp only [List.length_map, List.map_cons, List.map_nil] at h
          have hj0 : j = n := by
            rcases Nat.lt_or_ge (j - zs.length) 1 with h1 | h1
            · omega
            · rw [List.getElem?_eq_none (by simpa using h1)] at h; cases h
          subst hj0
          rw [hl, Nat.sub_self] at h
          simp only [List.getElem?_cons_zero, Option.some.injEq] at h
          rw [hz2, h]
  exact key len (Nat.le_refl _)

/-- The bytes of a code that came in, as what an append takes. -/
theorem row_news {w w' : World} {x : Addr} {len cap : Nat} {zs : List Int} (h : IsRow .u8 w (some x) len cap zs) (hb : Below w.heap.size w w') :
    ∃ news : List Value, news.length = len ∧ (∀ u ∈ news, ∃ z : Nat, z ≤ 255 ∧ u = .int .u8 (z : Int)) ∧ ∀ j u, news[j]? = some u → w'.cell? (x.add j) = some u := by
  rcases h with ⟨hn, _⟩ | ⟨x', hx, hlc, _, hz, hcell, hwf⟩
  · cases hn
  · obtain rfl : x = x' := Option.some.inj hx
    refine ⟨(zs.take len).map fun n => Value.int .u8 n, by simp; omega, fun u hu => ?_, fun j u hu => ?_⟩
    · simp only [List.mem_map] at hu
      obtain ⟨n, hn, rfl⟩ := hu
      have hb := bounds_u8 (hwf n (List.mem_of_mem_take hn))
      exact ⟨n.toNat, by omega, by congr 1; omega⟩
    · simp only [List.getElem?_map, Option.map_eq_some_iff] at hu
      obtain ⟨n, hn, rfl⟩ := hu
      rw [List.getElem?_take] at hn
      split at hn
      · rename_i hjl
        have hj : j < zs.length := by omega
        have hc := hcell j hj
        rw [List.getD_eq_getElem?_getD, hn] at hc
        exact (hb.cell (World.block_lt_of_cell? w _ hc)).trans hc
      · cases hn

/-- A row of bytes that the call itself made is a code. -/
theorem came_of_own {w : World} {B n : Nat} {v : Value} {xs : List Value} (h : w.ownsRow B 5 1 v n xs) (hx : ∀ u ∈ xs, ∃ z : Nat, z ≤ 255 ∧ u = .int .u8 (z : Int)) : ∃ A cap, v = .slice A n cap ∧ Came w A n := by
  rcases h.2 with ⟨rfl, rfl⟩ | ⟨g, cap, cur, rfl, _, hg, hnc, _, hcs, htk⟩
  · exact ⟨none, 0, rfl, fun h => absurd h (by omega)⟩
  · refine ⟨some ⟨g, 0, none⟩, cap, rfl, fun hl => ⟨g, 0, rfl, ?_, fun j hj => ?_⟩⟩
    · rcases Nat.lt_or_ge g w.heap.size with hlt | hge
      · exact hlt
      · rw [Array.getElem?_eq_none hge] at hg; cases hg
    · have hjx : j < xs.length := by rw [h.1]; omega
      obtain ⟨z, hz, hu⟩ := hx xs[j] (List.getElem_mem hjx)
      refine ⟨z, hz, ?_⟩
      rw [Nat.zero_add, cell_of_row w g j cur 5 (0, 0) hg, ← hu]
      have : xs[j]? = some xs[j] := List.getElem?_eq_getElem hjx
      have hcur : (cur.toList.take (n * 1))[j]? = some xs[j] := by rw [htk]; exact this
      rw [List.getElem?_take] at hcur
      split at hcur
      · simpa using hcur
      · cases hcur
end Go.Proofs.Ytjplkoglibagkaa.hexes

