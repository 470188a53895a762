/-
  Owned rows of stamps: what an append takes, what a row's cells are.
-/
import Derived.Test.YtlmjmhdmhpkkkaaStList
import Derived.Test.YtlmjmhdmhpkkkaaCursor
import Derived.Test.YtlmjmhdmhpkkkaaMinList
namespace Go.Proofs.Ytlmjmhdmhpkkkaa.hexes
open Go.RowKit

theorem keep3 {V w' : World} {a b : Addr} {x y : Value} (hB : Below V.heap.size V w') (h3 : V.cell? a = some x) (h4 : V.cell? b = some y) : w'.cell? a = some x ∧ w'.cell? b = some y ∧ Below V.heap.size V w' := ⟨below_keep hB h3, below_keep hB h4, hB⟩
theorem Blk.news {w : World} {g : Nat} {t : TypeId} {cs : Array Value} (h : Blk w g t cs) (j : Nat) (u : Value) (hu : cs.toList[j]? = some u) : w.cell? (Addr.add ⟨g, 0, none⟩ j) = some u := by
  rw [show (Addr.add ⟨g, 0, none⟩ j) = ⟨g, j, none⟩ by unfold Addr.add; split <;> simp_all, h.cell]
  simpa using hu
/-- An append to a row above V's blocks turns nothing below them. -/
theorem wp_append_st {P : Program} {V w : World} {o : Oper} {a : Act} {K : Act → World → Prop} {Q : Exit → Act → World → Prop} (s x : Operand) (t : TypeId)
    (ho : o.op = .call { callee := .builtin .append, args := #[s, x], argTypes := #[t, t] })
    (e : TypeId) (i : TypeInfo) (z : Value) (size bytes : Nat) (ht : P.underlying t = some (.slice e)) (hi : P.info? e = some i) (hz : i.zero = some z)
    (hsize : i.size = size) (hby : i.bytes = bytes) (hzs : z.cells.size = size) (hsz : 0 < size)
    (v : Value) (n : Nat) (xs : List Value) (hs : a.eval s = v) (hown : w.ownsRow V.heap.size e size v n xs)
    (ad : Addr) (m c : Nat) (news : List Value) (hx : a.eval x = .slice (some ad) m c) (hl : news.length = m * size) (hnews : ∀ j u, news[j]? = some u → w.cell? (ad.add j) = some u) (h1 : ∀ u ∈ news, u.oneCell' = true)
    (h63 : n + m ≤ maxLen) (hbytes : (n + m) * bytes ≤ 140737488355328) (hB : Below V.heap.size V w)
    (h : ∀ v' w', w'.ownsRow V.heap.size e size v' (n + m) (xs ++ news) → w.grownBy w' v.ownBlock → Below V.heap.size V w' → (v' = .slice none 0 0 ↔ v = .slice none 0 0 ∧ m = 0) → K (a.put o.dst v') w') : o.wp P a w K Q :=
  wp_append_own w s x t ho V.heap.size e i z size bytes ht hi hz hsize hby hzs hsz v n xs hs hown ad m c news hx hl hnews h1 h63 hbytes hB.size fun v' w' h2 h3 h4 => h v' w' h2 h3 (hB.grown h3 hB.size (own_ge hown)) h4
theorem own_cap {w : World} {base e g n cap size : Nat} {xs : List Value} (h : w.ownsRow base e size (.slice (some ⟨g, 0, none⟩) n cap) n xs) : n ≤ cap := by
  rcases h.2 with ⟨h', _⟩ | ⟨g', cap', cur, h', _, _, hnc, _⟩
  · simp at h'
  · simp only [Value.slice.injEq, Option.some.injEq, Addr.mk.injEq, and_true, true_and] at h'
    omega
theorem stCells_one {zs : List (Int × Int)} {u : Value} (h : u ∈ stCells zs) : u.oneCell' = true := by
  simp only [stCells, List.mem_flatMap, List.mem_cons, List.not_mem_nil, or_false] at h
  obtain ⟨z, _, rfl | rfl⟩ := h <;> rfl
theorem addr_add0 (g j : Nat) : (Addr.add ⟨g, 0, none⟩ j) = ⟨g, j, none⟩ := by unfold Addr.add; split <;> simp_all
/-- The first j stamps of an owned row, as what an append takes. -/
theorem own_news {w : World} {base e g n cap : Nat} {zs : List (Int × Int)} (h : w.ownsRow base e 2 (.slice (some ⟨g, 0, none⟩) n cap) n (stCells zs)) (j i : Nat) (u : Value) (hu : (stCells (zs.take j))[i]? = some u) : w.cell? (Addr.add ⟨g, 0, none⟩ i) = some u := by
  have hp : (stCells zs)[i]? = some u := by
    have e1 : stCells zs = stCells (zs.take j) ++ stCells (zs.drop j) := by rw [← stCells_append, List.take_append_drop]
    rw [e1, List.getElem?_append_left (List.getElem?_eq_some_iff.1 hu).1]
    exact hu
  rw [addr_add0, h.cellAt i (by rw [← h.1]; exact (List.getElem?_eq_some_iff.1 hp).1)]
  exact hp

theorem addr_add1 (g o j : Nat) : (Addr.add ⟨g, o, none⟩ j) = ⟨g, o + j, none⟩ := by unfold Addr.add; split <;> simp_all
/-- The stamps of an owned row from the j-th on, as what an append takes. -/
theorem own_news_drop {w : World} {base e g n cap : Nat} {zs : List (Int × Int)} (h : w.ownsRow base e 2 (.slice (some ⟨g, 0, none⟩) n cap) n (stCells zs)) (j i : Nat) (u : Value) (hu : (stCells (zs.drop j))[i]? = some u) : w.cell? (Addr.add ⟨g, j * 2, none⟩ i) = some u := by
  have hi := (List.getElem?_eq_some_iff.1 hu).1
  rw [stCells_length, List.length_drop] at hi
  have hp : (stCells zs)[j * 2 + i]? = some u := by
    have e1 : stCells zs = stCells (zs.take j) ++ stCells (zs.drop j) := by rw [← stCells_append, List.take_append_drop]
    have l1 : (stCells (zs.take j)).length = j * 2 := by rw [stCells_length, List.length_take]; omega
    rw [e1, List.getElem?_append_right (by omega), l1, show j * 2 + i - j * 2 = i by omega]
    exact hu
  rw [addr_add1, h.cellAt (j * 2 + i) (by rw [← h.1]; exact (List.getElem?_eq_some_iff.1 hp).1)]
  exact hp

/-- The j-th stamp of an owned row, cell by cell. -/
theorem own_at2 {w : World} {base e g n cap j : Nat} {zs : List (Int × Int)} (h : w.ownsRow base e 2 (.slice (some ⟨g, 0, none⟩) n cap) n (stCells zs)) (hj : j < zs.length) : ∃ r s, zs[j] = (r, s) ∧ w.cell? ⟨g, j * 2, none⟩ = some (.int .i64 r) ∧ w.cell? ⟨g, j * 2 + 1, none⟩ = some (.int .i64 s) := by
  have hl := h.1
  rw [stCells_length] at hl
  refine ⟨zs[j].1, zs[j].2, rfl, ?_, ?_⟩
  · rw [h.cellAt (j * 2) (by omega)]; exact (stCells_at zs j hj).1
  · rw [h.cellAt (j * 2 + 1) (by omega)]; exact (stCells_at zs j hj).2

end Go.Proofs.Ytlmjmhdmhpkkkaa.hexes
