/-
  Owned rows of stamps: what an append takes, what a row's cells are.
  Lists of stamps put behind an owned list: the law for the walk, and the contracts of slices.Clone, spec.MergeFronts and spec.FrontierOk.
  Rows between two bounds: what an exact law keeps of the lists that it holds, whatever is called and written beside them; the laws' own functions on stamps in these words.
-/
import Derived.Test.YtjplkoglibagkaaJ1
import Derived.Test.YtjplkoglibagkaaJ2
import Derived.Test.YtjplkoglibagkaaJ3
import Derived.Laws.AppendOwnNone
import Derived.Lib.SliceRun

namespace Go.Proofs.Ytjplkoglibagkaa.hexes
open Go.RowKit

theorem keep3 {V w' : World} {a b : Addr} {x y : Value} (hB : Below V.heap.size V w') (h3 : V.cell? a = some x) (h4 : V.cell? b = some y) : w'.cell? a = some x ∧ w'.cell? b = some y ∧ Below V.heap.size V w' := ⟨below_keep hB h3, below_keep hB h4, hB⟩
theorem Blk.news {w : World} {g : Nat} {t : TypeId} {cs : Array Value} (h : Blk w g t cs) (j : Nat) (u : Value) (hu : cs.toList[j]? = some u) : w.cell? (Addr.add ⟨g, 0, none⟩ j) = some u := by
  rw [show (Addr.add ⟨g, 0, none⟩ j) = ⟨g, j, none⟩ by unfold Addr.add; split <;> simp_all, h.cell]
  simpa using hu
/-- An append to a row above V's blocks turns nothing below them. -/
theorem wp_append_st {P : Program} {V w : World} {o : Oper} {a : Act} {K : Act → World → Prop} {Q : Exit → Act → World → Prop} (s x : Operand) (t : TypeId)
    (ho : o.op = .call { callee := .builtin .append, args := #[s, x], argTypes := #[t, t] })
    (e : TypeId) (i : TypeInfo) (z : Value) (size bytes : Nat) (ht : P.underlying t = some (.slice e)) (hi : P.info? e = some i) (hz : i.zero = some z)
    (hsize : i.size = size) (hby : i.bytes = bytes) (hzs : z.cells.size = size) (hsz : 0 < size)
    (v : Value) (n : Nat) (xs : List Value) (hs : a.eval s = v) (hown : w.ownsRow V.heap.size e size v n xs)
    (ad : Addr) (m c : Nat) (news : List Value) (hx : a.eval x = .slice (some ad) m c) (hl : news.length = m * size) (hnews : ∀ j u, news[j]? = some u → w.cell? (ad.add j) = some u) (h1 : ∀ u ∈ news, u.oneCell' = true)
    (h63 : n + m ≤ maxLen) (hbytes : (n + m) * bytes ≤ 140737488355328) (hB : Below V.heap.size V w)
    (h : ∀ v' w', w'.ownsRow V.heap.size e size v' (n + m) (xs ++ news) → w.grownBy w' v.ownBlock → Below V.heap.size V w' → (v' = .slice none 0 0 ↔ v = .slice none 0 0 ∧ m = 0) → K (a.put o.dst v') w') : o.wp P a w K Q :=
  wp_append_own w s x t ho V.heap.size e i z size bytes ht hi hz hsize hby hzs hsz v n xs hs hown ad m c news hx hl hnews h1 h63 hbytes hB.size fun v' w' h2 h3 h4 => h v' w' h2 h3 (hB.grown h3 hB.size (own_ge hown)) h4
theorem own_cap {w : World} {base e g n cap size : Nat} {xs : List Value} (h : w.ownsRow base e size (.slice (some ⟨g, 0, none⟩) n cap) n xs) : n ≤ cap := by
  rcases h.2 with ⟨h', _⟩ | ⟨g', cap', cur, h', _, _, hnc, _⟩
  · simp at h'
  · simp only [Value.slice.injEq, Option.some.injEq, Addr.mk.injEq, and_true, true_and] at h'
    omega
theorem stCells_one {zs : List (Int × Int)} {u : Value} (h : u ∈ stCells zs) : u.oneCell' = true := by
  simp only [stCells, List.mem_flatMap, List.mem_cons, List.not_mem_nil, or_false] at h
  obtain ⟨z, _, rfl | rfl⟩ := h <;> rfl
theorem addr_add0 (g j : Nat) : (Addr.add ⟨g, 0, none⟩ j) = ⟨g, j, none⟩ := by unfold Addr.add; split <;> simp_all
/-- The first j stamps of an owned row, as what an append takes. -/
theorem own_news {w : World} {base e g n cap : Nat} {zs : List (Int × Int)} (h : w.ownsRow base e 2 (.slice (some ⟨g, 0, none⟩) n cap) n (stCells zs)) (j i : Nat) (u : Value) (hu : (stCells (zs.take j))[i]? = some u) : w.cell? (Addr.add ⟨g, 0, none⟩ i) = some u := by
  have hp : (stCells zs)[i]? = some u := by
    have e1 : stCells zs = stCells (zs.take j) ++ stCells (zs.drop j) := by rw [← stCells_append, List.take_append_drop]
    rw [e1, List.getElem?_append_left (List.getElem?_eq_some_iff.1 hu).1]
    exact hu
  rw [addr_add0, h.cellAt i (by rw [← h.1]; exact (List.getElem?_eq_some_iff.1 hp).1)]
  exact hp

theorem addr_add1 (g o j : Nat) : (Addr.add ⟨g, o, none⟩ j) = ⟨g, o + j, none⟩ := by unfold Addr.add; split <;> simp_all
/-- The stamps of an owned row from the j-th on, as what an append takes. -/
theorem own_news_drop {w : World} {base e g n cap : Nat} {zs : List (Int × Int)} (h : w.ownsRow base e 2 (.slice (some ⟨g, 0, none⟩) n cap) n (stCells zs)) (j i : Nat) (u : Value) (hu : (stCells (zs.drop j))[i]? = some u) : w.cell? (Addr.add ⟨g, j * 2, none⟩ i) = some u := by
  have hi := (List.getElem?_eq_some_iff.1 hu).1
  rw [stCells_length, List.length_drop] at hi
  have hp : (stCells zs)[j * 2 + i]? = some u := by
    have e1 : stCells zs = stCells (zs.take j) ++ stCells (zs.drop j) := by rw [← stCells_append, List.take_append_drop]
    have l1 : (stCells (zs.take j)).length = j * 2 := by rw [stCells_length, List.length_take]; omega
    rw [e1, List.getElem?_append_right (by omega), l1, show j * 2 + i - j * 2 = i by omega]
    exact hu
  rw [addr_add1, h.cellAt (j * 2 + i) (by rw [← h.1]; exact (List.getElem?_eq_some_iff.1 hp).1)]
  exact hp

/-- The j-th stamp of an owned row, cell by cell. -/
theorem own_at2 {w : World} {base e g n cap j : Nat} {zs : List (Int × Int)} (h : w.ownsRow base e 2 (.slice (some ⟨g, 0, none⟩) n cap) n (stCells zs)) (hj : j < zs.length) : ∃ r s, zs[j] = (r, s) ∧ w.cell? ⟨g, j * 2, none⟩ = some (.int .i64 r) ∧ w.cell? ⟨g, j * 2 + 1, none⟩ = some (.int .i64 s) := by
  have hl := h.1
  rw [stCells_length] at hl
  refine ⟨zs[j].1, zs[j].2, rfl, ?_, ?_⟩
  · rw [h.cellAt (j * 2) (by omega)]; exact (stCells_at zs j hj).1
  · rw [h.cellAt (j * 2 + 1) (by omega)]; exact (stCells_at zs j hj).2

end Go.Proofs.Ytjplkoglibagkaa.hexes

namespace Go.Proofs.Ytjplkoglibagkaa.hexes
open Go.RowKit

theorem Sts.news {w : World} {ad : Addr} {ys : List (Int × Int)} (h : Sts w (some ad) ys) (j : Nat) (u : Value) (hu : (stCells ys)[j]? = some u) : w.cell? (ad.add j) = some u := by
  have hj : j < ys.length * 2 := by rw [← stCells_length]; exact (List.getElem?_eq_some_iff.1 hu).1
  obtain ⟨b, off, hA, _, hz⟩ := h (by omega)
  obtain rfl : ad = ⟨b, off, none⟩ := Option.some.inj hA
  rw [addr_add1]
  have hk : j / 2 < ys.length := by omega
  have e := stCells_at ys (j / 2) hk
  have z := hz (j / 2) hk
  rcases Nat.mod_two_eq_zero_or_one j with h2 | h2
  · rw [show j / 2 * 2 = j by omega] at e z
    rw [z.1, ← hu, e.1]
  · rw [show off + j / 2 * 2 + 1 = off + j by omega] at z
    rw [show j / 2 * 2 + 1 = j by omega] at e
    rw [z.2, ← hu, e.2]

theorem own_nil {w : World} {B e size n c : Nat} {A : Option Addr} {xs : List Value} (h : w.ownsRow B e size (.slice A n c) n xs) (hA : A = none) : c = 0 := by
  rcases h.2 with ⟨h', _⟩ | ⟨g, cap, cur, h', _⟩
  · simp only [Value.slice.injEq] at h'
    exact h'.2.2
  · subst hA
    simp at h'

theorem sts_none {w : World} {n : Nat} {zs : List (Int × Int)} (h : Sts w none zs) (hz : zs.length = n) : n = 0 := by
  rcases Nat.eq_zero_or_pos n with h0 | h0
  · exact h0
  · obtain ⟨b, off, hA, _⟩ := h (by omega)
    cases hA

end Go.Proofs.Ytjplkoglibagkaa.hexes

namespace Go.Proofs.Ytjplkoglibagkaa.hexes
open Go.RowKit

/-- A row of n elements whose block lies from lo on and below hi. -/
structure Row (w : World) (lo hi e size : Nat) (A : Option Addr) (n c : Nat) (xs : List Value) : Prop where
  own : w.ownsRow lo e size (.slice A n c) n xs
  lt : ∀ g, (Value.slice A n c).ownBlock = some g → g < hi

/-- Only a block from lo on and below hi was written. -/
def Wrote (w w' : World) (lo hi : Nat) : Prop := ∃ row, w.grownBy w' row ∧ ∀ g, row = some g → lo ≤ g ∧ g < hi

theorem Row.below {w w' : World} {lo hi e size n c : Nat} {A : Option Addr} {xs : List Value} (h : Row w lo hi e size A n c xs) (hb : Below w.heap.size w w') : Row w' lo hi e size A n c xs := ⟨own_below h.own hb, h.lt⟩
theorem Row.wrote {w w' : World} {lo hi lo' hi' e size n c : Nat} {A : Option Addr} {xs : List Value} (h : Row w lo hi e size A n c xs) (hw : Wrote w w' lo' hi') (hd : hi ≤ lo' ∨ hi' ≤ lo) : Row w' lo hi e size A n c xs := by
  obtain ⟨row, hg, hr⟩ := hw
  refine ⟨h.own.kept hg ?_, h.lt⟩
  cases hv : (Value.slice A n c).ownBlock with
  | none => exact .inl rfl
  | some g =>
    refine .inr fun e => ?_
    have h1 := hr g e.symm
    have h2 := h.lt g hv
    have h3 := own_ge h.own g hv
    omega
theorem Row.nil {w : World} {lo hi e size n c : Nat} {A : Option Addr} {xs : List Value} (h : Row w lo hi e size A n c xs) : A = none → c = 0 := own_nil h.own
theorem Row.sts {w : World} {lo hi e n c : Nat} {A : Option Addr} {zs : List (Int × Int)} (h : Row w lo hi e 2 A n c (stCells zs)) : Sts w A zs := by
  obtain ⟨A', c', he, _, hs⟩ := Sts.of_own h.own
  simp only [Value.slice.injEq, true_and] at he
  obtain ⟨rfl, rfl⟩ := he
  exact hs
theorem Row.len {w : World} {lo hi e n c : Nat} {A : Option Addr} {zs : List (Int × Int)} (h : Row w lo hi e 2 A n c (stCells zs)) : zs.length = n := by
  have := h.own.1; rw [stCells_length] at this; omega
theorem below_wrote {a w w' : World} {lo hi : Nat} (h : Below a.heap.size a w) (hw : Wrote w w' lo hi) (hlo : a.heap.size ≤ lo) : Below a.heap.size a w' := by
  obtain ⟨row, hg, hr⟩ := hw
  exact h.grown hg h.size fun k hk => Nat.le_trans hlo (hr k hk).1
theorem Wrote.size {w w' : World} {lo hi : Nat} (h : Wrote w w' lo hi) : w.heap.size ≤ w'.heap.size := by
  obtain ⟨row, hg, _⟩ := h
  exact hg.size

theorem row_of {w w' : World} {e size n : Nat} {v : Value} {xs : List Value} (h : w'.ownsRow w.heap.size e size v n xs) : ∃ A c, v = .slice A n c ∧ Row w' w.heap.size w'.heap.size e size A n c xs := by
  obtain ⟨A, c, rfl, hf⟩ := own_form h
  refine ⟨A, c, rfl, h, fun g hg => ?_⟩
  rcases h.2 with ⟨h', _⟩ | ⟨g', cap, cur, h', _, hgg, _⟩
  · rw [h'] at hg; simp [Value.ownBlock] at hg
  · rw [h'] at hg
    obtain rfl : g' = g := by simpa [Value.ownBlock] using hg
    exact (Array.getElem?_eq_some_iff.1 hgg).1

end Go.Proofs.Ytjplkoglibagkaa.hexes

