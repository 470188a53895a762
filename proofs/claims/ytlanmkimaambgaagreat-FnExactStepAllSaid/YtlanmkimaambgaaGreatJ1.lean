/-
  What the exact laws on lists of stamps go by: the size check, a list against itself.
  The cursor over the bytes of a draw: what it holds, and the contract of spec.l01Byte.
  Minimal as a function on lists: its answer is the one ascending list of the least stamps.
  Owned rows of stamps: what an append takes, what a row's cells are.
  Lists of stamps put behind an owned list: the law for the walk, and the contracts of slices.Clone, spec.MergeFronts and spec.FrontierOk.
  Rows between two bounds: what an exact law keeps of the lists that it holds, whatever is called and written beside them; the laws' own functions on stamps in these words.
-/
import Derived.Test.YtlanmkimaambgaaGreatJ0
import Derived.Laws.BitsLemmas
import Derived.WalkSpells
import Derived.WalkLawsBesides
import Derived.Laws.Pointers
import Derived.Laws.AppendOwnNone
import Derived.Lib.SliceRun

namespace Go.Proofs.YtlanmkimaambgaaGreat.hexes
open Go.RowKit

end Go.Proofs.YtlanmkimaambgaaGreat.hexes

namespace Go.Proofs.YtlanmkimaambgaaGreat.hexes
open Go.RowKit

theorem i64_and255 (n : Int) : bits .and .i64 n 255 = n % 256 := by
  have h255 : (BitVec.ofInt 64 255).toNat = 2 ^ 8 - 1 := by decide
  have key : (BitVec.ofInt 64 n &&& BitVec.ofInt 64 255).toNat = (n % ((2 ^ 64 : Nat) : Int)).toNat % 2 ^ 8 := by
    rw [BitVec.toNat_and, BitVec.toNat_ofInt, h255, Nat.and_two_pow_sub_one_eq_mod]
  show IntKind.i64.wrap ((BitVec.ofInt 64 n &&& BitVec.ofInt 64 255).toNat : Nat) = n % 256
  rw [key, IntKind.wrap_i64]
  omega

/-- Block g is just the cells cs of element type t, none frozen. -/
def Blk (w : World) (g : Nat) (t : TypeId) (cs : Array Value) : Prop := w.heap[g]? = some (.cells cs t (0, 0))
theorem Blk.lt {w : World} {g : Nat} {t : TypeId} {cs : Array Value} (h : Blk w g t cs) : g < w.heap.size := by
  rcases Nat.lt_or_ge g w.heap.size with hlt | hge
  · exact hlt
  · unfold Blk at h; rw [Array.getElem?_eq_none hge] at h; cases h
theorem Blk.cell {w : World} {g : Nat} {t : TypeId} {cs : Array Value} (h : Blk w g t cs) (i : Nat) : w.cell? ⟨g, i, none⟩ = cs[i]? := cell_of_row w g i cs t (0, 0) h
theorem Blk.frozen {w : World} {g : Nat} {t : TypeId} {cs : Array Value} (h : Blk w g t cs) (i : Nat) : w.frozen? ⟨g, i, none⟩ = false := by
  unfold Blk at h
  simp [World.frozen?, h]
theorem Blk.put {w : World} {g : Nat} {t : TypeId} {cs : Array Value} (h : Blk w g t cs) (i : Nat) (u : Value) : Blk (w.setCell ⟨g, i, none⟩ u) g t (cs.setIfInBounds i u) := by
  unfold Blk at h ⊢
  simp [World.setCell, Array.getElem?_modify, h]
theorem Blk.drewN {w : World} {g : Nat} {t : TypeId} {cs : Array Value} (h : Blk w g t cs) (n : Nat) : Blk (w.drewN n) g t cs := h
theorem Blk.new (w : World) (t : TypeId) (cs : Array Value) : Blk (w.alloc (.cells cs t)) w.heap.size t cs := heap_alloc_new w _
theorem Blk.below {w w' : World} {g : Nat} {t : TypeId} {cs : Array Value} (h : Blk w g t cs) (hb : Below w.heap.size w w') : Blk w' g t cs := (hb.block g h.lt).trans h
theorem Blk.grown {w w' : World} {g : Nat} {t : TypeId} {cs : Array Value} {row : Option Nat} (h : Blk w g t cs) (hb : w.grownBy w' row) (hg : some g ≠ row) : Blk w' g t cs := (hb.block g h.lt hg).trans h

theorem only_drewN {a w : World} {row : Option Nat} (h : a.grownBy w row) (n : Nat) : a.grownBy (w.drewN n) row := ⟨h.os, h.tape, h.output, h.size, h.block⟩
theorem only_setCell {a w : World} {g : Nat} (h : a.grownBy w (some g)) (j : Nat) (u : Value) : a.grownBy (w.setCell ⟨g, j, none⟩ u) (some g) :=
  ⟨h.os, h.tape, h.output, by simpa [World.setCell] using h.size, fun i hi hne => (Below.heap_setCell w ⟨g, j, none⟩ u i (by rintro rfl; exact hne rfl)).trans (h.block i hi hne)⟩

/-- The bytes that a draw reads: a slice that came in, outside block c. -/
def Bytes8 (w : World) (c : Nat) (A : Option Addr) (len : Nat) : Prop :=
  0 < len → ∃ b off, A = some ⟨b, off, none⟩ ∧ b ≠ c ∧ b < w.heap.size ∧ ∀ j, j < len → ∃ z : Nat, z ≤ 255 ∧ w.cell? ⟨b, off + j, none⟩ = some (.int .u8 (z : Int))

theorem Bytes8.grown {w w' : World} {c : Nat} {A : Option Addr} {len : Nat} (h : Bytes8 w c A len) (hg : w.grownBy w' (some c)) : Bytes8 w' c A len := fun hl => by
  obtain ⟨b, off, hA, hne, hlt, hc⟩ := h hl
  refine ⟨b, off, hA, hne, Nat.lt_of_lt_of_le hlt hg.size, fun j hj => ?_⟩
  obtain ⟨z, hz, hcell⟩ := hc j hj
  exact ⟨z, hz, (World.cell?_of_block (a := ⟨b, off + j, none⟩) (hg.block b hlt (by simpa using hne))).trans hcell⟩
theorem Bytes8.below {w w' : World} {c : Nat} {A : Option Addr} {len : Nat} (h : Bytes8 w c A len) (hb : Below w.heap.size w w') : Bytes8 w' c A len := fun hl => by
  obtain ⟨b, off, hA, hne, hlt, hc⟩ := h hl
  refine ⟨b, off, hA, hne, Nat.lt_of_lt_of_le hlt hb.size, fun j hj => ?_⟩
  obtain ⟨z, hz, hcell⟩ := hc j hj
  exact ⟨z, hz, (hb.cell (p := ⟨b, off + j, none⟩) hlt).trans hcell⟩

/-- What came in as code: nil, or bytes. -/
def Came (w : World) (A : Option Addr) (len : Nat) : Prop :=
  0 < len → ∃ b off, A = some ⟨b, off, none⟩ ∧ b < w.heap.size ∧ ∀ j, j < len → ∃ z : Nat, z ≤ 255 ∧ w.cell? ⟨b, off + j, none⟩ = some (.int .u8 (z : Int))

theorem Came.bytes {w w' : World} {A : Option Addr} {len c : Nat} (h : Came w A len) (hb : Below w.heap.size w w') (hc : w.heap.size ≤ c) : Bytes8 w' c A len := fun hl => by
  obtain ⟨b, off, hA, hlt, hz⟩ := h hl
  refine ⟨b, off, hA, by omega, Nat.lt_of_lt_of_le hlt hb.size, fun j hj => ?_⟩
  obtain ⟨z, hz1, hcell⟩ := hz j hj
  exact ⟨z, hz1, (hb.cell (p := ⟨b, off + j, none⟩) hlt).trans hcell⟩
theorem Came.below {w w' : World} {A : Option Addr} {len : Nat} (h : Came w A len) (hb : Below w.heap.size w w') : Came w' A len := fun hl => by
  obtain ⟨b, off, hA, hlt, hz⟩ := h hl
  refine ⟨b, off, hA, Nat.lt_of_lt_of_le hlt hb.size, fun j hj => ?_⟩
  obtain ⟨z, hz1, hcell⟩ := hz j hj
  exact ⟨z, hz1, (hb.cell (p := ⟨b, off + j, none⟩) hlt).trans hcell⟩
end Go.Proofs.YtlanmkimaambgaaGreat.hexes

namespace Go.Proofs.YtlanmkimaambgaaGreat.hexes

/-- Ascending StampOrder. -/
def ltS (a b : Int × Int) : Prop := a.1 < b.1 ∨ (a.1 = b.1 ∧ a.2 < b.2)
instance (a b : Int × Int) : Decidable (ltS a b) := by unfold ltS; infer_instance
theorem ord_lt (a b : Int × Int) : ordSt a.1 a.2 b.1 b.2 < 0 ↔ ltS a b := by
  unfold ordSt ordI ltS
  split <;> split <;> (first | omega | (split <;> omega))
theorem ltS_trans {a b c : Int × Int} (h : ltS a b) (k : ltS b c) : ltS a c := by unfold ltS at *; omega
theorem ltS_irrefl (a : Int × Int) : ¬ltS a a := by unfold ltS; omega
theorem ltS_cases (a b : Int × Int) : ltS a b ∨ a = b ∨ ltS b a := by
  obtain ⟨a1, a2⟩ := a
  obtain ⟨b1, b2⟩ := b
  unfold ltS
  simp only [Prod.mk.injEq]
  omega

/-- z put into an ascending list, once. -/
def insL : List (Int × Int) → Int × Int → List (Int × Int)
  | [], z => [z]
  | t :: out, z => if ltS t z then t :: insL out z else if t = z then t :: out else z :: t :: out

theorem mem_insL (out : List (Int × Int)) (z w : Int × Int) : w ∈ insL out z ↔ w ∈ out ∨ w = z := by
  induction out with
  | nil => simp [insL]
  | cons t out ih =>
    unfold insL
    split
    · simp only [List.mem_cons, ih]
      constructor
      · rintro (h | h | h)
        · exact .inl (.inl h)
        · exact .inl (.inr h)
        · exact .inr h
      · rintro ((h | h) | h)
        · exact .inl h
        · exact .inr (.inl h)
        · exact .inr (.inr h)
    · split
      · rename_i h
        constructor
        · exact .inl
        · rintro (h2 | rfl)
          · exact h2
          · rw [← h]; exact List.mem_cons_self
      · simp only [List.mem_cons]
        constructor
        · rintro (h | h | h)
          · exact .inr h
          · exact .inl (.inl h)
          · exact .inl (.inr h)
        · rintro ((h | h) | h)
          · exact .inr (.inl h)
          · exact .inr (.inr h)
          · exact .inl h

theorem sorted_insL (out : List (Int × Int)) (z : Int × Int) (h : out.Pairwise ltS) : (insL out z).Pairwise ltS := by
  induction out with
  | nil => simp [insL]
  | cons t out ih =>
    rw [List.pairwise_cons] at h
    unfold insL
    split
    · rename_i hlt
      rw [List.pairwise_cons]
      refine ⟨fun w hw => ?_, ih h.2⟩
      rcases (mem_insL out z w).1 hw with h1 | rfl
      · exact h.1 w h1
      · exact hlt
    · split
      · exact List.pairwise_cons.2 h
      · rename_i hn hne
        have hzt : ltS z t := by
          rcases ltS_cases z t with h1 | h1 | h1
          · exact h1
          · exact absurd h1.symm hne
          · exact absurd h1 hn
        rw [List.pairwise_cons]
        refine ⟨fun w hw => ?_, List.pairwise_cons.2 h⟩
        rcases List.mem_cons.1 hw with rfl | h1
        · exact hzt
        · exact ltS_trans hzt (h.1 w h1)

/-- Two ascending lists with the same stamps are one list. -/
theorem sorted_ext : ∀ (a b : List (Int × Int)), a.Pairwise ltS → b.Pairwise ltS → (∀ z, z ∈ a ↔ z ∈ b) → a = b
  | [], [], _, _, _ => rfl
  | [], t :: b, _, _, h => absurd ((h t).2 List.mem_cons_self) (by simp)
  | t :: a, [], _, _, h => absurd ((h t).1 List.mem_cons_self) (by simp)
  | s :: a, t :: b, ha, hb, h => by
    rw [List.pairwise_cons] at ha hb
    have hst : s = t := by
      rcases List.mem_cons.1 ((h s).1 List.mem_cons_self) with h1 | h1
      · exact h1
      · rcases List.mem_cons.1 ((h t).2 List.mem_cons_self) with h2 | h2
        · exact h2.symm
        · exact absurd (ltS_trans (hb.1 s h1) (ha.1 t h2)) (ltS_irrefl _)
    subst hst
    have hab : a = b := sorted_ext a b ha.2 hb.2 (fun z => by
      constructor
      · intro hz
        rcases List.mem_cons.1 ((h z).1 (List.mem_cons_of_mem _ hz)) with rfl | h1
        · exact absurd (ha.1 z hz) (ltS_irrefl _)
        · exact h1
      · intro hz
        rcases List.mem_cons.1 ((h z).2 (List.mem_cons_of_mem _ hz)) with rfl | h1
        · exact absurd (hb.1 z hz) (ltS_irrefl _)
        · exact h1)
    rw [hab]

/-- Whether no other stamp of the list is below z. -/
def leastB (zs : List (Int × Int)) (z : Int × Int) : Bool := zs.all fun t => decide (t = z) || !leqSt t.1 t.2 z.1 z.2
/-- One step of Minimal. -/
def minStep (zs out : List (Int × Int)) (z : Int × Int) : List (Int × Int) := if leastB zs z = true then insL out z else out
/-- Minimal. -/
def minL (zs : List (Int × Int)) : List (Int × Int) := zs.foldl (minStep zs) []

theorem fold_min (zs : List (Int × Int)) : ∀ (ys out : List (Int × Int)), out.Pairwise ltS → (ys.foldl (minStep zs) out).Pairwise ltS ∧ ∀ z, z ∈ ys.foldl (minStep zs) out ↔ z ∈ out ∨ (z ∈ ys ∧ leastB zs z = true)
  | [], out, h => ⟨h, fun z => by simp⟩
  | y :: ys, out, h => by
    rw [List.foldl_cons]
    have hs : (minStep zs out y).Pairwise ltS := by
      unfold minStep; split
      · exact sorted_insL _ _ h
      · exact h
    obtain ⟨h1, h2⟩ := fold_min zs ys (minStep zs out y) hs
    refine ⟨h1, fun z => ?_⟩
    rw [h2 z]
    unfold minStep
    split
    · rename_i hl
      rw [mem_insL]
      constructor
      · rintro ((h | rfl) | h)
        · exact .inl h
        · exact .inr ⟨List.mem_cons_self, hl⟩
        · exact .inr ⟨List.mem_cons_of_mem _ h.1, h.2⟩
      · rintro (h | ⟨h, k⟩)
        · exact .inl (.inl h)
        · rcases List.mem_cons.1 h with rfl | h
          · exact .inl (.inr rfl)
          · exact .inr ⟨h, k⟩
    · rename_i hl
      constructor
      · rintro (h | h)
        · exact .inl h
        · exact .inr ⟨List.mem_cons_of_mem _ h.1, h.2⟩
      · rintro (h | ⟨h, k⟩)
        · exact .inl h
        · rcases List.mem_cons.1 h with rfl | h
          · exact absurd k hl
          · exact .inr ⟨h, k⟩

theorem sorted_minL (zs : List (Int × Int)) : (minL zs).Pairwise ltS := (fold_min zs zs [] List.Pairwise.nil).1
theorem mem_minL (zs : List (Int × Int)) (z : Int × Int) : z ∈ minL zs ↔ z ∈ zs ∧ leastB zs z = true := by
  rw [minL, (fold_min zs zs [] List.Pairwise.nil).2 z]
  simp

/-- Where the place of z in an ascending list is found, and what is then put together. -/
theorem insL_at (z : Int × Int) : ∀ (out : List (Int × Int)) (j : Nat), j ≤ out.length → (∀ i, (h : i < out.length) → i < j → ltS out[i] z) → (∀ h : j < out.length, ¬ltS out[j] z) →
    insL out z = if out[j]? = some z then out else out.take j ++ z :: out.drop j
  | [], j, hj, _, _ => by
    obtain rfl : j = 0 := by simpa using hj
    simp [insL]
  | t :: out, 0, _, _, hs => by
    have h0 := hs (by simp)
    simp only [List.getElem_cons_zero] at h0
    unfold insL
    rw [if_neg h0]
    simp
  | t :: out, j + 1, hj, hb, hs => by
    have h0 := hb 0 (by simp) (by omega)
    simp only [List.getElem_cons_zero] at h0
    have ih := insL_at z out j (by simpa using hj) (fun i hi hij => by have := hb (i + 1) (by simpa using hi) (by omega); simpa using this) (fun h => by have := hs (by simpa using h); simpa using this)
    unfold insL
    rw [if_pos h0, ih]
    simp only [List.getElem?_cons_succ, List.take_succ_cons, List.drop_succ_cons, List.cons_append]
    split <;> rfl
theorem insL_length (out : List (Int × Int)) (z : Int × Int) : (insL out z).length ≤ out.length + 1 := by
  induction out with
  | nil => simp [insL]
  | cons t out ih =>
    unfold insL
    split
    · simp only [List.length_cons]; omega
    · split
      · simp
      · simp
theorem fold_length (zs : List (Int × Int)) : ∀ (ys out : List (Int × Int)), (ys.foldl (minStep zs) out).length ≤ out.length + ys.length
  | [], out => by simp
  | y :: ys, out => by
    rw [List.foldl_cons]
    have h1 := fold_length zs ys (minStep zs out y)
    have h2 : (minStep zs out y).length ≤ out.length + 1 := by
      unfold minStep; split
      · exact insL_length _ _
      · omega
    simp only [List.length_cons]
    omega
theorem fold_step {zs ys : List (Int × Int)} {k : Nat} (hk : k < ys.length) : (ys.take (k + 1)).foldl (minStep zs) [] = minStep zs ((ys.take k).foldl (minStep zs) []) ys[k] := by
  rw [List.take_succ_eq_append_getElem hk, List.foldl_append]
  rfl
end Go.Proofs.YtlanmkimaambgaaGreat.hexes

namespace Go.Proofs.YtlanmkimaambgaaGreat.hexes
open Go.RowKit

theorem keep3 {V w' : World} {a b : Addr} {x y : Value} (hB : Below V.heap.size V w') (h3 : V.cell? a = some x) (h4 : V.cell? b = some y) : w'.cell? a = some x ∧ w'.cell? b = some y ∧ Below V.heap.size V w' := ⟨below_keep hB h3, below_keep hB h4, hB⟩
theorem Blk.news {w : World} {g : Nat} {t : TypeId} {cs : Array Value} (h : Blk w g t cs) (j : Nat) (u : Value) (hu : cs.toList[j]? = some u) : w.cell? (Addr.add ⟨g, 0, none⟩ j) = some u := by
  rw [show (Addr.add ⟨g, 0, none⟩ j) = ⟨g, j, none⟩ by unfold Addr.add; split <;> simp_all, h.cell]
  simpa using hu
/-- An append to a row above V's blocks turns nothing below them. -/
theorem wp_append_st {P : Program} {V w : World} {o : Oper} {a : Act} {K : Act → World → Prop} {Q : Exit → Act → World → Prop} (s x : Operand) (t : TypeId)
    (ho : o.op = .call { callee := .builtin .append, args := #[s, x], argTypes := #[t, t] })
    (e : TypeId) (i : TypeInfo) (z : Value) (size bytes : Nat) (ht : P.underlying t = some (.slice e)) (hi : P.info? e = some i) (hz : i.zero = some z)
    (hsize : i.size = size) (hby : i.bytes = bytes) (hzs : z.cells.size = size) (hsz : 0 < size)
    (v : Value) (n : Nat) (xs : List Value) (hs : a.eval s = v) (hown : w.ownsRow V.heap.size e size v n xs)
    (ad : Addr) (m c : Nat) (news : List Value) (hx : a.eval x = .slice (some ad) m c) (hl : news.length = m * size) (hnews : ∀ j u, news[j]? = some u → w.cell? (ad.add j) = some u) (h1 : ∀ u ∈ news, u.oneCell' = true)
    (h63 : n + m ≤ maxLen) (hbytes : (n + m) * bytes ≤ 140737488355328) (hB : Below V.heap.size V w)
    (h : ∀ v' w', w'.ownsRow V.heap.size e size v' (n + m) (xs ++ news) → w.grownBy w' v.ownBlock → Below V.heap.size V w' → (v' = .slice none 0 0 ↔ v = .slice none 0 0 ∧ m = 0) → K (a.put o.dst v') w') : o.wp P a w K Q :=
  wp_append_own w s x t ho V.heap.size e i z size bytes ht hi hz hsize hby hzs hsz v n xs hs hown ad m c news hx hl hnews h1 h63 hbytes hB.size fun v' w' h2 h3 h4 => h v' w' h2 h3 (hB.grown h3 hB.size (own_ge hown)) h4
theorem own_cap {w : World} {base e g n cap size : Nat} {xs : List Value} (h : w.ownsRow base e size (.slice (some ⟨g, 0, none⟩) n cap) n xs) : n ≤ cap := by
  rcases h.2 with ⟨h', _⟩ | ⟨g', cap', cur, h', _, _, hnc, _⟩
  · simp at h'
  · simp only [Value.slice.injEq, Option.some.injEq, Addr.mk.injEq, and_true, true_and] at h'
    omega
theorem stCells_one {zs : List (Int × Int)} {u : Value} (h : u ∈ stCells zs) : u.oneCell' = true := by
  simp only [stCells, List.mem_flatMap, List.mem_cons, List.not_mem_nil, or_false] at h
  obtain ⟨z, _, rfl | rfl⟩ := h <;> rfl
theorem addr_add0 (g j : Nat) : (Addr.add ⟨g, 0, none⟩ j) = ⟨g, j, none⟩ := by unfold Addr.add; split <;> simp_all
/-- The first j stamps of an owned row, as what an append takes. -/
theorem own_news {w : World} {base e g n cap : Nat} {zs : List (Int × Int)} (h : w.ownsRow base e 2 (.slice (some ⟨g, 0, none⟩) n cap) n (stCells zs)) (j i : Nat) (u : Value) (hu : (stCells (zs.take j))[i]? = some u) : w.cell? (Addr.add ⟨g, 0, none⟩ i) = some u := by
  have hp : (stCells zs)[i]? = some u := by
    have e1 : stCells zs = stCells (zs.take j) ++ stCells (zs.drop j) := by rw [← stCells_append, List.take_append_drop]
    rw [e1, List.getElem?_append_left (List.getElem?_eq_some_iff.1 hu).1]
    exact hu
  rw [addr_add0, h.cellAt i (by rw [← h.1]; exact (List.getElem?_eq_some_iff.1 hp).1)]
  exact hp

theorem addr_add1 (g o j : Nat) : (Addr.add ⟨g, o, none⟩ j) = ⟨g, o + j, none⟩ := by unfold Addr.add; split <;> simp_all
/-- The stamps of an owned row from the j-th on, as what an append takes. -/
theorem own_news_drop {w : World} {base e g n cap : Nat} {zs : List (Int × Int)} (h : w.ownsRow base e 2 (.slice (some ⟨g, 0, none⟩) n cap) n (stCells zs)) (j i : Nat) (u : Value) (hu : (stCells (zs.drop j))[i]? = some u) : w.cell? (Addr.add ⟨g, j * 2, none⟩ i) = some u := by
  have hi := (List.getElem?_eq_some_iff.1 hu).1
  rw [stCells_length, List.length_drop] at hi
  have hp : (stCells zs)[j * 2 + i]? = some u := by
    have e1 : stCells zs = stCells (zs.take j) ++ stCells (zs.drop j) := by rw [← stCells_append, List.take_append_drop]
    have l1 : (stCells (zs.take j)).length = j * 2 := by rw [stCells_length, List.length_take]; omega
    rw [e1, List.getElem?_append_right (by omega), l1, show j * 2 + i - j * 2 = i by omega]
    exact hu
  rw [addr_add1, h.cellAt (j * 2 + i) (by rw [← h.1]; exact (List.getElem?_eq_some_iff.1 hp).1)]
  exact hp

/-- The j-th stamp of an owned row, cell by cell. -/
theorem own_at2 {w : World} {base e g n cap j : Nat} {zs : List (Int × Int)} (h : w.ownsRow base e 2 (.slice (some ⟨g, 0, none⟩) n cap) n (stCells zs)) (hj : j < zs.length) : ∃ r s, zs[j] = (r, s) ∧ w.cell? ⟨g, j * 2, none⟩ = some (.int .i64 r) ∧ w.cell? ⟨g, j * 2 + 1, none⟩ = some (.int .i64 s) := by
  have hl := h.1
  rw [stCells_length] at hl
  refine ⟨zs[j].1, zs[j].2, rfl, ?_, ?_⟩
  · rw [h.cellAt (j * 2) (by omega)]; exact (stCells_at zs j hj).1
  · rw [h.cellAt (j * 2 + 1) (by omega)]; exact (stCells_at zs j hj).2

end Go.Proofs.YtlanmkimaambgaaGreat.hexes

namespace Go.Proofs.YtlanmkimaambgaaGreat.hexes
open Go.RowKit

theorem Sts.news {w : World} {ad : Addr} {ys : List (Int × Int)} (h : Sts w (some ad) ys) (j : Nat) (u : Value) (hu : (stCells ys)[j]? = some u) : w.cell? (ad.add j) = some u := by
  have hj : j < ys.length * 2 := by rw [← stCells_length]; exact (List.getElem?_eq_some_iff.1 hu).1
  obtain ⟨b, off, hA, _, hz⟩ := h (by omega)
  obtain rfl : ad = ⟨b, off, none⟩ := Option.some.inj hA
  rw [addr_add1]
  have hk : j / 2 < ys.length := by omega
  have e := stCells_at ys (j / 2) hk
  have z := hz (j / 2) hk
  rcases Nat.mod_two_eq_zero_or_one j with h2 | h2
  · rw [show j / 2 * 2 = j by omega] at e z
    rw [z.1, ← hu, e.1]
  · rw [show off + j / 2 * 2 + 1 = off + j by omega] at z
    rw [show j / 2 * 2 + 1 = j by omega] at e
    rw [z.2, ← hu, e.2]

theorem own_nil {w : World} {B e size n c : Nat} {A : Option Addr} {xs : List Value} (h : w.ownsRow B e size (.slice A n c) n xs) (hA : A = none) : c = 0 := by
  rcases h.2 with ⟨h', _⟩ | ⟨g, cap, cur, h', _⟩
  · simp only [Value.slice.injEq] at h'
    exact h'.2.2
  · subst hA
    simp at h'

theorem sts_none {w : World} {n : Nat} {zs : List (Int × Int)} (h : Sts w none zs) (hz : zs.length = n) : n = 0 := by
  rcases Nat.eq_zero_or_pos n with h0 | h0
  · exact h0
  · obtain ⟨b, off, hA, _⟩ := h (by omega)
    cases hA

end Go.Proofs.YtlanmkimaambgaaGreat.hexes

namespace Go.Proofs.YtlanmkimaambgaaGreat.hexes
open Go.RowKit

/-- A row of n elements whose block lies from lo on and below hi. -/
structure Row (w : World) (lo hi e size : Nat) (A : Option Addr) (n c : Nat) (xs : List Value) : Prop where
  own : w.ownsRow lo e size (.slice A n c) n xs
  lt : ∀ g, (Value.slice A n c).ownBlock = some g → g < hi

/-- Only a block from lo on and below hi was written. -/
def Wrote (w w' : World) (lo hi : Nat) : Prop := ∃ row, w.grownBy w' row ∧ ∀ g, row = some g → lo ≤ g ∧ g < hi

theorem Row.below {w w' : World} {lo hi e size n c : Nat} {A : Option Addr} {xs : List Value} (h : Row w lo hi e size A n c xs) (hb : Below w.heap.size w w') : Row w' lo hi e size A n c xs := ⟨own_below h.own hb, h.lt⟩
theorem Row.wrote {w w' : World} {lo hi lo' hi' e size n c : Nat} {A : Option Addr} {xs : List Value} (h : Row w lo hi e size A n c xs) (hw : Wrote w w' lo' hi') (hd : hi ≤ lo' ∨ hi' ≤ lo) : Row w' lo hi e size A n c xs := by
  obtain ⟨row, hg, hr⟩ := hw
  refine ⟨h.own.kept hg ?_, h.lt⟩
  cases hv : (Value.slice A n c).ownBlock with
  | none => exact .inl rfl
  | some g =>
    refine .inr fun e => ?_
    have h1 := hr g e.symm
    have h2 := h.lt g hv
    have h3 := own_ge h.own g hv
    omega
theorem Row.nil {w : World} {lo hi e size n c : Nat} {A : Option Addr} {xs : List Value} (h : Row w lo hi e size A n c xs) : A = none → c = 0 := own_nil h.own
theorem Row.sts {w : World} {lo hi e n c : Nat} {A : Option Addr} {zs : List (Int × Int)} (h : Row w lo hi e 2 A n c (stCells zs)) : Sts w A zs := by
  obtain ⟨A', c', he, _, hs⟩ := Sts.of_own h.own
  simp only [Value.slice.injEq, true_and] at he
  obtain ⟨rfl, rfl⟩ := he
  exact hs
theorem Row.len {w : World} {lo hi e n c : Nat} {A : Option Addr} {zs : List (Int × Int)} (h : Row w lo hi e 2 A n c (stCells zs)) : zs.length = n := by
  have := h.own.1; rw [stCells_length] at this; omega
theorem below_wrote {a w w' : World} {lo hi : Nat} (h : Below a.heap.size a w) (hw : Wrote w w' lo hi) (hlo : a.heap.size ≤ lo) : Below a.heap.size a w' := by
  obtain ⟨row, hg, hr⟩ := hw
  exact h.grown hg h.size fun k hk => Nat.le_trans hlo (hr k hk).1
theorem Wrote.size {w w' : World} {lo hi : Nat} (h : Wrote w w' lo hi) : w.heap.size ≤ w'.heap.size := by
  obtain ⟨row, hg, _⟩ := h
  exact hg.size

theorem row_of {w w' : World} {e size n : Nat} {v : Value} {xs : List Value} (h : w'.ownsRow w.heap.size e size v n xs) : ∃ A c, v = .slice A n c ∧ Row w' w.heap.size w'.heap.size e size A n c xs := by
  obtain ⟨A, c, rfl, hf⟩ := own_form h
  refine ⟨A, c, rfl, h, fun g hg => ?_⟩
  rcases h.2 with ⟨h', _⟩ | ⟨g', cap, cur, h', _, hgg, _⟩
  · rw [h'] at hg; simp [Value.ownBlock] at hg
  · rw [h'] at hg
    obtain rfl : g' = g := by simpa [Value.ownBlock] using hg
    exact (Array.getElem?_eq_some_iff.1 hgg).1

end Go.Proofs.YtlanmkimaambgaaGreat.hexes

