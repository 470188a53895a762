/-
  Vertices in memory: pointers to their successors, and the marks on them.
-/
import Derived.Test.YtjplkoglibagkaaJ19
import Derived.Test.YtjplkoglibagkaaJ7

namespace Go.Proofs.Ytjplkoglibagkaa.hexes
open Go.RowKit

/-- A list of vertices' numbers as a row of pointers; g gives a vertex's block. -/
def ptrs (g : Nat → Nat) (zs : List Nat) : List Value := zs.map fun t => Value.pointer (some ⟨g t, 0, none⟩)

theorem ptrs_length (g : Nat → Nat) (zs : List Nat) : (ptrs g zs).length = zs.length := by simp [ptrs]
theorem ptrs_at (g : Nat → Nat) (zs : List Nat) (j : Nat) (h : j < zs.length) : (ptrs g zs)[j]? = some (.pointer (some ⟨g zs[j], 0, none⟩)) := by simp [ptrs, h]
theorem ptrs_append (g : Nat → Nat) (a b : List Nat) : ptrs g (a ++ b) = ptrs g a ++ ptrs g b := by simp [ptrs]
theorem ptrs_one {g : Nat → Nat} {zs : List Nat} {u : Value} (h : u ∈ ptrs g zs) : u.oneCell' = true := by
  simp only [ptrs, List.mem_map] at h
  obtain ⟨z, _, rfl⟩ := h
  rfl
theorem ptrs_congr {g g' : Nat → Nat} {zs : List Nat} (h : ∀ t ∈ zs, g t = g' t) : ptrs g zs = ptrs g' zs := by
  unfold ptrs
  exact List.map_congr_left fun t ht => by rw [h t ht]

/-- n vertices from block B on: vertex j lies in block g j; zs j are its successors, in a row of its own at nx j; r j is its mark. -/
structure Vx (w : World) (B n : Nat) (g : Nat → Nat) (nx : Nat → Option Addr × Nat) (zs : Nat → List Nat) (r : Nat → Bool) : Prop where
  blk : ∀ j, j < n → Blk w (g j) 73 #[.slice (nx j).1 (zs j).length (nx j).2, .bool (r j)]
  row : ∀ j, j < n → w.ownsRow B 71 1 (.slice (nx j).1 (zs j).length (nx j).2) (zs j).length (ptrs g (zs j))
  inj : ∀ i j, i < n → j < n → g i = g j → i = j
  base : ∀ j, j < n → B ≤ g j
  apart : ∀ i j, i < n → j < n → i ≠ j → ∀ k, (Value.slice (nx i).1 (zs i).length (nx i).2).ownBlock = some k → (Value.slice (nx j).1 (zs j).length (nx j).2).ownBlock ≠ some k
  lt : ∀ j, j < n → ∀ t ∈ zs j, t < n

theorem Vx.below {w w' : World} {B n : Nat} {g : Nat → Nat} {nx : Nat → Option Addr × Nat} {zs : Nat → List Nat} {r : Nat → Bool} (h : Vx w B n g nx zs r) (hb : Below w.heap.size w w') : Vx w' B n g nx zs r :=
  ⟨fun j hj => (h.blk j hj).below hb, fun j hj => own_below (h.row j hj) hb, h.inj, h.base, h.apart, h.lt⟩

/-- A vertex is marked. -/
theorem Vx.mark {w : World} {B n : Nat} {g : Nat → Nat} {nx : Nat → Option Addr × Nat} {zs : Nat → List Nat} {r : Nat → Bool} (h : Vx w B n g nx zs r) {s : Nat} (hs : s < n) (b : Bool) :
    Vx (w.setCell ⟨g s, 1, none⟩ (.bool b)) B n g nx zs (fun t => if t = s then b else r t) := by
  refine ⟨fun j hj => ?_, fun j hj => ?_, h.inj, h.base, h.apart, h.lt⟩
  · by_cases e : j = s
    · subst e
      have q := (h.blk j hj).put 1 (.bool b)
      simpa using q
    · simp only [if_neg e]
      exact (h.blk j hj).other (fun q => e (h.inj j s hj hs q)) _
  · exact (h.row j hj).kept (grown_set w ⟨g s, 1, none⟩ (.bool b)) (.inr (own_type (h.row j hj) (h.blk s hs) (by decide)))

/-- How many of the first n vertices bear no mark. -/
def unr (r : Nat → Bool) (n : Nat) : Nat := ((List.range n).filter fun t => !r t).length

theorem unr_lt {r r' : Nat → Bool} {n s : Nat} (hm : ∀ t, r t = true → r' t = true) (hs : s < n) (h0 : r s = false) (h1 : r' s = true) : unr r' n < unr r n := by
  unfold unr
  induction n with
  | zero => omega
  | succ n ih =>
    rw [List.range_succ, List.filter_append, List.filter_append, List.length_append, List.length_append]
    have le1 : ((List.range n).filter fun t => !r' t).length ≤ ((List.range n).filter fun t => !r t).length := by
      clear ih hs
      induction n with
      | zero => simp
      | succ n ih =>
        rw [List.range_succ, List.filter_append, List.filter_append, List.length_append, List.length_append]
        have : ([n].filter fun t => !r' t).length ≤ ([n].filter fun t => !r t).length := by
          cases h : r n
          · cases h' : r' n <;> simp [h, h']
          · simp [h, hm n h]
        omega
    by_cases e : s = n
    · subst e
      simp only [h0, h1, List.filter_cons, Bool.not_true, Bool.not_false, if_true, List.filter_nil, List.length_cons, List.length_nil]
      simp
      omega
    · have := ih (by omega)
      have h2 : ([n].filter fun t => !r' t).length ≤ ([n].filter fun t => !r t).length := by
        cases h : r n
        · cases h' : r' n <;> simp [h, h']
        · simp [h, hm n h]
      omega
theorem unr_le {r r' : Nat → Bool} (hm : ∀ t, r t = true → r' t = true) (n : Nat) : unr r' n ≤ unr r n := by
  unfold unr
  induction n with
  | zero => simp
  | succ n ih =>
    rw [List.range_succ, List.filter_append, List.filter_append, List.length_append, List.length_append]
    have : ([n].filter fun t => !r' t).length ≤ ([n].filter fun t => !r t).length := by
      cases h : r n
      · cases h' : r' n <;> simp [h, h']
      · simp [h, hm n h]
    omega

/-- The first q successors of vertex j have been followed, the marks r having become r'. -/
structure Dfs (zs : Nat → List Nat) (P : Nat → Nat → Prop) (r : Nat → Bool) (j q : Nat) (r' : Nat → Bool) : Prop where
  mono : ∀ t, r t = true → r' t = true
  only : ∀ t, r' t = true → r t = true ∨ P j t
  here : ∀ x ∈ (zs j).take q, r' x = true
  new : ∀ t, r' t = true → r t = false → ∀ x ∈ zs t, r' x = true

theorem dfs_start (zs : Nat → List Nat) (P : Nat → Nat → Prop) (r : Nat → Bool) (j : Nat) : Dfs zs P r j 0 r :=
  ⟨fun _ h => h, fun _ h => .inl h, fun x hx => by simp at hx, fun t h1 h2 => by rw [h1] at h2; cases h2⟩

/-- A successor that is marked already. -/
theorem Dfs.skip {zs : Nat → List Nat} {P : Nat → Nat → Prop} {r r' : Nat → Bool} {j q s : Nat} (h : Dfs zs P r j q r') (hq : q < (zs j).length) (hs : (zs j)[q] = s) (hr : r' s = true) : Dfs zs P r j (q + 1) r' := by
  refine ⟨h.mono, h.only, fun x hx => ?_, h.new⟩
  rw [List.take_succ_eq_append_getElem hq, hs] at hx
  rcases List.mem_append.1 hx with hx | hx
  · exact h.here x hx
  · obtain rfl : x = s := by simpa using hx
    exact hr

/-- A successor that is marked and followed. -/
theorem Dfs.follow {zs : Nat → List Nat} {P : Nat → Nat → Prop} (hE : ∀ a x, x ∈ zs a → P a x) (hT : ∀ a m t, P a m → P m t → P a t) {r r' r2 : Nat → Bool} {j q s : Nat} (h : Dfs zs P r j q r') (hq : q < (zs j).length) (hs : (zs j)[q] = s) (_hr : r' s = false)
    (h2 : Dfs zs P (fun t => if t = s then true else r' t) s (zs s).length r2) : Dfs zs P r j (q + 1) r2 := by
  have ms : ∀ t, r' t = true → r2 t = true := fun t ht => h2.mono t (by by_cases e : t = s <;> simp [e, ht])
  have hss : r2 s = true := h2.mono s (by simp)
  have hjs : P j s := hE j s (hs ▸ List.getElem_mem hq)
  refine ⟨fun t ht => ms t (h.mono t ht), fun t ht => ?_, fun x hx => ?_, fun t ht h0 x hx => ?_⟩
  · rcases h2.only t ht with h3 | h3
    · by_cases e : t = s
      · subst e; exact .inr hjs
      · simp only [if_neg e] at h3
        exact h.only t h3
    · exact .inr (hT _ _ _ hjs h3)
  · rw [List.take_succ_eq_append_getElem hq, hs] at hx
    rcases List.mem_append.1 hx with hx | hx
    · exact ms x (h.here x hx)
    · obtain rfl : x = s := by simpa using hx
      exact hss
  · by_cases e : t = s
    · subst e
      exact h2.here x (by rw [List.take_length]; exact hx)
    · cases h1 : r' t with
      | true => exact ms x (h.new t h1 h0 x hx)
      | false => exact h2.new t ht (by simp [e, h1]) x hx

end Go.Proofs.Ytjplkoglibagkaa.hexes

