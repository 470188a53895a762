/-
  Maps from stamps to counts: what a stamp reads as, and how a map reads as a table.
-/
import Derived.Test.YtdmbkjebagnloaaStKey
import Derived.Test.YtdmbkjebagnloaaCtList
import Derived.Maps.Views
import Derived.WalkArith
namespace Go.Proofs.Ytdmbkjebagnloaa.hexes
open Go.RowKit Go.Maps

theorem keyLits_int {P : Program} {t : TypeId} (ht : P.underlying t = some (.int .i64)) {d : Nat} {v : Value} {ls : List Lit} (h : P.keyLits (d + 1) t [v] = some ls) : ∃ x, v = .int .i64 x ∧ (Lit.int .i64 x).wf = true := by
  unfold Program.keyLits at h
  rw [ht] at h
  cases v <;> simp at h
  rename_i q x
  obtain ⟨⟨rfl, hw⟩, _⟩ := h
  exact ⟨x, rfl, hw⟩

set_option maxRecDepth 1000000 in
theorem stKey_inv {key : Value} {kl : Lit} (h : keyOf Try.prog 34 key = some kl) : ∃ x y, key = .agg #[.int .i64 x, .int .i64 y] ∧ kl = stKey x y ∧ (Lit.int .i64 x).wf = true ∧ (Lit.int .i64 y).wf = true := by
  have h0 := h
  have hu := Try.underlying34
  have hc1 : Try.prog.cellsOf 3 = 1 := by kernel_rfl
  obtain ⟨m, hm⟩ : ∃ m, Try.prog.types.size = m + 1 := ⟨Try.prog.types.size - 1, (Nat.succ_pred_eq_of_pos (Nat.lt_of_le_of_lt (Nat.zero_le _) stRow)).symm⟩
  unfold keyOf at h
  rw [hu] at h
  dsimp only at h
  split at h
  · rename_i hf
    rw [Bool.and_eq_true] at hf
    obtain ⟨_, hf⟩ := hf
    cases key <;> simp [Value.formed, hu, stCells2] at hf
    rename_i cs
    obtain ⟨a, b, rfl⟩ : ∃ a b, cs = #[a, b] := by
      rcases cs with ⟨l⟩
      match l, hf with
      | [a, b], _ => exact ⟨a, b, rfl⟩
    rw [hm] at h
    unfold Program.keyLits at h
    rw [hu] at h
    simp [Value.cells, stCells2, hc1] at h
    cases h1 : Try.prog.keyLits (m + 1) 3 [a] with
    | none => rw [h1] at h; cases h
    | some l1 =>
    cases h2 : Try.prog.keyLits (m + 1) 3 [b] with
    | none => rw [h1, h2] at h; cases h
    | some l2 =>
    obtain ⟨x, rfl, hx⟩ := keyLits_int Try.underlying3 h1
    obtain ⟨y, rfl, hy⟩ := keyLits_int Try.underlying3 h2
    refine ⟨x, y, rfl, ?_, hx, hy⟩
    have := stKey_of hx hy
    rw [h0] at this
    exact Option.some.inj this
  · cases h

theorem stKey_lit {x y : Int} (hx : (Lit.int .i64 x).wf = true) (hy : (Lit.int .i64 y).wf = true) : WideAt.IsKeyLit (stKey x y) := stKeyed.key (stKey_of hx hy)
theorem stKey_inj {x y u v : Int} (hx : (Lit.int .i64 x).wf = true) (hy : (Lit.int .i64 y).wf = true) (hu : (Lit.int .i64 u).wf = true) (hv : (Lit.int .i64 v).wf = true) (h : stKey x y = stKey u v) : x = u ∧ y = v := by
  have h1 := stKey_of hx hy
  rw [h] at h1
  have := stKeyed.inj h1 (stKey_of hu hv)
  simpa using this

/-- A 64-bit number, and a stamp of such. -/
def wfSt (s : Int × Int) : Prop := (Lit.int .i64 s.1).wf = true ∧ (Lit.int .i64 s.2).wf = true
theorem wf_small {x : Int} (h : -1000000000 ≤ x ∧ x ≤ 1000000000) : (Lit.int .i64 x).wf = true := by
  exact WalkArith.wf_i64 (by omega)
theorem wfSt_ok {x y : Int} (h : okSt x y = true) : wfSt (x, y) := by
  unfold okSt at h
  rw [decide_eq_true_eq] at h
  exact ⟨wf_small (by omega), wf_small (by omega)⟩

/-- A map reads as a table: at every stamp its count, and no entry elsewhere. -/
structure MapOf (D : DataW Unit) (zs : List Ct) : Prop where
  map : IsMap D
  cnt : ∀ s, wfSt s → D.atKey (stKey s.1 s.2) (.lit (.int .i64 0)) = .lit (.int .i64 (countAt zs s))
  has : ∀ s, wfSt s → (Maps.has D (stKey s.1 s.2) = true ↔ countAt zs s ≠ 0)

theorem MapOf.nil : MapOf (.map []) [] := ⟨⟨_, rfl⟩, fun _ _ => rfl, fun _ _ => by simp [Maps.has, countAt]⟩
theorem MapOf.put {D : DataW Unit} {zs us : List Ct} (h : MapOf D zs) {s : Int × Int} {n : Int} (hs : wfSt s) (hn : n ≠ 0) (hu : ∀ t, countAt us t = if t = s then n else countAt zs t) : MapOf (D.put (stKey s.1 s.2) (.lit (.int .i64 n))) us where
  map := by obtain ⟨es, rfl⟩ := h.map; exact ⟨_, rfl⟩
  cnt t ht := by
    by_cases e : t = s
    · subst e
      rw [atKey_put_same h.map (stKey_lit hs.1 hs.2), hu, if_pos rfl]
    · have hne : stKey t.1 t.2 ≠ stKey s.1 s.2 := fun h' => e (Prod.ext (stKey_inj ht.1 ht.2 hs.1 hs.2 h').1 (stKey_inj ht.1 ht.2 hs.1 hs.2 h').2)
      rw [atKey_put_other hne, hu, if_neg e]
      exact h.cnt t ht
  has t ht := by
    by_cases e : t = s
    · subst e
      rw [has_put_same h.map (stKey_lit hs.1 hs.2), hu, if_pos rfl]
      simpa using hn
    · have hne : stKey t.1 t.2 ≠ stKey s.1 s.2 := fun h' => e (Prod.ext (stKey_inj ht.1 ht.2 hs.1 hs.2 h').1 (stKey_inj ht.1 ht.2 hs.1 hs.2 h').2)
      rw [has_put_other hne, hu, if_neg e]
      exact h.has t ht
theorem MapOf.del {D : DataW Unit} {zs us : List Ct} (h : MapOf D zs) {s : Int × Int} (hs : wfSt s) (hu : ∀ t, countAt us t = if t = s then 0 else countAt zs t) : MapOf (D.del (stKey s.1 s.2)) us where
  map := by obtain ⟨es, rfl⟩ := h.map; exact ⟨_, rfl⟩
  cnt t ht := by
    by_cases e : t = s
    · subst e
      rw [atKey_del_same, hu, if_pos rfl]
    · have hne : stKey t.1 t.2 ≠ stKey s.1 s.2 := fun h' => e (Prod.ext (stKey_inj ht.1 ht.2 hs.1 hs.2 h').1 (stKey_inj ht.1 ht.2 hs.1 hs.2 h').2)
      rw [atKey_del_other hne, hu, if_neg e]
      exact h.cnt t ht
  has t ht := by
    by_cases e : t = s
    · subst e
      rw [has_del_same, hu, if_pos rfl]
      simp
    · have hne : stKey t.1 t.2 ≠ stKey s.1 s.2 := fun h' => e (Prod.ext (stKey_inj ht.1 ht.2 hs.1 hs.2 h').1 (stKey_inj ht.1 ht.2 hs.1 hs.2 h').2)
      rw [has_del_other hne, hu, if_neg e]
      exact h.has t ht

/-- The stamps that a range over the map has met: none twice; a stamp is among them just where the map has it and it is no longer to come. -/
structure Met (D : DataW Unit) (left : Lit → Bool) (ss : List (Int × Int)) : Prop where
  nodup : ss.Nodup
  wf : ∀ s ∈ ss, wfSt s
  iff : ∀ s, wfSt s → (s ∈ ss ↔ (Maps.has D (stKey s.1 s.2) = true ∧ left (stKey s.1 s.2) = false))
theorem Met.start (D : DataW Unit) : Met D (Maps.has D) [] := ⟨List.nodup_nil, fun _ h => by simp at h, fun s _ => by cases Maps.has D (stKey s.1 s.2) <;> simp⟩
theorem Met.step {D : DataW Unit} {left : Lit → Bool} {ss : List (Int × Int)} (h : Met D left ss) {x y : Int} {d : DataW Unit} (hs : wfSt (x, y)) (hlk : left (stKey x y) = true) (hat : ∀ zd, D.atKey (stKey x y) zd = d) : Met D (fun z => left z && !z.sameKey (stKey x y)) (ss ++ [(x, y)]) where
  nodup := by
    have hnew : (x, y) ∉ ss := fun hx => by have := ((h.iff _ hs).1 hx).2; rw [hlk] at this; cases this
    exact List.nodup_append.2 ⟨h.nodup, by simp, fun a ha b hb => by simp at hb; subst hb; exact fun e => hnew (e ▸ ha)⟩
  wf s hm := by
    rcases List.mem_append.1 hm with h' | h'
    · exact h.wf s h'
    · simp at h'; subst h'; exact hs
  iff s hw := by
    have hhas : Maps.has D (stKey x y) = true := has_true_of_atKey hat
    by_cases e : s = (x, y)
    · subst e
      simp [hhas, WideAt.sameKey_self (stKey_lit hs.1 hs.2)]
    · have hne : (stKey s.1 s.2).sameKey (stKey x y) = false := by
        rw [← Bool.not_eq_true]
        intro h'
        have := stKey_inj hw.1 hw.2 hs.1 hs.2 (WideAt.sameKey_eq h')
        exact e (Prod.ext this.1 this.2)
      simp [h.iff s hw, e, hne]
/-- At the end. -/
theorem Met.all {D : DataW Unit} {left : Lit → Bool} {ss : List (Int × Int)} (h : Met D left ss) (hl : ∀ kl, left kl = false) (s : Int × Int) (hs : wfSt s) : s ∈ ss ↔ Maps.has D (stKey s.1 s.2) = true := by
  rw [h.iff s hs, hl]; simp
end Go.Proofs.Ytdmbkjebagnloaa.hexes
