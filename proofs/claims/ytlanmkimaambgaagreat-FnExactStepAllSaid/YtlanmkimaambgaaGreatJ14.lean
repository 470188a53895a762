/-
  Records as lists: the order of records, what sorting gives, bags, epochs, counts by stamp.
  Remembers on both sides.
  One step of an operator on lists.
  Counts: the contracts of the laws' toCount and eqCount.
-/
import Derived.Test.YtlanmkimaambgaaGreatJ13
import Derived.Test.YtlanmkimaambgaaGreatJ0
import Derived.Test.YtlanmkimaambgaaGreatJ4
import Derived.Test.YtlanmkimaambgaaGreatJ10
import Derived.Test.YtlanmkimaambgaaGreatJ11
import Derived.Test.YtlanmkimaambgaaGreatJ12
import Derived.Test.YtlanmkimaambgaaGreatJ1
import Derived.Test.YtlanmkimaambgaaGreatJ3

namespace Go.Proofs.YtlanmkimaambgaaGreat.hexes
open Go.RowKit

/-- A record: operator, stamp, key, value. -/
abbrev Rc := Int × (Int × Int) × Int × Int

/-- All its numbers are of 64 bits. -/
def wfRc (z : Rc) : Prop := (Lit.int .i64 z.1).wf = true ∧ (Lit.int .i64 z.2.1.1).wf = true ∧ (Lit.int .i64 z.2.1.2).wf = true ∧ (Lit.int .i64 z.2.2.1).wf = true ∧ (Lit.int .i64 z.2.2.2).wf = true
/-- What RecordOrder answers. -/
def ordRc (a b : Rc) : Int :=
  if ordSt a.2.1.1 a.2.1.2 b.2.1.1 b.2.1.2 ≠ 0 then ordSt a.2.1.1 a.2.1.2 b.2.1.1 b.2.1.2
  else if ordI a.1 b.1 ≠ 0 then ordI a.1 b.1
  else if ordI a.2.2.1 b.2.2.1 ≠ 0 then ordI a.2.2.1 b.2.2.1
  else ordI a.2.2.2 b.2.2.2
/-- What RecordOk answers. -/
def okRc (z : Rc) : Bool := decide (0 ≤ z.1 ∧ z.1 ≤ 7) && okSt z.2.1.1 z.2.1.2 && decide (0 ≤ z.2.2.1 ∧ z.2.2.1 ≤ 99) && decide (0 ≤ z.2.2.2 ∧ z.2.2.2 ≤ 999)

/-- a comes ahead of b. -/
def ltR (a b : Rc) : Prop := ltS a.2.1 b.2.1 ∨ (a.2.1.1 = b.2.1.1 ∧ a.2.1.2 = b.2.1.2 ∧ (a.1 < b.1 ∨ (a.1 = b.1 ∧ (a.2.2.1 < b.2.2.1 ∨ (a.2.2.1 = b.2.2.1 ∧ a.2.2.2 < b.2.2.2)))))
instance (a b : Rc) : Decidable (ltR a b) := by unfold ltR ltS; infer_instance

theorem ltR_irrefl (a : Rc) : ¬ltR a a := by unfold ltR ltS; omega
theorem ltR_trans {a b c : Rc} (h1 : ltR a b) (h2 : ltR b c) : ltR a c := by unfold ltR ltS at *; omega
theorem ltR_ntrans {a b c : Rc} (h1 : ¬ltR a b) (h2 : ¬ltR b c) : ¬ltR a c := by unfold ltR ltS at *; omega
theorem ltR_total {a b : Rc} (h1 : ¬ltR a b) (h2 : ¬ltR b a) : a = b := by
  obtain ⟨a1, ⟨a2, a3⟩, a4, a5⟩ := a
  obtain ⟨b1, ⟨b2, b3⟩, b4, b5⟩ := b
  unfold ltR ltS at *
  simp only [Prod.mk.injEq] at *
  omega
theorem ltR_asymm {a b : Rc} (h : ltR a b) : ¬ltR b a := fun h' => ltR_irrefl a (ltR_trans h h')

theorem ordI_cases (x u : Int) : (x < u ∧ ordI x u = -1) ∨ (x = u ∧ ordI x u = 0) ∨ (u < x ∧ ordI x u = 1) := by
  unfold ordI
  split
  · exact .inl ⟨by assumption, rfl⟩
  · split
    · exact .inr (.inr ⟨by omega, rfl⟩)
    · exact .inr (.inl ⟨by omega, rfl⟩)
theorem ordRc_neg (a b : Rc) : ordRc a b < 0 ↔ ltR a b := by
  unfold ordRc ordSt ltR ltS
  rcases ordI_cases a.2.1.1 b.2.1.1 with ⟨h0, e0⟩ | ⟨h0, e0⟩ | ⟨h0, e0⟩
  · simp [e0]; omega
  rotate_left
  · simp [e0]; omega
  rcases ordI_cases a.2.1.2 b.2.1.2 with ⟨h1, e1⟩ | ⟨h1, e1⟩ | ⟨h1, e1⟩
  · simp [e0, e1]; omega
  rotate_left
  · simp [e0, e1]; omega
  rcases ordI_cases a.1 b.1 with ⟨h2, e2⟩ | ⟨h2, e2⟩ | ⟨h2, e2⟩
  · simp [e0, e1, e2]; omega
  rotate_left
  · simp [e0, e1, e2]; omega
  rcases ordI_cases a.2.2.1 b.2.2.1 with ⟨h3, e3⟩ | ⟨h3, e3⟩ | ⟨h3, e3⟩
  · simp [e0, e1, e2, e3]; omega
  rotate_left
  · simp [e0, e1, e2, e3]; omega
  rcases ordI_cases a.2.2.2 b.2.2.2 with ⟨h4, e4⟩ | ⟨h4, e4⟩ | ⟨h4, e4⟩
  · simp [e0, e1, e2, e3, e4]; omega
  rotate_left
  · simp [e0, e1, e2, e3, e4]; omega
  simp [e0, e1, e2, e3, e4]; omega
theorem ordRc_pos (a b : Rc) : 0 < ordRc a b ↔ ltR b a := by
  unfold ordRc ordSt ltR ltS
  rcases ordI_cases a.2.1.1 b.2.1.1 with ⟨h0, e0⟩ | ⟨h0, e0⟩ | ⟨h0, e0⟩
  · simp [e0]; omega
  rotate_left
  · simp [e0]; omega
  rcases ordI_cases a.2.1.2 b.2.1.2 with ⟨h1, e1⟩ | ⟨h1, e1⟩ | ⟨h1, e1⟩
  · simp [e0, e1]; omega
  rotate_left
  · simp [e0, e1]; omega
  rcases ordI_cases a.1 b.1 with ⟨h2, e2⟩ | ⟨h2, e2⟩ | ⟨h2, e2⟩
  · simp [e0, e1, e2]; omega
  rotate_left
  · simp [e0, e1, e2]; omega
  rcases ordI_cases a.2.2.1 b.2.2.1 with ⟨h3, e3⟩ | ⟨h3, e3⟩ | ⟨h3, e3⟩
  · simp [e0, e1, e2, e3]; omega
  rotate_left
  · simp [e0, e1, e2, e3]; omega
  rcases ordI_cases a.2.2.2 b.2.2.2 with ⟨h4, e4⟩ | ⟨h4, e4⟩ | ⟨h4, e4⟩
  · simp [e0, e1, e2, e3, e4]; omega
  rotate_left
  · simp [e0, e1, e2, e3, e4]; omega
  simp [e0, e1, e2, e3, e4]; omega
theorem ordRc_zero (a b : Rc) : ordRc a b = 0 ↔ a = b := by
  constructor
  · intro h
    exact ltR_total (fun h' => by have := (ordRc_neg a b).2 h'; omega) (fun h' => by have := (ordRc_pos a b).2 h'; omega)
  · rintro rfl
    have h1 : ¬ordRc a a < 0 := fun h => ltR_irrefl a ((ordRc_neg a a).1 h)
    have h2 : ¬0 < ordRc a a := fun h => ltR_irrefl a ((ordRc_pos a a).1 h)
    omega
theorem ordRc_swap (a b : Rc) : ordRc a b = -ordRc b a := by
  unfold ordRc ordSt
  rcases ordI_cases a.2.1.1 b.2.1.1 with ⟨h0, e0⟩ | ⟨h0, e0⟩ | ⟨h0, e0⟩ <;> rcases ordI_cases b.2.1.1 a.2.1.1 with ⟨g0, f0⟩ | ⟨g0, f0⟩ | ⟨g0, f0⟩ <;> (try omega) <;> (try (simp [e0, f0]; done)) <;>
  rcases ordI_cases a.2.1.2 b.2.1.2 with ⟨h1, e1⟩ | ⟨h1, e1⟩ | ⟨h1, e1⟩ <;> rcases ordI_cases b.2.1.2 a.2.1.2 with ⟨g1, f1⟩ | ⟨g1, f1⟩ | ⟨g1, f1⟩ <;> (try omega) <;> (try (simp [e0, f0, e1, f1]; done)) <;>
  rcases ordI_cases a.1 b.1 with ⟨h2, e2⟩ | ⟨h2, e2⟩ | ⟨h2, e2⟩ <;> rcases ordI_cases b.1 a.1 with ⟨g2, f2⟩ | ⟨g2, f2⟩ | ⟨g2, f2⟩ <;> (try omega) <;> (try (simp [e0, f0, e1, f1, e2, f2]; done)) <;>
  rcases ordI_cases a.2.2.1 b.2.2.1 with ⟨h3, e3⟩ | ⟨h3, e3⟩ | ⟨h3, e3⟩ <;> rcases ordI_cases b.2.2.1 a.2.2.1 with ⟨g3, f3⟩ | ⟨g3, f3⟩ | ⟨g3, f3⟩ <;> (try omega) <;> (try (simp [e0, f0, e1, f1, e2, f2, e3, f3]; done)) <;>
  rcases ordI_cases a.2.2.2 b.2.2.2 with ⟨h4, e4⟩ | ⟨h4, e4⟩ | ⟨h4, e4⟩ <;> rcases ordI_cases b.2.2.2 a.2.2.2 with ⟨g4, f4⟩ | ⟨g4, f4⟩ | ⟨g4, f4⟩ <;> (try omega) <;> simp [e0, f0, e1, f1, e2, f2, e3, f3, e4, f4]

/-- Ascending. -/
def AscR (ys : List Rc) : Prop := ys.Pairwise fun a b => ¬ltR b a
/-- What SortRecords answers. -/
def sortR (zs : List Rc) : List Rc := zs.mergeSort fun a b => !decide (ltR b a)
theorem sortR_perm (zs : List Rc) : (sortR zs).Perm zs := List.mergeSort_perm _ _
theorem sortR_asc (zs : List Rc) : AscR (sortR zs) := by
  have h := List.pairwise_mergeSort (le := fun a b => !decide (ltR b a)) (fun a b c h1 h2 => by
    simp only [Bool.not_eq_true', decide_eq_false_iff_not] at *
    exact ltR_ntrans h2 h1) (fun a b => by
    simp only [Bool.or_eq_true, Bool.not_eq_true', decide_eq_false_iff_not]
    by_cases h : ltR b a
    · exact .inr (ltR_asymm h)
    · exact .inl h) zs
  exact h.imp fun h => by simpa using h
theorem asc_unique {xs ys : List Rc} (hp : xs.Perm ys) (hx : AscR xs) (hy : AscR ys) : xs = ys :=
  List.Perm.eq_of_pairwise (le := fun a b => ¬ltR b a) (fun _ _ _ _ h1 h2 => ltR_total h2 h1) hx hy hp
theorem sortR_is {ys zs : List Rc} (hp : ys.Perm zs) (h : AscR ys) : sortR zs = ys := asc_unique ((sortR_perm zs).trans hp.symm) (sortR_asc zs) h
theorem sortR_length (zs : List Rc) : (sortR zs).length = zs.length := (sortR_perm zs).length_eq
theorem sortR_eq_iff (a b : List Rc) : sortR a = sortR b ↔ a.Perm b :=
  ⟨fun h => (sortR_perm a).symm.trans (h ▸ sortR_perm b), fun h => asc_unique ((sortR_perm a).trans (h.trans (sortR_perm b).symm)) (sortR_asc a) (sortR_asc b)⟩
/-- What SameBag answers. -/
def bagR (a b : List Rc) : Bool := decide (sortR a = sortR b)
theorem bagR_perm {a b : List Rc} (h : a.Perm b) : bagR a b = true := decide_eq_true ((sortR_eq_iff a b).2 h)
theorem bagR_len {a b : List Rc} (h : a.length ≠ b.length) : bagR a b = false := decide_eq_false fun e => h (by rw [← sortR_length a, e, sortR_length])
/-- What OfEpoch answers. -/
def ofEpR (zs : List Rc) (e : Int) : List Rc := zs.filter fun z => decide (z.2.1.1 = e)
theorem ofEpR_step {zs : List Rc} {e : Int} {k : Nat} (hk : k < zs.length) : ofEpR (zs.take (k + 1)) e = ofEpR (zs.take k) e ++ (if zs[k].2.1.1 = e then [zs[k]] else []) := by
  unfold ofEpR
  rw [List.take_succ_eq_append_getElem hk, List.filter_append]
  by_cases h : zs[k].2.1.1 = e <;> simp [h]
theorem ofEpR_length (zs : List Rc) (e : Int) : (ofEpR zs e).length ≤ zs.length := List.length_filter_le _ _
/-- What CountsOfRecords answers. -/
def cntR (zs : List Rc) : List Ct := zs.foldl (fun t z => adjL t z.2.1 1) []
theorem adjL_table {t : List Ct} (h : Table t) (s : Int × Int) (n : Int) : Table (adjL t s n) := by
  by_cases hk : adjOk t s n = true
  · exact table_adjL hk
  · unfold adjL; rw [if_neg hk]; exact h
theorem cntR_table (zs : List Rc) : Table (cntR zs) := by
  have key : ∀ (zs : List Rc) (t : List Ct), Table t → Table (zs.foldl (fun t z => adjL t z.2.1 1) t) := fun zs => by
    induction zs with
    | nil => exact fun t h => h
    | cons z zs ih => exact fun t h => ih _ (adjL_table h _ _)
  exact key zs [] ⟨List.Pairwise.nil, fun z h => by simp at h⟩
end Go.Proofs.YtlanmkimaambgaaGreat.hexes

namespace Go.Proofs.YtlanmkimaambgaaGreat.hexes
open Go.RowKit

def remB (k : Int) : Bool := decide (k = 5 ∨ k = 6 ∨ k = 8)

set_option maxRecDepth 100000 in
theorem specRem_any (k : Int) (w : World) :
    Calls Tryz.prog 39 #[.int .i64 k] w fun e w' => e = .returned (.bool (remB k)) ∧ Below w.heap.size w w' := by
  by_cases h5 : k = 5
  · subst h5
    go_enter Tryz.func39, Tryz.ntmps39
    go_wp2
    go_ret
    exact ⟨rfl, Below.refl _ _⟩
  by_cases h6 : k = 6
  · subst h6
    go_enter Tryz.func39, Tryz.ntmps39
    go_wp2
    go_ret
    exact ⟨rfl, Below.refl _ _⟩
  by_cases h8 : k = 8
  · subst h8
    go_enter Tryz.func39, Tryz.ntmps39
    go_wp2
    go_ret
    exact ⟨rfl, Below.refl _ _⟩
  have hr : remB k = false := by simp [remB, h5, h6, h8]
  have d5 : (k == 5) = false := by simpa using h5
  have d6 : (k == 6) = false := by simpa using h6
  have d8 : (k == 8) = false := by simpa using h8
  rw [hr]
  clear hr h5 h6 h8
  go_enter Tryz.func39, Tryz.ntmps39
  go_wp2
  go_ret
  exact ⟨rfl, Below.refl _ _⟩

set_option maxRecDepth 100000 in
theorem implRem_any (k : Int) (w : World) :
    Calls Tryz.prog 76 #[.int .i64 k] w fun e w' => e = .returned (.bool (remB k)) ∧ Below w.heap.size w w' := by
  by_cases h5 : k = 5
  · subst h5
    go_enter Tryz.func76, Tryz.ntmps76
    go_wp2
    go_ret
    exact ⟨rfl, Below.refl _ _⟩
  by_cases h6 : k = 6
  · subst h6
    go_enter Tryz.func76, Tryz.ntmps76
    go_wp2
    go_ret
    exact ⟨rfl, Below.refl _ _⟩
  by_cases h8 : k = 8
  · subst h8
    go_enter Tryz.func76, Tryz.ntmps76
    go_wp2
    go_ret
    exact ⟨rfl, Below.refl _ _⟩
  have hr : remB k = false := by simp [remB, h5, h6, h8]
  have d5 : (k == 5) = false := by simpa using h5
  have d6 : (k == 6) = false := by simpa using h6
  have d8 : (k == 8) = false := by simpa using h8
  rw [hr]
  clear hr h5 h6 h8
  go_enter Tryz.func76, Tryz.ntmps76
  go_wp2
  go_ret
  exact ⟨rfl, Below.refl _ _⟩

end Go.Proofs.YtlanmkimaambgaaGreat.hexes

namespace Go.Proofs.YtlanmkimaambgaaGreat.hexes
open Go.RowKit

/-- The records that an operator emits. -/
def emitL (zs : List Int) (s : Int × Int) (key val : Int) : List Rc := zs.map fun z => (z, s, key, val)
theorem emit_len (zs : List Int) (s : Int × Int) (key val : Int) : (emitL zs s key val).length = zs.length := by simp [emitL]
theorem emit_step {zs : List Int} {s : Int × Int} {key val : Int} {j : Nat} (hj : j < zs.length) : emitL (zs.take (j + 1)) s key val = emitL (zs.take j) s key val ++ [(zs[j], s, key, val)] := by
  unfold emitL
  rw [List.take_succ_eq_append_getElem hj, List.map_append]
  rfl
/-- What StepOp answers behind the checks: the node, what Changed gives. -/
def stepNd (x : Nd) (key val : Int) (goes : Bool) (cs : List Ce) (r : Rc) : (List Ce × List Rc) × Bool :=
  if goes = false ∧ x.1 ≠ 8 then ((cs, []), true)
  else
    let m := if remB x.1 = true then recC x.1 cs (r.1, r.2.1.1, r.2.2.1, r.2.2.2) else (cs, true)
    if m.2 = false then ((m.1, []), true)
    else if x.1 = 7 then (if hasNext r.2.1.1 r.2.1.2 = true then ((m.1, emitL x.2.2.2 (r.2.1.1, r.2.1.2 + 1) key val), true) else ((m.1, []), true))
    else ((m.1, emitL x.2.2.2 r.2.1 key val), true)
/-- Whether Changed's arguments are right. -/
def okX (x : Nd) (r : Rc) : Bool := okC x.1 x.2.1 x.2.2.1 (dec1 x.2.1) r.2.2.1 r.2.2.2 x.2.2.2
/-- What StepOp answers. -/
def stepGr (gs : List Nd) (wk cp : Int) (cs : List Ce) (r : Rc) : (List Ce × List Rc) × Bool :=
  if (hasB gs r.1 && okGr gs dec1 wk cp && okRc r) = false then ((cs, []), false)
  else stepNd (nodeAt gs r.1) (chgK (okX (nodeAt gs r.1) r) (nodeAt gs r.1).1 (nodeAt gs r.1).2.1 r.2.2.1) (chgV (okX (nodeAt gs r.1) r) (nodeAt gs r.1).1 (nodeAt gs r.1).2.1 r.2.2.2) (chgO (okX (nodeAt gs r.1) r) (nodeAt gs r.1).1 (nodeAt gs r.1).2.1 (nodeAt gs r.1).2.2.1 r.2.2.1) cs r
/-- What Capped answers. -/
def capG (gs : List Nd) (wk cp : Int) (r : Rc) : Bool :=
  hasB gs r.1 && okGr gs dec1 wk cp && okRc r && decide ((nodeAt gs r.1).1 = 7) && decide (0 < (nodeAt gs r.1).2.2.2.length) && !hasNext r.2.1.1 r.2.1.2
/-- What StepAll answers after k steps. -/
def stepsG (gs : List Nd) (wk cp : Int) : Nat → List Ce × List Rc → (List Ce × List Rc) × Nat
  | 0, s => (s, 0)
  | _ + 1, (cs, []) => ((cs, []), 0)
  | k + 1, (cs, r :: rs) =>
    let m := stepGr gs wk cp cs r
    let q := stepsG gs wk cp k (m.1.1, rs ++ m.1.2)
    (q.1, q.2 + 1)
theorem nodeAt_few {gs : List Nd} (ho : ∀ x ∈ gs, x.2.2.2.length ≤ 1048576) (t : Int) : (nodeAt gs t).2.2.2.length ≤ 1048576 := by
  unfold nodeAt
  split
  · cases h : gs[t.toNat]? with
    | none => simp [nd0]
    | some x => exact ho x (List.mem_of_getElem? h)
  · simp [nd0]
end Go.Proofs.YtlanmkimaambgaaGreat.hexes

namespace Go.Proofs.YtlanmkimaambgaaGreat.hexes
open Go.RowKit

end Go.Proofs.YtlanmkimaambgaaGreat.hexes

