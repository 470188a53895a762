/-
  Stores beside an owned row.
  Graphs as plain data: when one is right, what can be reached.
  Lists of nodes in memory: how they lie there, and the contracts of the laws' own functions on them.
-/
import Derived.Test.YtbbagpnjjjohpaaJ0
import Derived.Test.YtbbagpnjjjohpaaJ1

namespace Go.Proofs.Ytbbagpnjjjohpaa.hexes
open Go.RowKit

theorem grown_set (w : World) (p : Addr) (u : Value) : w.grownBy (w.setCell p u) (some p.block) :=
  ⟨rfl, rfl, rfl, by simp [World.setCell], fun i _ hne => Below.heap_setCell w p u i (by rintro rfl; exact hne rfl)⟩
theorem own_set {w : World} {B e size n : Nat} {v : Value} {xs : List Value} (h : w.ownsRow B e size v n xs) {p : Addr} (u : Value) (hp : p.block < B) : (w.setCell p u).ownsRow B e size v n xs := by
  refine h.kept (grown_set w p u) ?_
  cases hv : v.ownBlock with
  | none => exact .inl rfl
  | some g =>
    refine .inr fun e => ?_
    have h1 := own_ge h g hv
    obtain rfl : g = p.block := Option.some.inj e
    omega
end Go.Proofs.Ytbbagpnjjjohpaa.hexes

namespace Go.Proofs.Ytbbagpnjjjohpaa.hexes

/-- A node: kind, A, B, successors. -/
abbrev Nd := Int × Int × Int × List Int

/-- A node is right; what A less 1 comes to is reckoned with 64 bits. -/
def okN (x : Nd) (d : Int) : Bool := okNd x.1 x.2.1 x.2.2.1 d x.2.2.2

/-- The kind of the node of a number; 0 where there is none. -/
def kindAt (gs : List Nd) (t : Int) : Int := if 0 ≤ t then (match gs[t.toNat]? with | some x => x.1 | none => 0) else 0

/-- An edge from the i-th node, of kind k, to t is right. -/
def edgeB (gs : List Nd) (i : Nat) (k t : Int) : Bool :=
  decide (t < (gs.length : Int)) && (if k = 7 then decide (t ≤ (i : Int)) && (kindAt gs t == 5 || kindAt gs t == 6) else decide ((i : Int) < t))

/-- The i-th node is right in its graph. -/
def nodeB (gs : List Nd) (d : Int → Int) (i : Nat) (x : Nd) : Bool :=
  okN x (d x.2.1) && ((x.1 == 1) == (i == 0)) && x.2.2.2.all (edgeB gs i x.1)

def allB (gs : List Nd) (d : Int → Int) : Bool := (List.range gs.length).all fun i => match gs[i]? with | some x => nodeB gs d i x | none => false

def okGr (gs : List Nd) (d : Int → Int) (wk cp : Int) : Bool :=
  decide (1 ≤ gs.length ∧ gs.length ≤ 8) && decide (1 ≤ wk ∧ wk ≤ 4) && decide (1 ≤ cp ∧ cp ≤ 4) && allB gs d

theorem allB_bad {gs : List Nd} {d : Int → Int} {i : Nat} {x : Nd} (hi : i < gs.length) (hx : gs[i] = x) (h : nodeB gs d i x = false) : allB gs d = false := by
  unfold allB
  rw [List.all_eq_false]
  exact ⟨i, by simpa using hi, by simp [List.getElem?_eq_getElem hi, hx, h]⟩
theorem allB_of {gs : List Nd} {d : Int → Int} (h : ∀ i (hi : i < gs.length), nodeB gs d i gs[i] = true) : allB gs d = true := by
  unfold allB
  rw [List.all_eq_true]
  intro i hi
  have hl : i < gs.length := by simpa using hi
  simp [List.getElem?_eq_getElem hl, h i hl]
theorem kindAt_of {gs : List Nd} {t : Int} {j : Nat} (ht : t = (j : Int)) (hj : j < gs.length) : kindAt gs t = gs[j].1 := by
  subst ht
  unfold kindAt
  rw [if_pos (by omega), Int.toNat_natCast, List.getElem?_eq_getElem hj]

end Go.Proofs.Ytbbagpnjjjohpaa.hexes

namespace Go.Proofs.Ytbbagpnjjjohpaa.hexes
open Go.RowKit

/-- A node as it lies in a row: kind, A, B, and its successors' slice (address, length, capacity). -/
abbrev Nv := Int × Int × Int × Option Addr × Nat × Nat

def nvCells (vs : List Nv) : List Value := vs.flatMap fun z => [.int .i64 z.1, .int .i64 z.2.1, .int .i64 z.2.2.1, .slice z.2.2.2.1 z.2.2.2.2.1 z.2.2.2.2.2]

theorem nvCells_cons (z : Nv) (vs : List Nv) : nvCells (z :: vs) = .int .i64 z.1 :: .int .i64 z.2.1 :: .int .i64 z.2.2.1 :: .slice z.2.2.2.1 z.2.2.2.2.1 z.2.2.2.2.2 :: nvCells vs := rfl

theorem nvCells_append (a b : List Nv) : nvCells (a ++ b) = nvCells a ++ nvCells b := by simp [nvCells]

theorem nvCells_length (vs : List Nv) : (nvCells vs).length = vs.length * 4 := by
  induction vs with
  | nil => rfl
  | cons z vs ih => rw [nvCells_cons]; simp only [List.length_cons, ih]; omega

theorem nvCells_at (vs : List Nv) (j : Nat) (h : j < vs.length) : (nvCells vs)[j * 4]? = some (.int .i64 vs[j].1) ∧ (nvCells vs)[j * 4 + 1]? = some (.int .i64 vs[j].2.1) ∧ (nvCells vs)[j * 4 + 2]? = some (.int .i64 vs[j].2.2.1) ∧ (nvCells vs)[j * 4 + 3]? = some (.slice vs[j].2.2.2.1 vs[j].2.2.2.2.1 vs[j].2.2.2.2.2) := by
  induction vs generalizing j with
  | nil => simp at h
  | cons z vs ih =>
    rw [nvCells_cons]
    cases j with
    | zero => exact ⟨rfl, rfl, rfl, rfl⟩
    | succ j =>
      have := ih j (by simpa using h)
      rw [show (j + 1) * 4 = j * 4 + 1 + 1 + 1 + 1 by omega]
      simpa using this

theorem nvCells_one {vs : List Nv} {u : Value} (h : u ∈ nvCells vs) : u.oneCell' = true := by
  simp only [nvCells, List.mem_flatMap, List.mem_cons, List.not_mem_nil, or_false] at h
  obtain ⟨z, _, rfl | rfl | rfl | rfl⟩ := h <;> rfl

theorem nvCells_set (vs : List Nv) (k : Nat) (p q r : Int) (A : Option Addr) (n c : Nat) : ((((nvCells vs).set (k * 4) (.int .i64 p)).set (k * 4 + 1) (.int .i64 q)).set (k * 4 + 2) (.int .i64 r)).set (k * 4 + 3) (.slice A n c) = nvCells (vs.set k (p, q, r, A, n, c)) := by
  induction vs generalizing k with
  | nil => simp [nvCells]
  | cons z vs ih =>
    cases k with
    | zero => rfl
    | succ k =>
      rw [nvCells_cons, List.set_cons_succ, nvCells_cons, ← ih k, show (k + 1) * 4 = k * 4 + 4 by omega, show k * 4 + 4 + 1 = (k * 4 + 1) + 4 by omega, show k * 4 + 4 + 2 = (k * 4 + 2) + 4 by omega, show k * 4 + 4 + 3 = (k * 4 + 3) + 4 by omega]
      rfl

/-- What lies at a node's place reads as the node. -/
structure NdFits (w : World) (v : Nv) (x : Nd) : Prop where
  k : v.1 = x.1
  a : v.2.1 = x.2.1
  b : v.2.2.1 = x.2.2.1
  len : x.2.2.2.length = v.2.2.2.2.1
  cap : v.2.2.2.2.1 ≤ v.2.2.2.2.2
  is : Ints w v.2.2.2.1 x.2.2.2
  nil : v.2.2.2.1 = none → v.2.2.2.2.2 = 0

theorem NdFits.below {w w' : World} {v : Nv} {x : Nd} (h : NdFits w v x) (hb : Below w.heap.size w w') : NdFits w' v x := ⟨h.k, h.a, h.b, h.len, h.cap, h.is.below hb, h.nil⟩

/-- A list of nodes that can be read at A. -/
def Nds (w : World) (A : Option Addr) (gs : List Nd) : Prop :=
  0 < gs.length → ∃ b off, A = some ⟨b, off, none⟩ ∧ b < w.heap.size ∧ ∀ j, (h : j < gs.length) → ∃ v : Nv, NdFits w v gs[j] ∧
    w.cell? ⟨b, off + j * 4, none⟩ = some (.int .i64 v.1) ∧ w.cell? ⟨b, off + j * 4 + 1, none⟩ = some (.int .i64 v.2.1) ∧ w.cell? ⟨b, off + j * 4 + 2, none⟩ = some (.int .i64 v.2.2.1) ∧ w.cell? ⟨b, off + j * 4 + 3, none⟩ = some (.slice v.2.2.2.1 v.2.2.2.2.1 v.2.2.2.2.2)

theorem Nds.below {w w' : World} {A : Option Addr} {gs : List Nd} (h : Nds w A gs) (hb : Below w.heap.size w w') : Nds w' A gs := fun hl => by
  obtain ⟨b, off, hA, hlt, hz⟩ := h hl
  refine ⟨b, off, hA, Nat.lt_of_lt_of_le hlt hb.size, fun j hj => ?_⟩
  obtain ⟨v, hf, h0, h1, h2, h3⟩ := hz j hj
  exact ⟨v, hf.below hb, below_keep hb h0, below_keep hb h1, below_keep hb h2, below_keep hb h3⟩

/-- The k-th node of a list that can be read, cell by cell. -/
theorem Nds.at {w : World} {A : Option Addr} {gs : List Nd} (h : Nds w A gs) {j : Nat} (hj : j < gs.length) :
    ∃ (b off : Nat) (k a bb : Int) (zs : List Int) (A1 : Option Addr) (n c : Nat), A = some ⟨b, off, none⟩ ∧ gs[j] = (k, a, bb, zs) ∧ zs.length = n ∧ n ≤ c ∧ Ints w A1 zs ∧
      w.cell? ⟨b, off + j * 4, none⟩ = some (.int .i64 k) ∧ w.cell? ⟨b, off + j * 4 + 1, none⟩ = some (.int .i64 a) ∧ w.cell? ⟨b, off + j * 4 + 2, none⟩ = some (.int .i64 bb) ∧ w.cell? ⟨b, off + j * 4 + 3, none⟩ = some (.slice A1 n c) := by
  obtain ⟨b, off, hA, _, hz⟩ := h (by omega)
  obtain ⟨v, hf, h0, h1, h2, h3⟩ := hz j hj
  refine ⟨b, off, gs[j].1, gs[j].2.1, gs[j].2.2.1, gs[j].2.2.2, v.2.2.2.1, v.2.2.2.2.1, v.2.2.2.2.2, hA, rfl, hf.len, hf.cap, hf.is, ?_, ?_, ?_, h3⟩
  · rw [h0, hf.k]
  · rw [h1, hf.a]
  · rw [h2, hf.b]

/-- The k-th node with what a nil slice of its holds. -/
theorem Nds.atN {w : World} {A : Option Addr} {gs : List Nd} (h : Nds w A gs) {j : Nat} (hj : j < gs.length) :
    ∃ (b off : Nat) (k a bb : Int) (zs : List Int) (A1 : Option Addr) (n c : Nat), A = some ⟨b, off, none⟩ ∧ gs[j] = (k, a, bb, zs) ∧ zs.length = n ∧ n ≤ c ∧ Ints w A1 zs ∧ (A1 = none → c = 0) ∧
      w.cell? ⟨b, off + j * 4, none⟩ = some (.int .i64 k) ∧ w.cell? ⟨b, off + j * 4 + 1, none⟩ = some (.int .i64 a) ∧ w.cell? ⟨b, off + j * 4 + 2, none⟩ = some (.int .i64 bb) ∧ w.cell? ⟨b, off + j * 4 + 3, none⟩ = some (.slice A1 n c) := by
  obtain ⟨b, off, hA, _, hz⟩ := h (by omega)
  obtain ⟨v, hf, h0, h1, h2, h3⟩ := hz j hj
  refine ⟨b, off, gs[j].1, gs[j].2.1, gs[j].2.2.1, gs[j].2.2.2, v.2.2.2.1, v.2.2.2.2.1, v.2.2.2.2.2, hA, rfl, hf.len, hf.cap, hf.is, hf.nil, ?_, ?_, ?_, h3⟩
  · rw [h0, hf.k]
  · rw [h1, hf.a]
  · rw [h2, hf.b]

/-- A list of nodes in a row of the call's own, each node's successors in a row behind it. -/
structure GrRows (w : World) (lo hi : Nat) (A : Option Addr) (n c : Nat) (gs : List Nd) (vs : List Nv) (f : Nat → Nat) : Prop where
  gl : gs.length = n
  vl : vs.length = n
  nodes : Row w lo (f 0) 46 4 A n c (nvCells vs)
  fits : ∀ i (h1 : i < vs.length) (h2 : i < gs.length), vs[i].1 = gs[i].1 ∧ vs[i].2.1 = gs[i].2.1 ∧ vs[i].2.2.1 = gs[i].2.2.1 ∧ vs[i].2.2.2.2.1 = gs[i].2.2.2.length
  inner : ∀ i (h1 : i < vs.length) (h2 : i < gs.length), Row w (f i) (f (i + 1)) 3 1 vs[i].2.2.2.1 gs[i].2.2.2.length vs[i].2.2.2.2.2 (isCells gs[i].2.2.2)
  mono : ∀ i, i < n → f i ≤ f (i + 1)
  top : f n ≤ hi
  base : lo ≤ f 0

theorem GrRows.below {w w' : World} {lo hi : Nat} {A : Option Addr} {n c : Nat} {gs : List Nd} {vs : List Nv} {f : Nat → Nat} (h : GrRows w lo hi A n c gs vs f) (hb : Below w.heap.size w w') : GrRows w' lo hi A n c gs vs f :=
  ⟨h.gl, h.vl, h.nodes.below hb, h.fits, fun i h1 h2 => (h.inner i h1 h2).below hb, h.mono, h.top, h.base⟩

theorem row_cap0 {w : World} {lo hi e size n c : Nat} {A : Option Addr} {xs : List Value} (h : Row w lo hi e size A n c xs) : n ≤ c := by
  rcases h.own.2 with ⟨h0, rfl⟩ | ⟨g, cap, cur, hv, _, _, hnc, _⟩
  · exact Nat.zero_le _
  · simp only [Value.slice.injEq, true_and] at hv
    obtain ⟨_, rfl⟩ := hv
    exact hnc

/-- Such a list can be read. -/
theorem GrRows.nds {w : World} {lo hi : Nat} {A : Option Addr} {n c : Nat} {gs : List Nd} {vs : List Nv} {f : Nat → Nat} (h : GrRows w lo hi A n c gs vs f) : Nds w A gs := fun hl => by
  have hn : 0 < n := by rw [← h.gl]; exact hl
  obtain ⟨A', c', he, hf⟩ := own_form h.nodes.own
  simp only [Value.slice.injEq, true_and] at he
  obtain ⟨rfl, rfl⟩ := he
  obtain ⟨g, rfl⟩ := hf hn
  refine ⟨g, 0, rfl, own_lt h.nodes.own, fun j hj => ?_⟩
  have hjv : j < vs.length := by rw [h.vl, ← h.gl]; exact hj
  have hjn : j < n := by rw [← h.gl]; exact hj
  obtain ⟨e0, e1, e2, e3⟩ := nvCells_at vs j hjv
  obtain ⟨f0, f1, f2, f3⟩ := h.fits j hjv hj
  have hr := h.inner j hjv hj
  refine ⟨vs[j], ⟨f0, f1, f2, f3.symm, ?_, hr.is, hr.nil⟩, ?_, ?_, ?_, ?_⟩
  · rw [f3]; exact row_cap0 hr
  · rw [Nat.zero_add, h.nodes.own.cellAt (j * 4) (by omega)]; exact e0
  · rw [Nat.zero_add, h.nodes.own.cellAt (j * 4 + 1) (by omega)]; exact e1
  · rw [Nat.zero_add, h.nodes.own.cellAt (j * 4 + 2) (by omega)]; exact e2
  · rw [Nat.zero_add, h.nodes.own.cellAt (j * 4 + 3) (by omega)]; exact e3

end Go.Proofs.Ytbbagpnjjjohpaa.hexes

