/-
  Lists of nodes in memory: how they lie there, and the contracts of the laws' own functions on them.
-/
import Derived.Test.YtbbagpnjjjohpaaJ8
import Derived.Test.YtbbagpnjjjohpaaJ5
import Derived.Test.YtbbagpnjjjohpaaJ11
import Derived.Test.YtbbagpnjjjohpaaJ12

namespace Go.Proofs.Ytbbagpnjjjohpaa.hexes
open Go.RowKit

/-- A node as it lies in a row: kind, A, B, and its successors' slice (address, length, capacity). -/
abbrev Nv := Int × Int × Int × Option Addr × Nat × Nat

def nvCells (vs : List Nv) : List Value := vs.flatMap fun z => [.int .i64 z.1, .int .i64 z.2.1, .int .i64 z.2.2.1, .slice z.2.2.2.1 z.2.2.2.2.1 z.2.2.2.2.2]

/-- What lies at a node's place reads as the node. -/
structure NdFits (w : World) (v : Nv) (x : Nd) : Prop where
  k : v.1 = x.1
  a : v.2.1 = x.2.1
  b : v.2.2.1 = x.2.2.1
  len : x.2.2.2.length = v.2.2.2.2.1
  cap : v.2.2.2.2.1 ≤ v.2.2.2.2.2
  is : Ints w v.2.2.2.1 x.2.2.2
  nil : v.2.2.2.1 = none → v.2.2.2.2.2 = 0

theorem NdFits.below {w w' : World} {v : Nv} {x : Nd} (h : NdFits w v x) (hb : Below w.heap.size w w') : NdFits w' v x := ⟨h.k, h.a, h.b, h.len, h.cap, h.is.below hb, h.nil⟩

/-- A list of nodes that can be read at A. -/
def Nds (w : World) (A : Option Addr) (gs : List Nd) : Prop :=
  0 < gs.length → ∃ b off, A = some ⟨b, off, none⟩ ∧ b < w.heap.size ∧ ∀ j, (h : j < gs.length) → ∃ v : Nv, NdFits w v gs[j] ∧
    w.cell? ⟨b, off + j * 4, none⟩ = some (.int .i64 v.1) ∧ w.cell? ⟨b, off + j * 4 + 1, none⟩ = some (.int .i64 v.2.1) ∧ w.cell? ⟨b, off + j * 4 + 2, none⟩ = some (.int .i64 v.2.2.1) ∧ w.cell? ⟨b, off + j * 4 + 3, none⟩ = some (.slice v.2.2.2.1 v.2.2.2.2.1 v.2.2.2.2.2)

theorem Nds.below {w w' : World} {A : Option Addr} {gs : List Nd} (h : Nds w A gs) (hb : Below w.heap.size w w') : Nds w' A gs := fun hl => by
  obtain ⟨b, off, hA, hlt, hz⟩ := h hl
  refine ⟨b, off, hA, Nat.lt_of_lt_of_le hlt hb.size, fun j hj => ?_⟩
  obtain ⟨v, hf, h0, h1, h2, h3⟩ := hz j hj
  exact ⟨v, hf.below hb, below_keep hb h0, below_keep hb h1, below_keep hb h2, below_keep hb h3⟩

/-- The k-th node of a list that can be read, cell by cell. -/
theorem Nds.at {w : World} {A : Option Addr} {gs : List Nd} (h : Nds w A gs) {j : Nat} (hj : j < gs.length) :
    ∃ (b off : Nat) (k a bb : Int) (zs : List Int) (A1 : Option Addr) (n c : Nat), A = some ⟨b, off, none⟩ ∧ gs[j] = (k, a, bb, zs) ∧ zs.length = n ∧ n ≤ c ∧ Ints w A1 zs ∧
      w.cell? ⟨b, off + j * 4, none⟩ = some (.int .i64 k) ∧ w.cell? ⟨b, off + j * 4 + 1, none⟩ = some (.int .i64 a) ∧ w.cell? ⟨b, off + j * 4 + 2, none⟩ = some (.int .i64 bb) ∧ w.cell? ⟨b, off + j * 4 + 3, none⟩ = some (.slice A1 n c) := by
  obtain ⟨b, off, hA, _, hz⟩ := h (by omega)
  obtain ⟨v, hf, h0, h1, h2, h3⟩ := hz j hj
  refine ⟨b, off, gs[j].1, gs[j].2.1, gs[j].2.2.1, gs[j].2.2.2, v.2.2.2.1, v.2.2.2.2.1, v.2.2.2.2.2, hA, rfl, hf.len, hf.cap, hf.is, ?_, ?_, ?_, h3⟩
  · rw [h0, hf.k]
  · rw [h1, hf.a]
  · rw [h2, hf.b]

/-- A list of nodes in a row of the call's own, each node's successors in a row behind it. -/
structure GrRows (w : World) (lo hi : Nat) (A : Option Addr) (n c : Nat) (gs : List Nd) (vs : List Nv) (f : Nat → Nat) : Prop where
  gl : gs.length = n
  vl : vs.length = n
  nodes : Row w lo (f 0) 46 4 A n c (nvCells vs)
  fits : ∀ i (h1 : i < vs.length) (h2 : i < gs.length), vs[i].1 = gs[i].1 ∧ vs[i].2.1 = gs[i].2.1 ∧ vs[i].2.2.1 = gs[i].2.2.1 ∧ vs[i].2.2.2.2.1 = gs[i].2.2.2.length
  inner : ∀ i (h1 : i < vs.length) (h2 : i < gs.length), Row w (f i) (f (i + 1)) 3 1 vs[i].2.2.2.1 gs[i].2.2.2.length vs[i].2.2.2.2.2 (isCells gs[i].2.2.2)
  mono : ∀ i, i < n → f i ≤ f (i + 1)
  top : f n ≤ hi
  base : lo ≤ f 0

theorem GrRows.below {w w' : World} {lo hi : Nat} {A : Option Addr} {n c : Nat} {gs : List Nd} {vs : List Nv} {f : Nat → Nat} (h : GrRows w lo hi A n c gs vs f) (hb : Below w.heap.size w w') : GrRows w' lo hi A n c gs vs f :=
  ⟨h.gl, h.vl, h.nodes.below hb, h.fits, fun i h1 h2 => (h.inner i h1 h2).below hb, h.mono, h.top, h.base⟩

end Go.Proofs.Ytbbagpnjjjohpaa.hexes

