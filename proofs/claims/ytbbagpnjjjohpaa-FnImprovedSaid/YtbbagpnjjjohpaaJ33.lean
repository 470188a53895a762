/-
  What a draw of a graph keeps from step to step.
-/
import Derived.Test.YtbbagpnjjjohpaaJ32
import Derived.Test.YtbbagpnjjjohpaaJ5

namespace Go.Proofs.Ytbbagpnjjjohpaa.hexes
open Go.RowKit

/-- A node's own list of successors, from b's blocks on. -/
def Inn (b wx : World) (v : Nv) : Prop := v.2.2.2.2.1 ≤ 4 ∧ ∃ zs : List Int, zs.length = v.2.2.2.2.1 ∧ wx.ownsRow b.heap.size 3 1 (.slice v.2.2.2.1 v.2.2.2.2.1 v.2.2.2.2.2) v.2.2.2.2.1 (isCells zs)
/-- The block of a node's own list. -/
def ob (v : Nv) : Option Nat := (Value.slice v.2.2.2.1 v.2.2.2.2.1 v.2.2.2.2.2).ownBlock

theorem ob_none (p q s : Int) (n c : Nat) : ob (p, q, s, none, n, c) = none := rfl
theorem ob_some (p q s : Int) (g n c : Nat) : ob (p, q, s, some ⟨g, 0, none⟩, n, c) = some g := rfl

structure GdSt (b wx : World) (c : Nat) (A : Option Addr) (len cap r x : Nat) (A1 : Option Addr) (n c1 : Nat) (wk cp : Int) (vs : List Nv) : Prop where
  c0 : Cursor b c A len cap
  br : b.heap.size ≤ r
  bx : b.heap.size ≤ x
  rx : r ≠ x
  cur : Cursor wx c A len cap
  gr : b.grownBy wx (some c)
  kr : Blk wx r 26 #[.slice none 0 0, .int .i64 0, .int .i64 0]
  kx : Blk wx x 26 #[.slice A1 n c1, .int .i64 wk, .int .i64 cp]
  row : wx.ownsRow b.heap.size 46 4 (.slice A1 n c1) n (nvCells vs)
  vl : vs.length = n
  inn : ∀ v ∈ vs, Inn b wx v

theorem Inn.below {b w w' : World} {v : Nv} (h : Inn b w v) (hb : Below w.heap.size w w') : Inn b w' v := by
  obtain ⟨h1, zs, h2, h3⟩ := h
  exact ⟨h1, zs, h2, own_below h3 hb⟩
/-- A block of another type was turned. -/
theorem Inn.kept {b w w' : World} {v : Nv} {g : Nat} {t : TypeId} {cs : Array Value} (h : Inn b w v) (hg : w.grownBy w' (some g)) (k : Blk w g t cs) (ht : t ≠ 3) : Inn b w' v := by
  obtain ⟨h1, zs, h2, h3⟩ := h
  exact ⟨h1, zs, h2, h3.kept hg (.inr (own_type h3 k ht))⟩
theorem Inn.turned {b w w' : World} {v : Nv} {row : Option Nat} (h : Inn b w v) (hg : w.grownBy w' row) (hr : ∀ k, ob v = some k → row ≠ some k) : Inn b w' v := by
  obtain ⟨h1, zs, h2, h3⟩ := h
  refine ⟨h1, zs, h2, h3.kept hg ?_⟩
  cases he : (Value.slice v.2.2.2.1 v.2.2.2.2.1 v.2.2.2.2.2).ownBlock with
  | none => exact .inl rfl
  | some k => exact .inr fun e => hr k he e.symm

variable {b wx w' : World} {c len cap r x n c1 : Nat} {A A1 : Option Addr} {wk cp : Int} {vs : List Nv}

theorem GdSt.cr (S : GdSt b wx c A len cap r x A1 n c1 wk cp vs) : c < r ∧ c < x ∧ c < b.heap.size := by
  have := S.c0.lt
  have := S.br
  have := S.bx
  omega

theorem GdSt.fresh (S : GdSt b wx c A len cap r x A1 n c1 wk cp vs) (hb : Below wx.heap.size wx w') : GdSt b w' c A len cap r x A1 n c1 wk cp vs :=
  ⟨S.c0, S.br, S.bx, S.rx, S.cur.belowD hb, grown_below S.gr hb, S.kr.below hb, S.kx.below hb, own_below S.row hb, S.vl, fun v hv => (S.inn v hv).below hb⟩

theorem GdSt.drew (S : GdSt b wx c A len cap r x A1 n c1 wk cp vs) : GdSt b wx.drew c A len cap r x A1 n c1 wk cp vs := S.fresh ((Below.refl _ _).drew)

theorem GdSt.draw (S : GdSt b wx c A len cap r x A1 n c1 wk cp vs) (hc : Cursor w' c A len cap) (g : wx.grownBy w' (some c)) : GdSt b w' c A len cap r x A1 n c1 wk cp vs := by
  have h := S.cr
  obtain ⟨i, hh, hi, hblk⟩ := S.cur.at_
  exact ⟨S.c0, S.br, S.bx, S.rx, hc, grown_trans S.gr g, S.kr.grown g (by simp; omega), S.kx.grown g (by simp; omega), S.row.kept g (.inr (own_type S.row hblk (by decide))), S.vl, fun v hv => (S.inn v hv).kept g hblk (by decide)⟩

/-- A store into the graph's own block. -/
theorem GdSt.store (S : GdSt b wx c A len cap r x A1 n c1 wk cp vs) (i : Nat) (u : Value) :
    Cursor (wx.setCell ⟨x, i, none⟩ u) c A len cap ∧ b.grownBy (wx.setCell ⟨x, i, none⟩ u) (some c) ∧ Blk (wx.setCell ⟨x, i, none⟩ u) r 26 #[.slice none 0 0, .int .i64 0, .int .i64 0] ∧ (wx.setCell ⟨x, i, none⟩ u).ownsRow b.heap.size 46 4 (.slice A1 n c1) n (nvCells vs) ∧ (∀ v ∈ vs, Inn b (wx.setCell ⟨x, i, none⟩ u) v) := by
  have h := S.cr
  have g := grown_set_new S.gr (p := ⟨x, i, none⟩) S.bx u
  exact ⟨S.c0.back S.cur g (Below.heap_setCell _ _ _ c (by simp; omega)), g, S.kr.other (by simpa using S.rx) u, S.row.kept (grown_set wx ⟨x, i, none⟩ u) (.inr (own_type S.row S.kx (by decide))), fun v hv => (S.inn v hv).kept (grown_set wx ⟨x, i, none⟩ u) S.kx (by decide)⟩

theorem GdSt.put1 (S : GdSt b wx c A len cap r x A1 n c1 wk cp vs) (v : Int) : GdSt b (wx.setCell ⟨x, 1, none⟩ (.int .i64 v)) c A len cap r x A1 n c1 v cp vs := by
  obtain ⟨h1, h2, h3, h4, h5⟩ := S.store 1 (.int .i64 v)
  exact ⟨S.c0, S.br, S.bx, S.rx, h1, h2, h3, S.kx.put 1 _, h4, S.vl, h5⟩

theorem GdSt.put2 (S : GdSt b wx c A len cap r x A1 n c1 wk cp vs) (v : Int) : GdSt b (wx.setCell ⟨x, 2, none⟩ (.int .i64 v)) c A len cap r x A1 n c1 wk v vs := by
  obtain ⟨h1, h2, h3, h4, h5⟩ := S.store 2 (.int .i64 v)
  exact ⟨S.c0, S.br, S.bx, S.rx, h1, h2, h3, S.kx.put 2 _, h4, S.vl, h5⟩

/-- A row's block is below the world's size, and what the cursor, the result and the graph are, it is not. -/
theorem GdSt.rowNe (S : GdSt b wx c A len cap r x A1 n c1 wk cp vs) {g : Nat} (hg : (Value.slice A1 n c1).ownBlock = some g) : g ≠ c ∧ g ≠ r ∧ g ≠ x ∧ b.heap.size ≤ g := by
  obtain ⟨i, hh, hi, hblk⟩ := S.cur.at_
  refine ⟨fun e => ?_, fun e => ?_, fun e => ?_, own_ge S.row g hg⟩
  · subst e; exact own_type S.row hblk (by decide) hg
  · subst e; exact own_type S.row S.kr (by decide) hg
  · subst e; exact own_type S.row S.kx (by decide) hg

/-- The nodes' row alone was written; it holds other nodes now. -/
theorem GdSt.nodes (S : GdSt b wx c A len cap r x A1 n c1 wk cp vs) {g : Nat} (hg : (Value.slice A1 n c1).ownBlock = some g) {us : List Nv} (hG : wx.grownBy w' (some g)) (hrow : w'.ownsRow b.heap.size 46 4 (.slice A1 n c1) n (nvCells us)) (hu : us.length = n) (hi : ∀ v ∈ us, Inn b wx v) :
    GdSt b w' c A len cap r x A1 n c1 wk cp us := by
  obtain ⟨n1, n2, n3, n4⟩ := S.rowNe hg
  have g1 : b.grownBy w' (some c) := grown_row S.gr hG (fun k hk => by cases hk; exact n4)
  have kn : ∃ cs : Array Value, Blk wx g 46 cs := by
    rcases S.row.2 with ⟨h0, _⟩ | ⟨g', cap', cur, hv, _, hgg, _⟩
    · rw [h0] at hg; simp [Value.ownBlock] at hg
    · rw [hv] at hg
      obtain rfl : g' = g := by simpa [Value.ownBlock] using hg
      exact ⟨_, hgg⟩
  obtain ⟨cs, kn⟩ := kn
  exact ⟨S.c0, S.br, S.bx, S.rx, S.c0.back S.cur g1 (hG.block c S.cur.lt (by simpa using fun e => n1 e.symm)), g1, S.kr.grown hG (by simpa using fun e => n2 e.symm), S.kx.grown hG (by simpa using fun e => n3 e.symm), hrow, hu, fun v hv => (hi v hv).kept hG kn (by decide)⟩

/-- A node laid over the k-th. -/
theorem GdSt.node {g : Nat} (S : GdSt b wx c A len cap r x (some ⟨g, 0, none⟩) n c1 wk cp vs) (k : Nat) (p q s : Int) (A2 : Option Addr) (m c2 : Nat) (hi : Inn b wx (p, q, s, A2, m, c2)) :
    GdSt b ((((wx.setCell ⟨g, k * 4, none⟩ (.int .i64 p)).setCell ⟨g, k * 4 + 1, none⟩ (.int .i64 q)).setCell ⟨g, k * 4 + 2, none⟩ (.int .i64 s)).setCell ⟨g, k * 4 + 3, none⟩ (.slice A2 m c2)) c A len cap r x (some ⟨g, 0, none⟩) n c1 wk cp (vs.set k (p, q, s, A2, m, c2)) := by
  have st := own_stored_nv S.row k p q s A2 m c2
  exact S.nodes rfl st.2 st.1 (by simpa using S.vl) (fun v hv => by
    rcases List.mem_or_eq_of_mem_set hv with h | h
    · exact S.inn v h
    · subst h; exact hi)

theorem nvCells_set3 (vs : List Nv) (k : Nat) (hk : k < vs.length) (A2 : Option Addr) (m c2 : Nat) : (nvCells vs).set (k * 4 + 3) (.slice A2 m c2) = nvCells (vs.set k (vs[k].1, vs[k].2.1, vs[k].2.2.1, A2, m, c2)) := by
  have q := nvCells_set vs k vs[k].1 vs[k].2.1 vs[k].2.2.1 A2 m c2
  rw [← q]
  obtain ⟨e0, e1, e2, e3⟩ := nvCells_at vs k hk
  obtain ⟨b0, h0⟩ := List.getElem?_eq_some_iff.1 e0
  obtain ⟨b1, h1⟩ := List.getElem?_eq_some_iff.1 e1
  obtain ⟨b2, h2⟩ := List.getElem?_eq_some_iff.1 e2
  congr 1
  apply List.ext_getElem?
  intro i
  by_cases i2 : k * 4 + 2 = i
  · subst i2; rw [List.getElem?_set_self (by simpa using b2), e2]
  · rw [List.getElem?_set_ne i2]
    by_cases i1 : k * 4 + 1 = i
    · subst i1; rw [List.getElem?_set_self (by simpa using b1), e1]
    · rw [List.getElem?_set_ne i1]
      by_cases i0 : k * 4 = i
      · subst i0; rw [List.getElem?_set_self (by simpa using b0), e0]
      · rw [List.getElem?_set_ne i0]

/-- Another list laid into the k-th node. -/
theorem GdSt.outs {g : Nat} (S : GdSt b wx c A len cap r x (some ⟨g, 0, none⟩) n c1 wk cp vs) {k : Nat} (hk : k < vs.length) (A2 : Option Addr) (m c2 : Nat) (hi : Inn b wx (vs[k].1, vs[k].2.1, vs[k].2.2.1, A2, m, c2)) :
    GdSt b (wx.setCell ⟨g, k * 4 + 3, none⟩ (.slice A2 m c2)) c A len cap r x (some ⟨g, 0, none⟩) n c1 wk cp (vs.set k (vs[k].1, vs[k].2.1, vs[k].2.2.1, A2, m, c2)) := by
  have st := S.row.stored (k * 4 + 3) (.slice A2 m c2)
  have h1 := st.1
  rw [nvCells_set3 vs k hk] at h1
  exact S.nodes rfl st.2 h1 (by simpa using S.vl) (fun v hv => by
    rcases List.mem_or_eq_of_mem_set hv with h | h
    · exact S.inn v h
    · subst h; exact hi)

/-- Behind an append of a node to the row and the store of its result. -/
theorem GdSt.app (S : GdSt b wx c A len cap r x A1 n c1 wk cp vs) {u : Nv} {v : Value} (hO : w'.ownsRow b.heap.size 46 4 v (n + 1) (nvCells (vs ++ [u]))) (hG : wx.grownBy w' (Value.slice A1 n c1).ownBlock) (hu : Inn b wx u) :
    ∃ A2 c2, v = .slice A2 (n + 1) c2 ∧ GdSt b (w'.setCell ⟨x, 0, none⟩ v) c A len cap r x A2 (n + 1) c2 wk cp (vs ++ [u]) := by
  have h := S.cr
  obtain ⟨A2, c2, rfl, _⟩ := own_form hO
  have nr := own_type S.row S.kr (by decide)
  have nx := own_type S.row S.kx (by decide)
  obtain ⟨i, hh, hi, hblk⟩ := S.cur.at_
  have nc := own_type S.row hblk (by decide)
  have k1 := S.kr.grown hG (Ne.symm nr)
  have k2 := S.kx.grown hG (Ne.symm nx)
  have g1 : b.grownBy w' (some c) := grown_row S.gr hG (fun g hg => own_ge S.row g hg)
  have c1' : Cursor w' c A len cap := S.c0.back S.cur g1 (hG.block c hblk.lt (Ne.symm nc))
  have g2 := grown_set_new g1 (p := ⟨x, 0, none⟩) S.bx (.slice A2 (n + 1) c2)
  have ii : ∀ v ∈ vs ++ [u], Inn b w' v := fun v hv => by
    have hv' : Inn b wx v := by
      rcases List.mem_append.1 hv with q | q
      · exact S.inn v q
      · obtain rfl : v = u := by simpa using q
        exact hu
    refine hv'.turned hG fun k hk e => ?_
    obtain ⟨_, zs, _, h3⟩ := hv'
    rcases S.row.2 with ⟨h0, _⟩ | ⟨g', cap', cur, hvv, _, hgg, _⟩
    · rw [h0] at e; simp [Value.ownBlock] at e
    · rw [hvv] at e
      obtain rfl : g' = k := by simpa [Value.ownBlock] using e
      exact own_type h3 hgg (by decide) hk
  refine ⟨A2, c2, rfl, S.c0, S.br, S.bx, S.rx, S.c0.back c1' g2 (Below.heap_setCell _ _ _ c (by simp; omega)), g2, k1.other (by simpa using S.rx) _, k2.put 0 _, ?_, by simp [S.vl], fun v hv => (ii v hv).kept (grown_set w' ⟨x, 0, none⟩ _) k2 (by decide)⟩
  exact hO.kept (grown_set w' ⟨x, 0, none⟩ _) (.inr (own_type hO k2 (by decide)))

/-- A graph's value laid into the result. -/
theorem gfin {n0 : Nat} {s : Value} (h0 : Cursor b c A len cap) (br : b.heap.size ≤ r) (cur : Cursor wx c A len cap) (gr : b.grownBy wx (some c)) (kr : Blk wx r 26 #[.slice none 0 0, .int .i64 0, .int .i64 0])
    (row : wx.ownsRow b.heap.size 46 4 (.slice A1 n0 c1) n0 (nvCells vs)) (inn : ∀ v ∈ vs, Inn b wx v) {wf : World} (hw : ((wx.setCell ⟨r, 0, none⟩ s).setCell ⟨r, 1, none⟩ (.int .i64 wk)).setCell ⟨r, 2, none⟩ (.int .i64 cp) = wf) :
    Blk wf r 26 #[s, .int .i64 wk, .int .i64 cp] ∧ wf.ownsRow b.heap.size 46 4 (.slice A1 n0 c1) n0 (nvCells vs) ∧ (∀ v ∈ vs, Inn b wf v) ∧ Cursor wf c A len cap ∧ b.grownBy wf (some c) := by
  have h := h0.lt
  have k1 := ((kr.put 0 s).put 1 (.int .i64 wk)).put 2 (.int .i64 cp)
  have g := grown_set_new (grown_set_new (grown_set_new gr (p := ⟨r, 0, none⟩) br s) (p := ⟨r, 1, none⟩) br (.int .i64 wk)) (p := ⟨r, 2, none⟩) br (.int .i64 cp)
  have o0 := row.kept (grown_set wx ⟨r, 0, none⟩ s) (.inr (own_type row kr (by decide)))
  have o1 := o0.kept (grown_set _ ⟨r, 1, none⟩ (.int .i64 wk)) (.inr (own_type o0 (kr.put 0 _) (by decide)))
  have o2 := o1.kept (grown_set _ ⟨r, 2, none⟩ (.int .i64 cp)) (.inr (own_type o1 ((kr.put 0 _).put 1 _) (by decide)))
  have i2 : ∀ v ∈ vs, Inn b _ v := fun v hv => (((inn v hv).kept (grown_set wx ⟨r, 0, none⟩ s) kr (by decide)).kept (grown_set _ ⟨r, 1, none⟩ (.int .i64 wk)) (kr.put 0 _) (by decide)).kept (grown_set _ ⟨r, 2, none⟩ (.int .i64 cp)) ((kr.put 0 _).put 1 _) (by decide)
  rw [hw] at k1 g o2 i2
  refine ⟨k1, o2, i2, h0.back cur g ?_, g⟩
  rw [← hw]
  exact (Below.heap_setCell _ _ _ c (by simp; omega)).trans ((Below.heap_setCell _ _ _ c (by simp; omega)).trans (Below.heap_setCell _ _ _ c (by simp; omega)))

/-- The graph laid into the result. -/
theorem GdSt.fin (S : GdSt b wx c A len cap r x A1 n c1 wk cp vs) {wf : World} (hw : ((wx.setCell ⟨r, 0, none⟩ (.slice A1 n c1)).setCell ⟨r, 1, none⟩ (.int .i64 wk)).setCell ⟨r, 2, none⟩ (.int .i64 cp) = wf) :
    Blk wf r 26 #[.slice A1 n c1, .int .i64 wk, .int .i64 cp] ∧ wf.ownsRow b.heap.size 46 4 (.slice A1 n c1) n (nvCells vs) ∧ (∀ v ∈ vs, Inn b wf v) ∧ Cursor wf c A len cap ∧ b.grownBy wf (some c) :=
  gfin S.c0 S.br S.cur S.gr S.kr S.row S.inn hw

theorem Inn.lower {b b' w : World} {v : Nv} (h : Inn b w v) (hb : b'.heap.size ≤ b.heap.size) : Inn b' w v := by
  obtain ⟨h1, zs, h2, h3⟩ := h
  exact ⟨h1, zs, h2, own_base h3 hb⟩

theorem nodup_ne {vs : List Nv} (h : (vs.filterMap ob).Nodup) {i j k : Nat} (hi : i < vs.length) (hj : j < vs.length) (hne : i ≠ j) (e : ob vs[i] = some k) : ob vs[j] ≠ some k := by
  induction vs generalizing i j with
  | nil => simp at hi
  | cons v vs ih =>
    have ht : (vs.filterMap ob).Nodup := by
      rw [List.filterMap_cons] at h
      cases hv : ob v with
      | none => rw [hv] at h; exact h
      | some q => rw [hv] at h; exact (List.nodup_cons.1 h).2
    have head : ∀ (q m : Nat) (hm : m < vs.length), ob v = some q → ob vs[m] ≠ some q := by
      intro q m hm hv hq
      rw [List.filterMap_cons, hv] at h
      exact (List.nodup_cons.1 h).1 (List.mem_filterMap.2 ⟨vs[m], List.getElem_mem hm, hq⟩)
    cases i with
    | zero =>
      cases j with
      | zero => exact absurd rfl hne
      | succ j => exact head k j (by simpa using hj) e
    | succ i =>
      cases j with
      | zero => exact fun hv => head k i (by simpa using hi) hv e
      | succ j => exact ih ht (by simpa using hi) (by simpa using hj) (by omega) e

/-- A node's own list was appended to: the nodes' row is as it was. -/
theorem GdSt.appRow {g : Nat} (S : GdSt b wx c A len cap r x (some ⟨g, 0, none⟩) n c1 wk cp vs) {k : Nat} (hk : k < vs.length) (hG : wx.grownBy w' (ob vs[k])) :
    w'.ownsRow b.heap.size 46 4 (.slice (some ⟨g, 0, none⟩) n c1) n (nvCells vs) ∧ Blk w' x 26 #[.slice (some ⟨g, 0, none⟩) n c1, .int .i64 wk, .int .i64 cp] := by
  obtain ⟨_, zs, _, hI⟩ := S.inn vs[k] (List.getElem_mem hk)
  refine ⟨?_, S.kx.grown hG (Ne.symm (own_type hI S.kx (by decide)))⟩
  refine S.row.kept hG ?_
  refine .inr fun e => ?_
  rcases S.row.2 with ⟨h0, _⟩ | ⟨g', cap', cur, hv, _, hgg, _⟩
  · simp at h0
  · simp only [Value.slice.injEq, Option.some.injEq, Addr.mk.injEq, and_true, true_and] at hv
    obtain ⟨rfl, rfl⟩ := hv
    exact own_type hI hgg (by decide) (by simpa [ob, Value.ownBlock] using e.symm)

/-- .. and the result laid into the node. -/
theorem GdSt.appOuts {g : Nat} (S : GdSt b wx c A len cap r x (some ⟨g, 0, none⟩) n c1 wk cp vs) (nd : (vs.filterMap ob).Nodup) {k : Nat} (hk : k < vs.length) (hG : wx.grownBy w' (ob vs[k])) {A3 : Option Addr} {m c3 : Nat} {ys : List Int} (hm : m ≤ 4) (hy : ys.length = m) (hO : w'.ownsRow b.heap.size 3 1 (.slice A3 m c3) m (isCells ys)) :
    GdSt b (w'.setCell ⟨g, k * 4 + 3, none⟩ (.slice A3 m c3)) c A len cap r x (some ⟨g, 0, none⟩) n c1 wk cp (vs.set k (vs[k].1, vs[k].2.1, vs[k].2.2.1, A3, m, c3)) := by
  have h := S.cr
  obtain ⟨hrow, hkx⟩ := S.appRow hk hG
  obtain ⟨_, zs, _, hI⟩ := S.inn vs[k] (List.getElem_mem hk)
  obtain ⟨i, hh, hi, hblk⟩ := S.cur.at_
  have hge : ∀ q, ob vs[k] = some q → b.heap.size ≤ q := fun q hq => own_ge hI q hq
  have g1 : b.grownBy w' (some c) := grown_row S.gr hG hge
  have nc : ob vs[k] ≠ some c := own_type hI hblk (by decide)
  have c1' : Cursor w' c A len cap := S.c0.back S.cur g1 (hG.block c hblk.lt (Ne.symm nc))
  have kr' := S.kr.grown hG (Ne.symm (own_type hI S.kr (by decide)))
  have inn' : ∀ i (hi : i < vs.length), i ≠ k → Inn b w' vs[i] := fun i hi hne => (S.inn vs[i] (List.getElem_mem hi)).turned hG fun q hq e => nodup_ne nd hi hk hne hq e
  have gB : b.heap.size ≤ g := own_ge hrow g rfl
  have g2 := grown_set_new g1 (p := ⟨g, k * 4 + 3, none⟩) gB (.slice A3 m c3)
  have gN : ∃ cs : Array Value, Blk w' g 46 cs := by
    rcases hrow.2 with ⟨h0, _⟩ | ⟨g', cap', cur, hv, _, hgg, _⟩
    · simp at h0
    · simp only [Value.slice.injEq, Option.some.injEq, Addr.mk.injEq, and_true, true_and] at hv
      obtain ⟨rfl, rfl⟩ := hv
      exact ⟨_, hgg⟩
  obtain ⟨cs, gN⟩ := gN
  have gneR : r ≠ g := fun e => by
    subst e
    unfold Blk at kr' gN
    rw [kr'] at gN
    simp at gN
  have gneX : x ≠ g := fun e => by
    subst e
    unfold Blk at hkx gN
    rw [hkx] at gN
    simp at gN
  have gneC : c ≠ g := by omega
  have st := hrow.stored (k * 4 + 3) (.slice A3 m c3)
  have h1 := st.1
  rw [nvCells_set3 vs k hk] at h1
  refine ⟨S.c0, S.br, S.bx, S.rx, S.c0.back c1' g2 (Below.heap_setCell _ _ _ c gneC), g2, kr'.other gneR _, hkx.other gneX _, h1, by simpa using S.vl, fun v hv => ?_⟩
  obtain ⟨i, hi2, rfl⟩ := List.getElem_of_mem hv
  have hi3 : i < vs.length := by simpa using hi2
  rw [List.getElem_set]
  split
  · exact Inn.kept (v := (vs[k].1, vs[k].2.1, vs[k].2.2.1, A3, m, c3)) ⟨hm, ys, hy, hO⟩ (grown_set w' ⟨g, k * 4 + 3, none⟩ _) gN (by decide)
  · rename_i hne
    exact (inn' i hi3 (fun e => hne e.symm)).kept (grown_set w' ⟨g, k * 4 + 3, none⟩ _) gN (by decide)

/-- A literal's block is an owned row. -/
theorem own_blk {w : World} {B g e size n : Nat} {cs : Array Value} (h : Blk w g e cs) (hB : B ≤ g) (hm : n ≤ maxLen) (hs : cs.size = n * size) : w.ownsRow B e size (.slice (some ⟨g, 0, none⟩) n n) n cs.toList :=
  ⟨by simpa using hs, .inr ⟨g, n, cs, rfl, hB, h, Nat.le_refl _, hm, hs, List.take_of_length_le (by rw [Array.length_toList, hs]; exact Nat.le_refl _)⟩⟩
theorem inn_nil (b wx : World) (p q s : Int) : Inn b wx (p, q, s, none, 0, 0) := ⟨Nat.zero_le _, [], rfl, World.ownsRow_nil _ _ _ _⟩
theorem inn_lit {b wx : World} {g n : Nat} {zs : List Int} (h : Blk wx g 3 (isCells zs).toArray) (hB : b.heap.size ≤ g) (hn : n ≤ 4) (hz : zs.length = n) (p q s : Int) : Inn b wx (p, q, s, some ⟨g, 0, none⟩, n, n) :=
  ⟨hn, zs, hz, by simpa using own_blk h hB (by unfold maxLen; omega) (by simp [isCells_length, hz])⟩

/-- An append of a node to an owned row of nodes. -/
theorem wpList_append_nd {w : World} {ops : Array Oper} {rest : List Oper} {o : Oper} {a : Act} {Q : Exit → Act → World → Prop} (hgd : o.guard = none) (s x : Operand)
    (ho : o.op = .call { callee := .builtin .append, args := #[s, x], argTypes := #[24, 24] })
    (base : Nat) (v : Value) (n : Nat) (vs : List Nv) (hs : a.eval s = v) (hown : w.ownsRow base 46 4 v n (nvCells vs))
    (g : Nat) (u : Nv) (hx : a.eval x = .slice (some ⟨g, 0, none⟩) 1 1) (hg : Blk w g 46 (nvCells [u]).toArray)
    (hb : n + 1 ≤ 1048576) (hbase : base ≤ w.heap.size)
    (h : ∀ v' w', w'.ownsRow base 46 4 v' (n + 1) (nvCells (vs ++ [u])) → w.grownBy w' v.ownBlock → wpList Try.prog ops Q rest (a.put o.dst v') w') : wpList Try.prog ops Q (o :: rest) a w := by
  obtain ⟨i0, hi, hz0, hz1, hz2⟩ := info_parts nvinfo
  refine wpList_append_own w hgd s x 24 ho base 46 i0 (.agg #[.int .i64 0, .int .i64 0, .int .i64 0, .slice none 0 0]) 4 48 Try.underlying24 hi hz0 hz1 hz2 rfl (by decide) v n (nvCells vs) hs hown ⟨g, 0, none⟩ 1 1 (nvCells [u]) hx (by rw [nvCells_length]; rfl) (fun j q hq => ?_) (fun q hq => nvCells_one hq) (by unfold maxLen; omega) (by omega) hbase ?_
  · rw [addr_add0, hg.cell]
    simpa using hq
  · intro v' w' h2 h3 _
    rw [← nvCells_append] at h2
    exact h v' w' h2 h3

end Go.Proofs.Ytbbagpnjjjohpaa.hexes

