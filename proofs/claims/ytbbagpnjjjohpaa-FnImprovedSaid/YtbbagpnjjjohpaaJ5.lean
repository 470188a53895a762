/-
  The laws' own functions on lists of nodes.
  The laws' own functions on graphs.
  Nodes written over: what the law's marks reach of a graph's memory, and what they leave.
  The law's marks on a graph's nodes.
  What an exact law on graphs keeps of what it holds, whatever is called and written beside it.
  impl.GraphOk and what it calls.
-/
import Derived.Test.YtbbagpnjjjohpaaJ4
import Derived.Deep.RegionHeld3
import Derived.Test.YtbbagpnjjjohpaaJ1
import Derived.Lib.SmallJoins
import Derived.Deep.Slices
import Derived.ChangeSame
import Derived.OpenShut
import Derived.Test.YtbbagpnjjjohpaaJ2

namespace Go.Proofs.Ytbbagpnjjjohpaa.hexes
open Go.RowKit

theorem nvinfo : (Try.prog.info? 46).map (fun i => (i.zero, i.size, i.bytes)) = some (some (.agg #[.int .i64 0, .int .i64 0, .int .i64 0, .slice none 0 0]), 4, 48) := by kernel_rfl

/-- A store of one node into an owned row. -/
theorem own_stored_nv {w : World} {base e g n cap : Nat} {vs : List Nv} (h : w.ownsRow base e 4 (.slice (some ⟨g, 0, none⟩) n cap) n (nvCells vs)) (k : Nat) (p q r : Int) (A : Option Addr) (m c : Nat) :
    ((((w.setCell ⟨g, k * 4, none⟩ (.int .i64 p)).setCell ⟨g, k * 4 + 1, none⟩ (.int .i64 q)).setCell ⟨g, k * 4 + 2, none⟩ (.int .i64 r)).setCell ⟨g, k * 4 + 3, none⟩ (.slice A m c)).ownsRow base e 4 (.slice (some ⟨g, 0, none⟩) n cap) n (nvCells (vs.set k (p, q, r, A, m, c))) ∧
    w.grownBy ((((w.setCell ⟨g, k * 4, none⟩ (.int .i64 p)).setCell ⟨g, k * 4 + 1, none⟩ (.int .i64 q)).setCell ⟨g, k * 4 + 2, none⟩ (.int .i64 r)).setCell ⟨g, k * 4 + 3, none⟩ (.slice A m c)) (some g) := by
  have s0 := h.stored (k * 4) (.int .i64 p)
  have s1 := s0.1.stored (k * 4 + 1) (.int .i64 q)
  have s2 := s1.1.stored (k * 4 + 2) (.int .i64 r)
  have s3 := s2.1.stored (k * 4 + 3) (.slice A m c)
  have hl := s3.1
  rw [nvCells_set] at hl
  exact ⟨hl, grown_trans (grown_trans (grown_trans s0.2 s1.2) s2.2) s3.2⟩

theorem row_beside {w : World} {lo hi e size n c : Nat} {A : Option Addr} {xs : List Value} (h : Row w lo hi e size A n c xs) {w' : World} {g : Nat} (hg : w.grownBy w' (some g)) (hd : g < lo ∨ hi ≤ g) : Row w' lo hi e size A n c xs :=
  h.wrote (lo' := g) (hi' := g + 1) ⟨some g, hg, fun x hx => by cases hx; omega⟩ (by omega)

theorem mono_le {f : Nat → Nat} {k : Nat} (h : ∀ i, i < k → f i ≤ f (i + 1)) : ∀ i j, i ≤ j → j ≤ k → f i ≤ f j := by
  intro i j hij hj
  induction j with
  | zero => obtain rfl : i = 0 := by omega
            exact Nat.le_refl _
  | succ j ih =>
    by_cases e : i = j + 1
    · subst e; exact Nat.le_refl _
    · exact Nat.le_trans (ih (by omega) (by omega)) (h j (by omega))

end Go.Proofs.Ytbbagpnjjjohpaa.hexes

namespace Go.Proofs.Ytbbagpnjjjohpaa.hexes
open Go.RowKit

theorem GrRows.set {w : World} {lo hi n c : Nat} {A : Option Addr} {gs : List Nd} {vs : List Nv} {f : Nat → Nat} (h : GrRows w lo hi A n c gs vs f) {p : Addr} (u : Value) (hp : p.block < lo) : GrRows (w.setCell p u) lo hi A n c gs vs f := by
  refine ⟨h.gl, h.vl, ⟨own_set h.nodes.own u hp, h.nodes.lt⟩, h.fits, fun i h1 h2 => ?_, h.mono, h.top, h.base⟩
  have hf := mono_le h.mono 0 i (Nat.zero_le _) (by have := h.vl; omega)
  exact ⟨own_set (h.inner i h1 h2).own u (Nat.lt_of_lt_of_le hp (Nat.le_trans h.base hf)), (h.inner i h1 h2).lt⟩

theorem GrRows.widen {w : World} {lo lo' hi hi' n c : Nat} {A : Option Addr} {gs : List Nd} {vs : List Nv} {f : Nat → Nat} (h : GrRows w lo hi A n c gs vs f) (hl : lo' ≤ lo) (hh : hi ≤ hi') : GrRows w lo' hi' A n c gs vs f :=
  ⟨h.gl, h.vl, ⟨own_base h.nodes.own hl, h.nodes.lt⟩, h.fits, h.inner, h.mono, Nat.le_trans h.top hh, Nat.le_trans hl h.base⟩

end Go.Proofs.Ytbbagpnjjjohpaa.hexes

namespace Go.Proofs.Ytbbagpnjjjohpaa.hexes
open Go.RowKit

/-- Blocks from lo on and below hi were written, any number of them. -/
inductive WroteR (lo hi : Nat) : World → World → Prop
  | refl (w : World) : WroteR lo hi w w
  | step {w w1 w2 : World} (h : WroteR lo hi w w1) (hw : Wrote w1 w2 lo hi) : WroteR lo hi w w2

theorem Wrote.widen {w w' : World} {lo hi lo' hi' : Nat} (h : Wrote w w' lo hi) (h1 : lo' ≤ lo) (h2 : hi ≤ hi') : Wrote w w' lo' hi' := by
  obtain ⟨row, hg, hr⟩ := h
  exact ⟨row, hg, fun g e => ⟨Nat.le_trans h1 (hr g e).1, Nat.lt_of_lt_of_le (hr g e).2 h2⟩⟩

theorem WroteR.size {w w' : World} {lo hi : Nat} (h : WroteR lo hi w w') : w.heap.size ≤ w'.heap.size := by
  induction h with
  | refl => exact Nat.le_refl _
  | step _ hw ih => exact Nat.le_trans ih hw.size

theorem Row.wroteR {w w' : World} {lo hi lo' hi' e size n c : Nat} {A : Option Addr} {xs : List Value} (h : Row w lo hi e size A n c xs) (hw : WroteR lo' hi' w w') (hd : hi ≤ lo' ∨ hi' ≤ lo) : Row w' lo hi e size A n c xs := by
  induction hw with
  | refl => exact h
  | step _ hw ih => exact ih.wrote hw hd

theorem GrRows.wroteR {w w' : World} {lo hi lo' hi' n c : Nat} {A : Option Addr} {gs : List Nd} {vs : List Nv} {f : Nat → Nat} (h : GrRows w lo hi A n c gs vs f) (hw : WroteR lo' hi' w w') (hd : hi ≤ lo' ∨ hi' ≤ lo) : GrRows w' lo hi A n c gs vs f := by
  have m := mono_le h.mono
  have t := h.top
  have b := h.base
  have v := h.vl
  have m0 := m 0 n (Nat.zero_le _) (Nat.le_refl _)
  refine ⟨h.gl, h.vl, h.nodes.wroteR hw (by omega), h.fits, fun i h1 h2 => (h.inner i h1 h2).wroteR hw ?_, h.mono, h.top, h.base⟩
  have m1 := m 0 i (Nat.zero_le _) (by omega)
  have m2 := m (i + 1) n (by omega) (Nat.le_refl _)
  omega

/-- What is left of a graph's memory while it is written over: the rows, whatever they hold; the nodes' slices as they were. -/
structure GrHeld (w : World) (lo : Nat) (A : Option Addr) (n c : Nat) (gs : List Nd) (vs us : List Nv) (f : Nat → Nat) : Prop where
  ul : us.length = n
  nodes : Row w lo (f 0) 46 4 A n c (nvCells us)
  outs : ∀ i (h1 : i < us.length) (h2 : i < vs.length), us[i].2.2.2 = vs[i].2.2.2
  inner : ∀ i (h1 : i < vs.length) (h2 : i < gs.length), ∃ zs, Row w (f i) (f (i + 1)) 3 1 vs[i].2.2.2.1 gs[i].2.2.2.length vs[i].2.2.2.2.2 (isCells zs)

theorem GrRows.held {w : World} {lo hi n c : Nat} {A : Option Addr} {gs : List Nd} {vs : List Nv} {f : Nat → Nat} (h : GrRows w lo hi A n c gs vs f) : GrHeld w lo A n c gs vs vs f :=
  ⟨h.vl, h.nodes, fun _ _ _ => rfl, fun i h1 h2 => ⟨_, h.inner i h1 h2⟩⟩

end Go.Proofs.Ytbbagpnjjjohpaa.hexes

namespace Go.Proofs.Ytbbagpnjjjohpaa.hexes
open Go.RowKit

/-- One node written over: its own cells, then the row behind its slice. -/
theorem GrHeld.put {w V w2 : World} {lo hi j g n c : Nat} {A : Option Addr} {gs : List Nd} {vs us : List Nv} {f : Nat → Nat} (H : ∀ i, i < n → f i ≤ f (i + 1)) (ht : f n ≤ hi) (hlo : lo ≤ f 0) (hv : vs.length = n) (hgl : gs.length = n) (h : GrHeld w lo A n c gs vs us f) (lu : j < us.length) (lv : j < vs.length) (lg : j < gs.length) (p q r : Int) (hV : w.grownBy V (some g)) (hgl2 : lo ≤ g) (hg : g < f 0)
    (hown : V.ownsRow lo 46 4 (.slice A n c) n (nvCells (us.set j (p, q, r, us[j].2.2.2)))) {zs : List Int}
    (hr : Row w2 (f j) (f (j + 1)) 3 1 vs[j].2.2.2.1 gs[j].2.2.2.length vs[j].2.2.2.2.2 (isCells zs)) (hw : Wrote V w2 (f j) (f (j + 1))) :
    GrHeld w2 lo A n c gs vs (us.set j (p, q, r, us[j].2.2.2)) f ∧ WroteR lo hi w w2 := by
  have m := mono_le H
  have mj := m 0 j (Nat.zero_le _) (by omega)
  have mt := m (j + 1) n (by omega) (Nat.le_refl _)
  have m0 := m 0 n (Nat.zero_le _) (Nat.le_refl _)
  refine ⟨⟨by simpa using h.ul, ?_, fun i h1 h2 => ?_, fun i h1 h2 => ?_⟩, ?_⟩
  · have hn : Row V lo (f 0) 46 4 A n c (nvCells (us.set j (p, q, r, us[j].2.2.2))) := ⟨hown, h.nodes.lt⟩
    exact hn.wrote hw (.inl mj)
  · have l1 : i < us.length := by simpa using h1
    rw [List.getElem_set]
    split
    · rename_i e
      subst e
      exact h.outs j lu h2
    · exact h.outs i l1 h2
  · by_cases e : i = j
    · subst e
      exact ⟨zs, hr⟩
    · obtain ⟨ys, hy⟩ := h.inner i h1 h2
      have mi := m 0 i (Nat.zero_le _) (by omega)
      refine ⟨ys, (row_beside hy hV (.inl (by omega))).wrote hw ?_⟩
      by_cases hij : i < j
      · exact .inl (m (i + 1) j (by omega) (by omega))
      · exact .inr (m (j + 1) i (by omega) (by omega))
  · refine .step (.step (.refl _) ⟨some g, hV, fun x hx => ?_⟩) (hw.widen (Nat.le_trans hlo mj) (by omega))
    cases hx
    omega

theorem WroteR.trans {a b c : World} {lo hi : Nat} (h : WroteR lo hi a b) (h2 : WroteR lo hi b c) : WroteR lo hi a c := by
  induction h2 with
  | refl => exact h
  | step _ hw ih => exact ih.step hw

end Go.Proofs.Ytbbagpnjjjohpaa.hexes

namespace Go.Proofs.Ytbbagpnjjjohpaa.hexes
open Go.RowKit

/-- Behind a call that turns nothing old, blocks from lo on and below hi were written. -/
def Turned (lo hi : Nat) (w w' : World) : Prop := ∃ w1, Below w.heap.size w w1 ∧ WroteR lo hi w1 w'

theorem Wrote.turned {w w' : World} {lo hi : Nat} (h : Wrote w w' lo hi) : Turned lo hi w w' := ⟨w, Below.refl _ _, .step (.refl _) h⟩
theorem Turned.size {w w' : World} {lo hi : Nat} (h : Turned lo hi w w') : w.heap.size ≤ w'.heap.size := by
  obtain ⟨w1, hb, hw⟩ := h
  exact Nat.le_trans hb.size hw.size
theorem Row.turned {w w' : World} {lo hi lo' hi' e size n c : Nat} {A : Option Addr} {xs : List Value} (h : Row w lo hi e size A n c xs) (hw : Turned lo' hi' w w') (hd : hi ≤ lo' ∨ hi' ≤ lo) : Row w' lo hi e size A n c xs := by
  obtain ⟨w1, hb, hw⟩ := hw
  exact (h.below hb).wroteR hw hd
theorem GrRows.turned {w w' : World} {lo hi lo' hi' n c : Nat} {A : Option Addr} {gs : List Nd} {vs : List Nv} {f : Nat → Nat} (h : GrRows w lo hi A n c gs vs f) (hw : Turned lo' hi' w w') (hd : hi ≤ lo' ∨ hi' ≤ lo) : GrRows w' lo hi A n c gs vs f := by
  obtain ⟨w1, hb, hw⟩ := hw
  exact (h.below hb).wroteR hw hd
theorem Blk.wrote1 {w w' : World} {g : Nat} {t : TypeId} {cs : Array Value} {lo hi : Nat} (h : Blk w g t cs) (hw : Wrote w w' lo hi) (hd : g < lo ∨ hi ≤ g) : Blk w' g t cs := by
  obtain ⟨row, hg, hr⟩ := hw
  refine h.grown hg fun e => ?_
  have := hr g e.symm
  omega
theorem Blk.turned {w w' : World} {g : Nat} {t : TypeId} {cs : Array Value} {lo hi : Nat} (h : Blk w g t cs) (hw : Turned lo hi w w') (hd : g < lo ∨ hi ≤ g) : Blk w' g t cs := by
  obtain ⟨w1, hb, hw⟩ := hw
  have h1 := h.below hb
  clear h hb
  induction hw with
  | refl => exact h1
  | step _ hw ih => exact ih.wrote1 hw hd

end Go.Proofs.Ytbbagpnjjjohpaa.hexes

namespace Go.Proofs.Ytbbagpnjjjohpaa.hexes
open Go.RowKit

theorem all_take_succ {α : Type} {zs : List α} {p : α → Bool} {j : Nat} {x : α} (hj : j < zs.length) (hx : zs[j] = x) : (zs.take (j + 1)).all p = ((zs.take j).all p && p x) := by
  rw [List.take_succ_eq_append_getElem hj, hx]
  simp
theorem all_bad {α : Type} {zs : List α} {p : α → Bool} {j : Nat} {x : α} (hj : j < zs.length) (hx : zs[j] = x) (h : p x = false) : zs.all p = false := by
  rw [List.all_eq_false]
  exact ⟨x, hx ▸ List.getElem_mem hj, by simp [h]⟩
theorem all_end {α : Type} {zs : List α} {p : α → Bool} {j : Nat} (hj : zs.length ≤ j) (h : (zs.take j).all p = true) : zs.all p = true := by
  rwa [List.take_of_length_le hj] at h

theorem hasNode_is {n : Nat} {t : Int} {r : Bool} (h : decide (0 ≤ t ∧ t ≤ (n : Int) - 1) = r) (A : Option Addr) (c : Nat) (hn : n ≤ 1048576) (W : World) :
    Calls Try.prog 92 #[.slice A n c, .int .i64 t] W fun e w' => e = .returned (.bool r) ∧ W = w' := by
  have E := Lib.hid (fun W => implInN_is h W)
  have m : IntKind.i64.wrap ((n : Int) - 1) = (n : Int) - 1 := IntWalk.i64_in _ (by omega)
  clear h
  go_enter Try.func92, Try.ntmps92
  go_wp2_with fail
  refine (E.out _).mono ?_
  rintro e w1 ⟨rfl, rfl⟩
  go_wp2
  go_ret
  exact ⟨rfl, rfl⟩

def sizesB (wk cp : Int) : Bool := decide (1 ≤ wk ∧ wk ≤ 4) && decide (1 ≤ cp ∧ cp ≤ 4)

set_option maxRecDepth 100000 in
theorem sizesOk_is {wk cp : Int} {r : Bool} (h : sizesB wk cp = r) (A : Option Addr) (n c : Nat) (w : World) :
    Calls Try.prog 88 #[.agg #[.slice A n c, .int .i64 wk, .int .i64 cp]] w fun e w' => e = .returned (.bool r) ∧ Below w.heap.size w w' := by
  have BW := Lib.hid ((Below.refl w.heap.size w).alloc (Nat.le_refl _) (.cells #[.slice A n c, .int .i64 wk, .int .i64 cp] 26))
  have key : ∀ q1 q2 q3 q4 : Bool, decide (wk ≥ 1) = q1 → decide (wk ≤ 4) = q2 → decide (cp ≥ 1) = q3 → decide (cp ≤ 4) = q4 → r = (q1 && q2 && q3 && q4) := by
    intro q1 q2 q3 q4 h1 h2 h3 h4
    rw [← h, ← h1, ← h2, ← h3, ← h4]
    unfold sizesB
    simp only [ge_iff_le, Bool.decide_and, Bool.and_assoc]
  have K := Lib.hid key
  clear h key
  cases h1 : decide (wk ≥ 1) <;> cases h2 : decide (wk ≤ 4) <;> cases h3 : decide (cp ≥ 1) <;> cases h4 : decide (cp ≤ 4)
  all_goals
    have R := Lib.hid (K.out _ _ _ _ h1 h2 h3 h4)
    rw [R.out]
    clear K R
    go_enter Try.func88, Try.ntmps88
    go_wp2
    go_ret
    exact ⟨rfl, BW.out⟩

/-- An edge from the i-th node, of kind k, whose end is the number of a node. -/
theorem edgeB_at {gs : List Nd} {i j : Nat} (hi : i < gs.length) (hj : j < gs.length) : edgeB gs i gs[i].1 (j : Int) = (if gs[i].1 = 7 then decide (j ≤ i) && (gs[j].1 == 5 || gs[j].1 == 6) else decide (i < j)) := by
  unfold edgeB
  rw [kindAt_of rfl hj]
  simp only [Int.ofNat_lt, Int.ofNat_le]
  simp [hj]

theorem edgeB_out {gs : List Nd} {i : Nat} {k t : Int} (h : (gs.length : Int) ≤ t) : edgeB gs i k t = false := by
  unfold edgeB
  simp
  omega

set_option maxRecDepth 100000 in
theorem edgeOk_is {gs : List Nd} {i j : Nat} {r : Bool} (hi : i < gs.length) (hj : j < gs.length)
    (h : edgeB gs i gs[i].1 (j : Int) = r)
    {A : Option Addr} {n : Nat} (c : Nat) (hn : n = gs.length) {w : World} (hg : Nds w A gs) :
    Calls Try.prog 112 #[.slice A n c, .int .i64 (i : Int), .int .i64 (j : Int)] w fun e w' => e = .returned (.bool r) ∧ w = w' := by
  obtain ⟨b, off, k, a, bb, zs, A1, n1, c1, rfl, hx, hz, _, _, e0, e1, e2, e3⟩ := hg.at hi
  obtain ⟨b', off', k', a', bb', zs', A1', n1', c1', hA, hx', hz', _, _, e0', e1', e2', e3'⟩ := hg.at hj
  simp only [Option.some.injEq, Addr.mk.injEq, and_true] at hA
  obtain ⟨rfl, rfl⟩ := hA
  rw [edgeB_at hi hj, hx, hx'] at h
  dsimp only at h
  have i0 : (0 : Int) ≤ (i : Int) := by omega
  have i1 : (i : Int) < (n : Int) := by omega
  have j0 : (0 : Int) ≤ (j : Int) := by omega
  have j1 : (j : Int) < (n : Int) := by omega
  clear hx hx' hz hz' hi hj hg hn e1 e2 e3 e1' e2' e3'
  by_cases hk : k = 7
  · subst hk
    rw [if_pos rfl] at h
    have key : ∀ q1 q2 q3 : Bool, decide (j ≤ i) = q1 → (k' == 5) = q2 → (k' == 6) = q3 → r = (q1 && (q2 || q3)) := by
      intro q1 q2 q3 h1 h2 h3
      rw [← h, ← h1, ← h2, ← h3]
    have K := Lib.hid key
    clear h key
    cases h1 : decide (j ≤ i) <;> cases h2 : (k' == 5) <;> cases h3 : (k' == 6)
    all_goals
      have R := Lib.hid (K.out _ _ _ h1 h2 h3)
      rw [R.out]
      clear K R
      go_enter Try.func112, Try.ntmps112
      go_wp2
      go_ret
      exact ⟨rfl, rfl⟩
  · rw [if_neg hk] at h
    have hk7 : (k != 7) = true := by simpa using hk
    clear hk
    go_enter Try.func112, Try.ntmps112
    go_wp2
    go_ret
    exact ⟨rfl, rfl⟩

set_option maxRecDepth 100000 in
set_option maxHeartbeats 1000000 in
theorem edgesOk_is {gs : List Nd} {i : Nat} {r : Bool} (hi : i < gs.length) (h0 : ∀ z ∈ gs[i].2.2.2, 0 ≤ z) (ho : gs[i].2.2.2.length ≤ 1048576)
    (h : gs[i].2.2.2.all (edgeB gs i gs[i].1) = r) {A : Option Addr} {n : Nat} (c : Nat) (hn : n = gs.length) (hn2 : n ≤ 1048576) {w : World} (hg : Nds w A gs) :
    Calls Try.prog 90 #[.slice A n c, .int .i64 (i : Int)] w fun e w' => e = .returned (.bool r) ∧ w = w' := by
  have HG := Lib.hid hg
  have HN := Lib.hid hn
  have HI := Lib.hid hi
  obtain ⟨b, off, k, a, bb, zs, A1, n1, c1, rfl, hx, hz, hc1, hin, e0, e1, e2, e3⟩ := hg.at hi
  have EK := Lib.hid (show ∀ (j : Nat) (r : Bool), j < gs.length → edgeB gs i k (j : Int) = r → Calls Try.prog 112 #[.slice (some ⟨b, off, none⟩) n c, .int .i64 (i : Int), .int .i64 (j : Int)] w fun e w' => e = .returned (.bool r) ∧ w = w' from fun j r hj h => edgeOk_is hi hj (by rw [hx]; exact h) c hn hg)
  rw [hx] at h h0 ho
  have H := Lib.hid (show zs.all (edgeB gs i k) = r from h)
  have H0 := Lib.hid (show ∀ z ∈ zs, 0 ≤ z from h0)
  have HO : n1 ≤ 1048576 := by rw [← hz]; exact ho
  have HZ := Lib.hid hz
  have IN := Lib.hid hin
  have i0 : (0 : Int) ≤ (i : Int) := by omega
  have i1 : (i : Int) < (n : Int) := by omega
  clear h h0 ho hx hz hin hg hi hn e0 e1 e2
  go_enter Try.func90, Try.ntmps90
  go_wp2
  go_loop [13] (fun q => ∃ j : Nat, j ≤ n1 ∧ q = .int .i64 (j : Int) ∧ (zs.take j).all (edgeB gs i k) = true) (fun q => n1 - (intOf q).toNat)
  case atStart => exact ⟨0, Nat.zero_le _, rfl, by simp⟩
  case round =>
    obtain ⟨j, hj, rfl, ht⟩ := hrel
    have HT := Lib.hid ht
    clear ht
    by_cases hlt : j < n1
    · have l1 : j < zs.length := by rw [HZ.out]; exact hlt
      obtain ⟨b1, o1, p, rfl, x1, f1⟩ := IN.out.at l1
      have X1 := Lib.hid x1
      have p0 := H0.out p (x1 ▸ List.getElem_mem l1)
      have j0 : (0 : Int) ≤ (j : Int) := by omega
      have j1 : (j : Int) < (n1 : Int) := by omega
      clear x1
      by_cases hp : p < (n : Int)
      · obtain ⟨q, rfl⟩ : ∃ q : Nat, p = (q : Int) := ⟨p.toNat, by omega⟩
        have hq : q < gs.length := by rw [← HN.out]; omega
        have E1 := Lib.hid (fun W => hasNode_is (n := n) (t := (q : Int)) (r := true) (by simp; omega) (some ⟨b, off, none⟩) c hn2 W)
        cases hr : edgeB gs i k (q : Int) with
        | true =>
          have E2 := Lib.hid (EK.out q true hq hr)
          have HT2 := Lib.hid (show (zs.take (j + 1)).all (edgeB gs i k) = true by rw [all_take_succ l1 X1.out, HT.out, hr]; rfl)
          clear HT hr X1 l1 hq hp p0
          go_wp2_with fail
          refine (E1.out _).mono ?_
          rintro e w1 ⟨rfl, rfl⟩
          go_wp2_with fail
          refine E2.out.mono ?_
          rintro e w1 ⟨rfl, rfl⟩
          go_wp2
          go_round
          case rel => exact ⟨j + 1, by omega, by go_num, HT2.out⟩
          case measure => simp [intOf]; omega
        | false =>
          have E2 := Lib.hid (EK.out q false hq hr)
          have HR := Lib.hid (show r = false by rw [← H.out]; exact all_bad l1 X1.out hr)
          clear HT hr X1 l1 hq hp p0
          go_wp2_with fail
          refine (E1.out _).mono ?_
          rintro e w1 ⟨rfl, rfl⟩
          go_wp2_with fail
          refine E2.out.mono ?_
          rintro e w1 ⟨rfl, rfl⟩
          go_wp2
          go_ret
          exact ⟨congrArg (fun b => Ending.returned (Value.bool b)) HR.out.symm, rfl⟩
      · have E1 := Lib.hid (fun W => hasNode_is (n := n) (t := p) (r := false) (by simp; omega) (some ⟨b, off, none⟩) c hn2 W)
        have HR := Lib.hid (show r = false by rw [← H.out]; exact all_bad l1 X1.out (edgeB_out (by rw [← HN.out]; omega)))
        clear HT X1 l1 hp p0
        go_wp2_with fail
        refine (E1.out _).mono ?_
        rintro e w1 ⟨rfl, rfl⟩
        go_wp2
        go_ret
        exact ⟨congrArg (fun b => Ending.returned (Value.bool b)) HR.out.symm, rfl⟩
    · have HR := Lib.hid (show r = true by rw [← H.out]; exact all_end (j := j) (by rw [HZ.out]; omega) HT.out)
      clear HT
      go_wp2
      go_ret
      exact ⟨congrArg (fun b => Ending.returned (Value.bool b)) HR.out.symm, rfl⟩

end Go.Proofs.Ytbbagpnjjjohpaa.hexes

