/-
  Nodes written over: what the law's marks reach of a graph's memory, and what they leave.
  The law's marks on a graph's nodes.
-/
import Derived.Test.YtbbagpnjjjohpaaJ8

namespace Go.Proofs.Ytbbagpnjjjohpaa.hexes
open Go.RowKit

/-- Blocks from lo on and below hi were written, any number of them. -/
inductive WroteR (lo hi : Nat) : World → World → Prop
  | refl (w : World) : WroteR lo hi w w
  | step {w w1 w2 : World} (h : WroteR lo hi w w1) (hw : Wrote w1 w2 lo hi) : WroteR lo hi w w2

theorem Wrote.widen {w w' : World} {lo hi lo' hi' : Nat} (h : Wrote w w' lo hi) (h1 : lo' ≤ lo) (h2 : hi ≤ hi') : Wrote w w' lo' hi' := by
  obtain ⟨row, hg, hr⟩ := h
  exact ⟨row, hg, fun g e => ⟨Nat.le_trans h1 (hr g e).1, Nat.lt_of_lt_of_le (hr g e).2 h2⟩⟩

theorem WroteR.size {w w' : World} {lo hi : Nat} (h : WroteR lo hi w w') : w.heap.size ≤ w'.heap.size := by
  induction h with
  | refl => exact Nat.le_refl _
  | step _ hw ih => exact Nat.le_trans ih hw.size

theorem Row.wroteR {w w' : World} {lo hi lo' hi' e size n c : Nat} {A : Option Addr} {xs : List Value} (h : Row w lo hi e size A n c xs) (hw : WroteR lo' hi' w w') (hd : hi ≤ lo' ∨ hi' ≤ lo) : Row w' lo hi e size A n c xs := by
  induction hw with
  | refl => exact h
  | step _ hw ih => exact ih.wrote hw hd

theorem below_wroteR {a w w' : World} {lo hi : Nat} (h : Below a.heap.size a w) (hw : WroteR lo hi w w') (hlo : a.heap.size ≤ lo) : Below a.heap.size a w' := by
  induction hw with
  | refl => exact h
  | step _ hw ih => exact below_wrote ih hw hlo

theorem GrRows.wroteR {w w' : World} {lo hi lo' hi' n c : Nat} {A : Option Addr} {gs : List Nd} {vs : List Nv} {f : Nat → Nat} (h : GrRows w lo hi A n c gs vs f) (hw : WroteR lo' hi' w w') (hd : hi ≤ lo' ∨ hi' ≤ lo) : GrRows w' lo hi A n c gs vs f := by
  have m := mono_le h.mono
  have t := h.top
  have b := h.base
  have v := h.vl
  have m0 := m 0 n (Nat.zero_le _) (Nat.le_refl _)
  refine ⟨h.gl, h.vl, h.nodes.wroteR hw (by omega), h.fits, fun i h1 h2 => (h.inner i h1 h2).wroteR hw ?_, h.mono, h.top, h.base⟩
  have m1 := m 0 i (Nat.zero_le _) (by omega)
  have m2 := m (i + 1) n (by omega) (Nat.le_refl _)
  omega

/-- What is left of a graph's memory while it is written over: the rows, whatever they hold; the nodes' slices as they were. -/
structure GrHeld (w : World) (lo : Nat) (A : Option Addr) (n c : Nat) (gs : List Nd) (vs us : List Nv) (f : Nat → Nat) : Prop where
  ul : us.length = n
  nodes : Row w lo (f 0) 46 4 A n c (nvCells us)
  outs : ∀ i (h1 : i < us.length) (h2 : i < vs.length), us[i].2.2.2 = vs[i].2.2.2
  inner : ∀ i (h1 : i < vs.length) (h2 : i < gs.length), ∃ zs, Row w (f i) (f (i + 1)) 3 1 vs[i].2.2.2.1 gs[i].2.2.2.length vs[i].2.2.2.2.2 (isCells zs)

theorem own_stored3_nv {w : World} {base e g n cap : Nat} {vs : List Nv} (h : w.ownsRow base e 4 (.slice (some ⟨g, 0, none⟩) n cap) n (nvCells vs)) (k : Nat) (hk : k < vs.length) (p q r : Int) :
    (((w.setCell ⟨g, k * 4, none⟩ (.int .i64 p)).setCell ⟨g, k * 4 + 1, none⟩ (.int .i64 q)).setCell ⟨g, k * 4 + 2, none⟩ (.int .i64 r)).ownsRow base e 4 (.slice (some ⟨g, 0, none⟩) n cap) n (nvCells (vs.set k (p, q, r, vs[k].2.2.2))) ∧
    w.grownBy (((w.setCell ⟨g, k * 4, none⟩ (.int .i64 p)).setCell ⟨g, k * 4 + 1, none⟩ (.int .i64 q)).setCell ⟨g, k * 4 + 2, none⟩ (.int .i64 r)) (some g) := by
  have s0 := h.stored (k * 4) (.int .i64 p)
  have s1 := s0.1.stored (k * 4 + 1) (.int .i64 q)
  have s2 := s1.1.stored (k * 4 + 2) (.int .i64 r)
  have hl := s2.1
  have e : (((nvCells vs).set (k * 4) (.int .i64 p)).set (k * 4 + 1) (.int .i64 q)).set (k * 4 + 2) (.int .i64 r) = nvCells (vs.set k (p, q, r, vs[k].2.2.2)) := by
    have q := nvCells_set vs k p q r vs[k].2.2.2.1 vs[k].2.2.2.2.1 vs[k].2.2.2.2.2
    rw [← q]
    obtain ⟨_, _, _, e3⟩ := nvCells_at vs k hk
    obtain ⟨hb, he⟩ := List.getElem?_eq_some_iff.1 e3
    apply List.ext_getElem?
    intro i
    by_cases hi : k * 4 + 3 = i
    · subst hi
      rw [List.getElem?_set_self (by simpa using hb), List.getElem?_set_ne (by omega), List.getElem?_set_ne (by omega), List.getElem?_set_ne (by omega), e3]
    · rw [List.getElem?_set_ne hi]
  rw [e] at hl
  exact ⟨hl, grown_trans (grown_trans s0.2 s1.2) s2.2⟩

theorem GrRows.held {w : World} {lo hi n c : Nat} {A : Option Addr} {gs : List Nd} {vs : List Nv} {f : Nat → Nat} (h : GrRows w lo hi A n c gs vs f) : GrHeld w lo A n c gs vs vs f :=
  ⟨h.vl, h.nodes, fun _ _ _ => rfl, fun i h1 h2 => ⟨_, h.inner i h1 h2⟩⟩

end Go.Proofs.Ytbbagpnjjjohpaa.hexes

namespace Go.Proofs.Ytbbagpnjjjohpaa.hexes
open Go.RowKit

/-- One node written over: its own cells, then the row behind its slice. -/
theorem GrHeld.put {w V w2 : World} {lo hi j g n c : Nat} {A : Option Addr} {gs : List Nd} {vs us : List Nv} {f : Nat → Nat} (H : ∀ i, i < n → f i ≤ f (i + 1)) (ht : f n ≤ hi) (hlo : lo ≤ f 0) (hv : vs.length = n) (hgl : gs.length = n) (h : GrHeld w lo A n c gs vs us f) (lu : j < us.length) (lv : j < vs.length) (lg : j < gs.length) (p q r : Int) (hV : w.grownBy V (some g)) (hgl2 : lo ≤ g) (hg : g < f 0)
    (hown : V.ownsRow lo 46 4 (.slice A n c) n (nvCells (us.set j (p, q, r, us[j].2.2.2)))) {zs : List Int}
    (hr : Row w2 (f j) (f (j + 1)) 3 1 vs[j].2.2.2.1 gs[j].2.2.2.length vs[j].2.2.2.2.2 (isCells zs)) (hw : Wrote V w2 (f j) (f (j + 1))) :
    GrHeld w2 lo A n c gs vs (us.set j (p, q, r, us[j].2.2.2)) f ∧ WroteR lo hi w w2 := by
  have m := mono_le H
  have mj := m 0 j (Nat.zero_le _) (by omega)
  have mt := m (j + 1) n (by omega) (Nat.le_refl _)
  have m0 := m 0 n (Nat.zero_le _) (Nat.le_refl _)
  refine ⟨⟨by simpa using h.ul, ?_, fun i h1 h2 => ?_, fun i h1 h2 => ?_⟩, ?_⟩
  · have hn : Row V lo (f 0) 46 4 A n c (nvCells (us.set j (p, q, r, us[j].2.2.2))) := ⟨hown, h.nodes.lt⟩
    exact hn.wrote hw (.inl mj)
  · have l1 : i < us.length := by simpa using h1
    rw [List.getElem_set]
    split
    · rename_i e
      subst e
      exact h.outs j lu h2
    · exact h.outs i l1 h2
  · by_cases e : i = j
    · subst e
      exact ⟨zs, hr⟩
    · obtain ⟨ys, hy⟩ := h.inner i h1 h2
      have mi := m 0 i (Nat.zero_le _) (by omega)
      refine ⟨ys, (row_beside hy hV (.inl (by omega))).wrote hw ?_⟩
      by_cases hij : i < j
      · exact .inl (m (i + 1) j (by omega) (by omega))
      · exact .inr (m (j + 1) i (by omega) (by omega))
  · refine .step (.step (.refl _) ⟨some g, hV, fun x hx => ?_⟩) (hw.widen (Nat.le_trans hlo mj) (by omega))
    cases hx
    omega

theorem WroteR.trans {a b c : World} {lo hi : Nat} (h : WroteR lo hi a b) (h2 : WroteR lo hi b c) : WroteR lo hi a c := by
  induction h2 with
  | refl => exact h
  | step _ hw ih => exact ih.step hw

set_option maxRecDepth 100000 in
set_option maxHeartbeats 1000000 in
theorem markNds_any {w : World} {lo hi n c : Nat} {A : Option Addr} {gs : List Nd} {vs : List Nv} {f : Nat → Nat} (h : GrRows w lo hi A n c gs vs f) (k0 : Nat) (hk0 : k0 + 3 * n + outSum gs ≤ 4194304) :
    Calls Try.prog 69 #[.slice A n c, .int .i64 (k0 : Int)] w fun e w' => e = .returned (.int .i64 ((k0 + 3 * n + outSum gs : Nat) : Int)) ∧ WroteR lo hi w w' := by
  have H := Lib.hid h
  have hn : n ≤ 4194304 := by omega
  clear h
  go_enter Try.func69, Try.ntmps69
  go_wp2
  go_loopw [1, 5] (fun m i wr => ∃ (j K : Nat) (us : List Nv), j ≤ n ∧ K = k0 + 3 * j + outSum (gs.take j) ∧ m = .int .i64 (K : Int) ∧ i = .int .i64 (j : Int) ∧ GrHeld wr lo A n c gs vs us f ∧ WroteR lo hi w wr) (fun _ i _ => n - (intOf i).toNat)
  case atStart => exact ⟨0, k0, vs, Nat.zero_le _, by simp [outSum], rfl, rfl, H.out.held, .refl _⟩
  case round =>
    obtain ⟨j, K, us, hj, hK, rfl, rfl, hg, hw⟩ := hrel
    have HG := Lib.hid hg
    have HW := Lib.hid hw
    have HK := Lib.hid hK
    have kb : K ≤ 4194304 := by have := outSum_le gs j; omega
    clear hw hK
    by_cases hlt : j < n
    · have lg : j < gs.length := by rw [H.out.gl]; exact hlt
      have lv : j < vs.length := by rw [H.out.vl]; exact hlt
      have lu : j < us.length := by rw [HG.out.ul]; exact hlt
      have fl : gs[j].2.2.2.length ≤ 1048576 * 4 := by
        have q := outSum_succ lg rfl
        have q2 := outSum_le gs (j + 1)
        omega
      obtain ⟨A', c', he, hA⟩ := own_form hg.nodes.own
      simp only [Value.slice.injEq, true_and] at he
      obtain ⟨rfl, rfl⟩ := he
      obtain ⟨g, rfl⟩ := hA (by omega)
      obtain ⟨zs, hin⟩ := hg.inner j lv lg
      have o2 := hg.nodes.own
      have hou := hg.outs j lu lv
      have hfi := (H.out.fits j lv lg).2.2.2
      obtain ⟨_, _, _, e3⟩ := nvCells_at us j lu
      rw [hou, hfi] at e3
      have c3 : wr.cell? ⟨g, j * 4 + 3, none⟩ = some (.slice vs[j].2.2.2.1 gs[j].2.2.2.length vs[j].2.2.2.2.2) := by rw [o2.cellAt (j * 4 + 3) (by omega)]; exact e3
      have st := own_stored3_nv o2 j lu (K : Int) ((K : Int) + 1) ((K : Int) + 1 + 1)
      have ST := Lib.hid st.1
      have SG := Lib.hid st.2
      have gb : lo ≤ g ∧ g < f 0 := ⟨own_ge o2 g rfl, hg.nodes.lt g rfl⟩
      obtain ⟨u0, cu0⟩ : ∃ u, wr.cell? ⟨g, j * 4, none⟩ = some u := ⟨_, by rw [o2.cellAt (j * 4) (by omega)]; exact List.getElem?_eq_getElem (by rw [o2.1]; omega)⟩
      obtain ⟨u1, cu1⟩ : ∃ u, wr.cell? ⟨g, j * 4 + 1, none⟩ = some u := ⟨_, by rw [o2.cellAt (j * 4 + 1) (by omega)]; exact List.getElem?_eq_getElem (by rw [o2.1]; omega)⟩
      obtain ⟨u2, cu2⟩ : ∃ u, wr.cell? ⟨g, j * 4 + 2, none⟩ = some u := ⟨_, by rw [o2.cellAt (j * 4 + 2) (by omega)]; exact List.getElem?_eq_getElem (by rw [o2.1]; omega)⟩
      have fr0 := o2.frozenAt (j * 4)
      have fr1 := o2.frozenAt (j * 4 + 1)
      have fr2 := o2.frozenAt (j * 4 + 2)
      have i0' : (0 : Int) ≤ (j : Int) := by omega
      have i1 : (j : Int) < (n : Int) := by omega
      have HIN := Lib.hid hin
      have HOU := Lib.hid hou
      generalize hA1 : vs[j].2.2.2.1 = A1 at c3
      generalize hN1 : gs[j].2.2.2.length = n1 at c3 fl
      generalize hC1 : vs[j].2.2.2.2.2 = c1 at c3
      have HA1 := Lib.hid hA1
      have HN1 := Lib.hid hN1
      have HC1 := Lib.hid hC1
      have HQ := Lib.hid (outSum_succ lg rfl)
      clear o2 st hin hou hfi e3 hg hA hA1 hN1 hC1
      go_wp2_with fail
      generalize hV : ((wr.setCell _ _).setCell _ _).setCell _ _ = V
      have ST2 := Lib.hid (show V.ownsRow lo 46 4 (.slice (some ⟨g, 0, none⟩) n c) n (nvCells (us.set j ((K : Int), (K : Int) + 1, (K : Int) + 1 + 1, us[j].2.2.2))) by rw [← hV]; exact ST.out)
      have SG2 := Lib.hid (show wr.grownBy V (some g) by rw [← hV]; exact SG.out)
      clear hV ST SG
      have hfj := mono_le H.out.mono 0 j (Nat.zero_le _) hj
      have hin2 : Row V (f j) (f (j + 1)) 3 1 A1 n1 c1 (isCells zs) := by
        have q := HIN.out
        rw [HA1.out, HN1.out, HC1.out] at q
        exact row_beside q SG2.out (.inl (by omega))
      rw [show ((K : Int) + 1 + 1 + 1) = ((K + 3 : Nat) : Int) by omega]
      refine (markIsS_row (K + 3) hin2 (by omega) (by omega)).mono ?_
      rintro e w2 ⟨rfl, hr2, hw2⟩
      have PUT := Lib.hid (GrHeld.put H.out.mono H.out.top H.out.base H.out.vl H.out.gl HG.out lu lv lg (K : Int) ((K : Int) + 1) ((K : Int) + 1 + 1) SG2.out gb.1 gb.2 ST2.out (by rw [HA1.out, HN1.out, HC1.out]; exact hr2) hw2)
      have HK2 := Lib.hid (show K + 3 + n1 = k0 + 3 * (j + 1) + outSum (gs.take (j + 1)) by
        have q := HQ.out
        have q2 := HK.out
        have q3 := HN1.out
        omega)
      clear hin2 hr2 hw2 ST2 SG2 cu0 cu1 cu2 fr0 fr1 fr2 c3
      go_wp2_with fail
      go_roundw
      case rel => exact ⟨j + 1, K + 3 + n1, _, by omega, HK2.out, by go_num, by go_num, PUT.out.1, HW.out.trans PUT.out.2⟩
      case measure => simp [intOf]; omega
    · have hjn : j = n := by omega
      have HE := Lib.hid (show k0 + 3 * n + outSum gs = K by
        have q := HK.out
        rw [List.take_of_length_le (by rw [H.out.gl]; omega)] at q
        omega)
      clear hg
      go_wp2
      go_ret
      exact ⟨congrArg (fun x : Nat => Ending.returned (Value.int .i64 (x : Int))) HE.out.symm, HW.out⟩

set_option maxRecDepth 100000 in
theorem markGr_any {w : World} {lo hi n c : Nat} {A : Option Addr} {gs : List Nd} {vs : List Nv} {f : Nat → Nat} (h : GrRows w lo hi A n c gs vs f) (wk cp : Int) (k0 : Nat) (hk0 : k0 + 3 * n + outSum gs ≤ 4194304) :
    Calls Try.prog 39 #[.agg #[.slice A n c, .int .i64 wk, .int .i64 cp], .int .i64 (k0 : Int)] w fun e w' => e = .returned (.int .i64 ((k0 + 3 * n + outSum gs : Nat) : Int)) ∧ ∃ w1, Below w.heap.size w w1 ∧ WroteR lo hi w1 w' := by
  have H := Lib.hid h
  clear h
  go_enter Try.func39, Try.ntmps39
  go_wp2_with fail
  generalize hW : w.alloc _ = W
  have bW : Below w.heap.size w W := by rw [← hW]; exact (Below.refl _ _).alloc (Nat.le_refl _) _
  clear hW
  refine (markNds_any (H.out.below bW) k0 hk0).mono ?_
  rintro e w1 ⟨rfl, hw⟩
  have HW := Lib.hid hw
  have BW := Lib.hid bW
  clear hw bW
  go_wp2
  go_ret
  exact ⟨rfl, W, BW.out, HW.out⟩

end Go.Proofs.Ytbbagpnjjjohpaa.hexes

