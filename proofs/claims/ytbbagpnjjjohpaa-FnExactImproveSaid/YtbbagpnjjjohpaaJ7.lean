/-
  The laws' own functions on lists of nodes.
-/
import Derived.Test.YtbbagpnjjjohpaaJ6

namespace Go.Proofs.Ytbbagpnjjjohpaa.hexes
open Go.RowKit

def outSum (gs : List Nd) : Nat := (gs.map fun x => x.2.2.2.length).sum

theorem outSum_succ {gs : List Nd} {j : Nat} {x : Nd} (hj : j < gs.length) (hx : gs[j] = x) : outSum (gs.take (j + 1)) = outSum (gs.take j) + x.2.2.2.length := by
  rw [List.take_succ_eq_append_getElem hj, hx]
  simp [outSum]

theorem outSum_append (a b : List Nd) : outSum (a ++ b) = outSum a + outSum b := by simp [outSum]

theorem outSum_le (gs : List Nd) (j : Nat) : outSum (gs.take j) ≤ outSum gs := by
  have h := outSum_append (gs.take j) (gs.drop j)
  rw [List.take_append_drop] at h
  omega

set_option maxRecDepth 100000 in
theorem szNds_any (A : Option Addr) (n c : Nat) (gs : List Nd) (hl : gs.length = n) (left : Int) (h0 : 0 ≤ left) (h1 : left ≤ 1048576) (hn : n ≤ maxLen) (hs : ∀ x ∈ gs, x.2.2.2.length ≤ maxLen) {r : Int} (hr : (if left < ((n + outSum gs : Nat) : Int) then -1 else left - ((n + outSum gs : Nat) : Int)) = r) (w : World) (h : Nds w A gs) :
    Calls Try.prog 65 #[.slice A n c, .int .i64 left] w fun e w' => e = .returned (.int .i64 r) ∧ Below w.heap.size w w' := by
  have HR := Lib.hid hr
  have HL := Lib.hid hl
  have HS := Lib.hid hs
  have H := Lib.hid h
  have mx := hn
  unfold maxLen at mx
  have m : IntKind.i64.wrap (left - (n : Int)) = left - (n : Int) := IntWalk.i64_in _ (by omega)
  clear hr hl hs h
  by_cases hlt : left < (n : Int)
  · have hd : decide (left - (n : Int) < 0) = true := by simp; omega
    have HE := Lib.hid (show r = -1 by rw [← HR.out, if_pos (by omega)])
    rw [HE.out]
    clear hlt
    go_enter Try.func65, Try.ntmps65
    go_wp2
    go_ret
    exact ⟨rfl, Below.refl _ _⟩
  · have hd : decide (left - (n : Int) < 0) = false := by simp; omega
    obtain ⟨l0, hl0⟩ : ∃ l0 : Nat, left - (n : Int) = (l0 : Int) := ⟨(left - n).toNat, by omega⟩
    have hd0 : decide ((l0 : Int) < 0) = false := by simp
    have HL0 := Lib.hid hl0
    have lb : l0 ≤ 1048576 := by omega
    go_enter Try.func65, Try.ntmps65
    go_wp2
    clear hl0 hd m hd0
    go_loopw [1, 5] (fun l i wr => ∃ j k : Nat, j ≤ n ∧ i = .int .i64 (j : Int) ∧ l = .int .i64 (k : Int) ∧ k + outSum (gs.take j) = l0 ∧ Below w.heap.size w wr) (fun _ i _ => n - (intOf i).toNat)
    case atStart => exact ⟨0, l0, Nat.zero_le _, rfl, rfl, by simp [outSum], Below.refl _ _⟩
    case round =>
      obtain ⟨j, k, hj, rfl, rfl, hk, hb⟩ := hrel
      have HK := Lib.hid hk
      have HB := Lib.hid hb
      have kb : k ≤ 1048576 := by omega
      clear hk
      by_cases hjn : j < n
      · have lj : j < gs.length := by rw [HL.out]; exact hjn
        obtain ⟨b, off, kd, a, bb, zs, A1, n1, c1, rfl, hx, hz, _, _, e0, e1, e2, e3⟩ := (H.out.below hb).at lj
        have hle : n1 ≤ maxLen := by rw [← hz]; have := HS.out _ (List.getElem_mem lj); rw [hx] at this; exact this
        have HQ := Lib.hid (outSum_succ lj hx)
        have HQ2 := Lib.hid (outSum_le gs (j + 1))
        have HZ := Lib.hid hz
        have i0 : (0 : Int) ≤ (j : Int) := by omega
        have i1 : (j : Int) < (n : Int) := by omega
        clear hb hx hz lj
        by_cases ho : (k : Int) < (n1 : Int)
        · have E := Lib.hid (fun W => szNd_over A1 n1 c1 kd a bb (k : Int) (by omega) (by omega) hle ho W)
          have HE := Lib.hid (show r = -1 by
            have q1 := HQ.out
            have q2 := HQ2.out
            have q3 := HK.out
            have q4 := HL0.out
            have q5 := HZ.out
            dsimp only at q1
            rw [← HR.out, if_pos (by omega)])
          clear ho hle
          go_wp2_with fail
          refine (E.out _).mono ?_
          rintro e w2 ⟨rfl, hb2⟩
          have B2 := Lib.hid (below_chain HB.out hb2)
          clear hb2
          go_wp2
          go_ret
          exact ⟨congrArg (fun x => Ending.returned (Value.int .i64 x)) HE.out.symm, B2.out⟩
        · have E := Lib.hid (fun W => szNd_in A1 n1 c1 kd a bb (k : Int) (by omega) (by omega) hle ho W)
          obtain ⟨k2, hk2⟩ : ∃ k2 : Nat, (k : Int) - (n1 : Int) = (k2 : Int) := ⟨((k : Int) - n1).toNat, by omega⟩
          have hd2 : decide ((k2 : Int) < 0) = false := by simp
          have HK2 := Lib.hid (show k2 + outSum (gs.take (j + 1)) = l0 by
            have q1 := HQ.out
            have q3 := HK.out
            have q5 := HZ.out
            dsimp only at q1
            omega)
          have E' := Lib.hid (show ∀ W, Calls Try.prog 94 #[.agg #[.int .i64 kd, .int .i64 a, .int .i64 bb, .slice A1 n1 c1], .int .i64 (k : Int)] W fun e w' => e = .returned (.int .i64 (k2 : Int)) ∧ Below W.heap.size W w' by rw [← hk2]; exact E.out)
          clear ho hle hk2 E
          go_wp2_with fail
          refine (E'.out _).mono ?_
          rintro e w2 ⟨rfl, hb2⟩
          have B2 := Lib.hid (below_chain HB.out hb2)
          clear hb2
          go_wp2
          go_roundw
          case rel => exact ⟨j + 1, k2, by omega, by go_num, rfl, HK2.out, B2.out⟩
          case measure => simp [intOf]; omega
      · have hjn2 : j = n := by omega
        have HE := Lib.hid (show r = (k : Int) by
          have q3 := HK.out
          have q4 := HL0.out
          rw [List.take_of_length_le (by rw [HL.out]; omega)] at q3
          rw [← HR.out, if_neg (by omega)]
          omega)
        clear hb hjn2
        go_wp2
        go_ret
        exact ⟨congrArg (fun x => Ending.returned (Value.int .i64 x)) HE.out.symm, HB.out⟩

def nv0 : Nv := (0, 0, 0, none, 0, 0)

theorem nvinfo : (Try.prog.info? 46).map (fun i => (i.zero, i.size, i.bytes)) = some (some (.agg #[.int .i64 0, .int .i64 0, .int .i64 0, .slice none 0 0]), 4, 48) := by kernel_rfl

theorem nvCells_made (n : Nat) : (madeCells #[.int .i64 0, .int .i64 0, .int .i64 0, .slice none 0 0] (n * 4)).toList = nvCells (List.replicate n nv0) := by
  apply List.ext_getElem?
  intro i
  have hl : (nvCells (List.replicate n nv0)).length = n * 4 := by rw [nvCells_length]; simp
  by_cases hi : i < n * 4
  · have hm : i % 4 = 0 ∨ i % 4 = 1 ∨ i % 4 = 2 ∨ i % 4 = 3 := by omega
    have hj : i / 4 < (List.replicate n nv0).length := by simp; omega
    obtain ⟨e0, e1, e2, e3⟩ := nvCells_at (List.replicate n nv0) (i / 4) hj
    have hL : (madeCells #[.int .i64 0, .int .i64 0, .int .i64 0, .slice none 0 0] (n * 4)).toList[i]? = some ((#[.int .i64 0, .int .i64 0, .int .i64 0, .slice none 0 0] : Array Value)[i % 4]!) := by
      simp only [madeCells, Array.toList_map, Array.toList_range, List.getElem?_map, List.getElem?_range hi, Option.map_some]
      rcases hm with h | h | h | h <;> simp [h]
    rw [hL]
    rcases hm with h | h | h | h
    · rw [show i / 4 * 4 = i by omega] at e0; rw [e0]; simp [h, nv0]
    · rw [show i / 4 * 4 + 1 = i by omega] at e1; rw [e1]; simp [h, nv0]
    · rw [show i / 4 * 4 + 2 = i by omega] at e2; rw [e2]; simp [h, nv0]
    · rw [show i / 4 * 4 + 3 = i by omega] at e3; rw [e3]; simp [h, nv0]
  · rw [List.getElem?_eq_none (by simp [size_madeCells]; omega), List.getElem?_eq_none (by omega)]

/-- A store of one node into an owned row. -/
theorem own_stored_nv {w : World} {base e g n cap : Nat} {vs : List Nv} (h : w.ownsRow base e 4 (.slice (some ⟨g, 0, none⟩) n cap) n (nvCells vs)) (k : Nat) (p q r : Int) (A : Option Addr) (m c : Nat) :
    ((((w.setCell ⟨g, k * 4, none⟩ (.int .i64 p)).setCell ⟨g, k * 4 + 1, none⟩ (.int .i64 q)).setCell ⟨g, k * 4 + 2, none⟩ (.int .i64 r)).setCell ⟨g, k * 4 + 3, none⟩ (.slice A m c)).ownsRow base e 4 (.slice (some ⟨g, 0, none⟩) n cap) n (nvCells (vs.set k (p, q, r, A, m, c))) ∧
    w.grownBy ((((w.setCell ⟨g, k * 4, none⟩ (.int .i64 p)).setCell ⟨g, k * 4 + 1, none⟩ (.int .i64 q)).setCell ⟨g, k * 4 + 2, none⟩ (.int .i64 r)).setCell ⟨g, k * 4 + 3, none⟩ (.slice A m c)) (some g) := by
  have s0 := h.stored (k * 4) (.int .i64 p)
  have s1 := s0.1.stored (k * 4 + 1) (.int .i64 q)
  have s2 := s1.1.stored (k * 4 + 2) (.int .i64 r)
  have s3 := s2.1.stored (k * 4 + 3) (.slice A m c)
  have hl := s3.1
  rw [nvCells_set] at hl
  exact ⟨hl, grown_trans (grown_trans (grown_trans s0.2 s1.2) s2.2) s3.2⟩

theorem fill_step_nv {vs : List Nv} {v : Nv} {k n : Nat} (hk : k < n) (hl : vs.length = k) : (vs ++ List.replicate (n - k) nv0).set k v = (vs ++ [v]) ++ List.replicate (n - (k + 1)) nv0 := by
  rw [List.set_append_right _ _ (by omega), hl, Nat.sub_self, show n - k = (n - (k + 1)) + 1 by omega, List.replicate_succ, List.set_cons_zero]
  simp only [List.append_assoc, List.singleton_append]

theorem row_beside {w : World} {lo hi e size n c : Nat} {A : Option Addr} {xs : List Value} (h : Row w lo hi e size A n c xs) {w' : World} {g : Nat} (hg : w.grownBy w' (some g)) (hd : g < lo ∨ hi ≤ g) : Row w' lo hi e size A n c xs :=
  h.wrote (lo' := g) (hi' := g + 1) ⟨some g, hg, fun x hx => by cases hx; omega⟩ (by omega)

/-- The rows behind the first k nodes' slices. -/
def Inner (w : World) (k : Nat) (gs : List Nd) (vs : List Nv) (f : Nat → Nat) : Prop :=
  (∀ i (h1 : i < vs.length) (h2 : i < gs.length), vs[i].1 = gs[i].1 ∧ vs[i].2.1 = gs[i].2.1 ∧ vs[i].2.2.1 = gs[i].2.2.1 ∧ vs[i].2.2.2.2.1 = gs[i].2.2.2.length) ∧
  (∀ i (h1 : i < vs.length) (h2 : i < gs.length), Row w (f i) (f (i + 1)) 3 1 vs[i].2.2.2.1 gs[i].2.2.2.length vs[i].2.2.2.2.2 (isCells gs[i].2.2.2)) ∧
  (∀ i, i < k → f i ≤ f (i + 1))

theorem mono_le {f : Nat → Nat} {k : Nat} (h : ∀ i, i < k → f i ≤ f (i + 1)) : ∀ i j, i ≤ j → j ≤ k → f i ≤ f j := by
  intro i j hij hj
  induction j with
  | zero => obtain rfl : i = 0 := by omega
            exact Nat.le_refl _
  | succ j ih =>
    by_cases e : i = j + 1
    · subst e; exact Nat.le_refl _
    · exact Nat.le_trans (ih (by omega) (by omega)) (h j (by omega))

/-- One more node's row, behind those that are there; the nodes' own row, below them all, written. -/
theorem inner_put {w w2 w3 : World} {k g : Nat} {gs : List Nd} {vs : List Nv} {f : Nat → Nat} {x : Nd} {A1 : Option Addr} {c1 : Nat} (h : Inner w k gs vs f) (hk : vs.length = k) (hg : k < gs.length) (hx : gs[k] = x)
    (hb : Below w.heap.size w w2) (hr : Row w2 w.heap.size w2.heap.size 3 1 A1 x.2.2.2.length c1 (isCells x.2.2.2)) (hf : f k ≤ w.heap.size) (hg0 : g < f 0) (hw : w2.grownBy w3 (some g)) :
    Inner w3 (k + 1) gs (vs ++ [(x.1, x.2.1, x.2.2.1, A1, x.2.2.2.length, c1)]) (fun i => if i ≤ k then f i else w2.heap.size) := by
  obtain ⟨h1, h2, h3⟩ := h
  have hm := mono_le h3
  have hgk : g < f k := Nat.lt_of_lt_of_le hg0 (hm 0 k (Nat.zero_le _) (Nat.le_refl _))
  refine ⟨fun i i1 i2 => ?_, fun i i1 i2 => ?_, fun i hi => ?_⟩
  · by_cases e : i < vs.length
    · rw [List.getElem_append_left e]; exact h1 i e i2
    · obtain rfl : i = vs.length := by simp at i1; omega
      subst hk
      simp [hx]
  · by_cases e : i < vs.length
    · rw [List.getElem_append_left e]
      have hi1 : i ≤ k := by omega
      have hi2 : i + 1 ≤ k := by omega
      simp only [if_pos hi1, if_pos hi2]
      exact row_beside ((h2 i e i2).below hb) hw (.inl (Nat.lt_of_lt_of_le hg0 (hm 0 i (Nat.zero_le _) hi1)))
    · obtain rfl : i = vs.length := by simp at i1; omega
      subst hk
      have hi2 : ¬ vs.length + 1 ≤ vs.length := by omega
      simp only [Nat.le_refl, if_true, if_neg hi2]
      have hr2 : Row w2 (f vs.length) w2.heap.size 3 1 A1 x.2.2.2.length c1 (isCells x.2.2.2) := ⟨own_base hr.own hf, hr.lt⟩
      simpa [hx] using row_beside hr2 hw (.inl hgk)
  · by_cases e : i + 1 ≤ k
    · simp only [if_pos e, if_pos (show i ≤ k by omega)]
      exact h3 i (by omega)
    · have hi1 : i ≤ k := by omega
      simp only [if_pos hi1, if_neg e]
      obtain rfl : i = k := by omega
      exact Nat.le_trans hf hb.size

set_option maxRecDepth 100000 in
set_option maxHeartbeats 1000000 in
theorem toNds_row (n : Nat) (gs : List Nd) (hl : gs.length = n) (A : Option Addr) (c : Nat) (w : World) (h : Nds w A gs) (hn : n ≤ 1048576) (hs : ∀ x ∈ gs, x.2.2.2.length ≤ 1048576) :
    Calls Try.prog 66 #[.slice A n c] w fun e w' => ∃ A1 c1 vs f, e = .returned (.slice A1 n c1) ∧ GrRows w' w.heap.size w'.heap.size A1 n c1 gs vs f ∧ Below w.heap.size w w' := by
  obtain ⟨i0, hi, hz0, hz1, hz2⟩ := info_parts nvinfo
  have H := Lib.hid h
  have HL := Lib.hid hl
  have HS := Lib.hid hs
  clear h hl hs
  go_enter Try.func66, Try.ntmps66
  go_wp2_with (at_make; refine wpList_make_full _ rfl _ _ 24 rfl w.heap.size 46 i0 (.agg #[.int .i64 0, .int .i64 0, .int .i64 0, .slice none 0 0]) 4 Try.underlying24 hi hz0 hz1 .i64 .i64 _ _ n rfl rfl rfl rfl (by rw [hz2]; omega) (by unfold maxLen; omega) (Nat.le_refl _) ?_; intro w1 hown1 hg1)
  have B1 := Lib.hid ((Below.refl w.heap.size w).grown hg1 (Nat.le_refl _) (fun k hk => by simp at hk))
  have hc1 : (madeCells (Value.agg #[.int .i64 0, .int .i64 0, .int .i64 0, .slice none 0 0]).cells (n * 4)).toList = nvCells (List.replicate n nv0) := nvCells_made n
  rw [hc1] at hown1
  have O1 := Lib.hid hown1
  have Z1 := Lib.hid (own_lt hown1)
  clear hown1 hg1 hc1
  go_wp2
  go_loopw [4] (fun i wr => ∃ (k : Nat) (vs : List Nv) (f : Nat → Nat), k ≤ n ∧ i = .int .i64 (k : Int) ∧ vs.length = k ∧ f 0 = w.heap.size + 1 ∧ f k ≤ wr.heap.size ∧ Inner wr k gs vs f ∧ wr.ownsRow w.heap.size 46 4 (.slice (some ⟨w.heap.size, 0, none⟩) n n) n (nvCells (vs ++ List.replicate (n - k) nv0)) ∧ Below w.heap.size w wr) (fun i _ => n - (intOf i).toNat)
  case atStart => exact ⟨0, [], fun _ => w.heap.size + 1, Nat.zero_le _, rfl, rfl, rfl, Z1.out, ⟨fun i h => absurd h (by simp), fun i h => absurd h (by simp), fun i h => absurd h (by omega)⟩, by simpa using O1.out, B1.out⟩
  case round =>
    obtain ⟨k, vs, f, hk, rfl, hv, hf0, hfk, hin, hown, hb⟩ := hrel
    have HO := Lib.hid hown
    have HB := Lib.hid hb
    have HV := Lib.hid hv
    have HF := Lib.hid hf0
    have HI := Lib.hid hin
    clear O1 B1 Z1 hown hv hf0 hin
    by_cases hlt : k < n
    · have l1 : k < gs.length := by rw [HL.out]; exact hlt
      obtain ⟨b1, o1, kd, a, bb, zs, A1, n1, c1, rfl, x1, hz, _, hnd, e0, e1, e2, e3⟩ := (H.out.below hb).at l1
      have X1 := Lib.hid x1
      have HZ := Lib.hid hz
      have HN := Lib.hid hnd
      have hn1 : n1 ≤ 1048576 := by have := HS.out _ (List.getElem_mem l1); rw [x1] at this; rw [← hz]; exact this
      have i0' : (0 : Int) ≤ (k : Int) := by omega
      have i1 : (k : Int) < (n : Int) := by omega
      clear hb x1 hz hnd
      go_wp2_with fail
      refine (toNd_row A1 n1 c1 zs HZ.out kd a bb _ HN.out hn1).mono ?_
      rintro e w2 ⟨A2, c2, rfl, hr, hb2⟩
      have HR := Lib.hid hr
      have HB2 := Lib.hid hb2
      have o2 := own_below HO.out hb2
      have st := own_stored_nv o2 k kd a bb A2 n1 c2
      rw [fill_step_nv hlt HV.out] at st
      have ST := Lib.hid st.1
      have SG := Lib.hid st.2
      obtain ⟨u0, cu0⟩ : ∃ u, w2.cell? ⟨w.heap.size, k * 4, none⟩ = some u := ⟨_, by rw [o2.cellAt (k * 4) (by omega)]; exact List.getElem?_eq_getElem (by rw [o2.1]; omega)⟩
      obtain ⟨u1, cu1⟩ : ∃ u, w2.cell? ⟨w.heap.size, k * 4 + 1, none⟩ = some u := ⟨_, by rw [o2.cellAt (k * 4 + 1) (by omega)]; exact List.getElem?_eq_getElem (by rw [o2.1]; omega)⟩
      obtain ⟨u2, cu2⟩ : ∃ u, w2.cell? ⟨w.heap.size, k * 4 + 2, none⟩ = some u := ⟨_, by rw [o2.cellAt (k * 4 + 2) (by omega)]; exact List.getElem?_eq_getElem (by rw [o2.1]; omega)⟩
      obtain ⟨u3, cu3⟩ : ∃ u, w2.cell? ⟨w.heap.size, k * 4 + 3, none⟩ = some u := ⟨_, by rw [o2.cellAt (k * 4 + 3) (by omega)]; exact List.getElem?_eq_getElem (by rw [o2.1]; omega)⟩
      have fr0 := o2.frozenAt (k * 4)
      have fr1 := o2.frozenAt (k * 4 + 1)
      have fr2 := o2.frozenAt (k * 4 + 2)
      have fr3 := o2.frozenAt (k * 4 + 3)
      clear o2 st hr hb2
      go_wp2_with fail
      generalize hV : (((w2.setCell _ _).setCell _ _).setCell _ _).setCell _ _ = V
      have ST2 := Lib.hid (show V.ownsRow w.heap.size 46 4 (.slice (some ⟨w.heap.size, 0, none⟩) n n) n (nvCells ((vs ++ [(kd, a, bb, A2, n1, c2)]) ++ List.replicate (n - (k + 1)) nv0)) by rw [← hV]; exact ST.out)
      have SG2 := Lib.hid (show w2.grownBy V (some w.heap.size) by rw [← hV]; exact SG.out)
      have B3 := Lib.hid ((below_chain HB.out HB2.out).grown SG2.out (below_chain HB.out HB2.out).size (fun j hj => by simp at hj; omega))
      have HI2 := Lib.hid (inner_put HI.out HV.out (show k < gs.length by rw [HL.out]; exact hlt) X1.out HB2.out (by simpa [HZ.out] using HR.out) hfk (by rw [HF.out]; omega) SG2.out)
      have HSZ := Lib.hid SG2.out.size
      have HF2 := Lib.hid (show (fun i => if i ≤ k then f i else w2.heap.size) 0 = w.heap.size + 1 by simp [HF.out])
      have HF3 := Lib.hid (show (fun i => if i ≤ k then f i else w2.heap.size) (k + 1) ≤ V.heap.size by
        show (if k + 1 ≤ k then f (k + 1) else w2.heap.size) ≤ V.heap.size
        rw [if_neg (by omega)]
        exact HSZ.out)
      have HV2 := Lib.hid (show (vs ++ [(kd, a, bb, A2, n1, c2)]).length = k + 1 by simp [HV.out])
      have HI3 := Lib.hid (show Inner V (k + 1) gs (vs ++ [(kd, a, bb, A2, n1, c2)]) (fun i => if i ≤ k then f i else w2.heap.size) by simpa [HZ.out] using HI2.out)
      clear hV HI2
      go_roundw
      case rel => exact ⟨k + 1, vs ++ [(kd, a, bb, A2, n1, c2)], (fun i => if i ≤ k then f i else w2.heap.size), by omega, by go_num, HV2.out, HF2.out, HF3.out, HI3.out, ST2.out, B3.out⟩
      case measure => simp [intOf]; omega
    · have hkn : k = n := by omega
      subst hkn
      have HO2 := Lib.hid (show wr.ownsRow w.heap.size 46 4 (.slice (some ⟨w.heap.size, 0, none⟩) k k) k (nvCells vs) by
        have h3 := HO.out
        rw [Nat.sub_self] at h3
        simpa using h3)
      clear hb
      go_wp2
      go_ret
      exact ⟨_, _, vs, f, rfl, ⟨HL.out, HV.out, ⟨own_base HO2.out (Nat.le_refl _), fun g hg => by
        simp only [Value.ownBlock, Option.some.injEq] at hg
        rw [HF.out]
        omega⟩, HI.out.1, HI.out.2.1, HI.out.2.2, hfk, by rw [HF.out]; omega⟩, HB.out⟩

end Go.Proofs.Ytbbagpnjjjohpaa.hexes

