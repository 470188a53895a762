/-
  SameGraph on both sides.
-/
import Derived.Test.YtjplkoglibagkaaJ27

namespace Go.Proofs.Ytjplkoglibagkaa.hexes
open Go.RowKit

theorem take_step_nd {zs ys : List Nd} {k : Nat} (h1 : k < zs.length) (h2 : k < ys.length) (ht : zs.take k = ys.take k) (he : zs[k] = ys[k]) : zs.take (k + 1) = ys.take (k + 1) := by
  rw [List.take_succ_eq_append_getElem h1, List.take_succ_eq_append_getElem h2, ht, he]

set_option maxRecDepth 100000 in
set_option maxHeartbeats 2000000 in
theorem equalNd_same (n : Nat) (gs hs : List Nd) (hz : gs.length = n) (hy : hs.length = n) (ho : ∀ x ∈ gs, x.2.2.2.length ≤ 1048576) (A1 A2 : Option Addr) (c1 c2 : Nat) (w : World) (h1 : Nds w A1 gs) (h2 : Nds w A2 hs) (hn : n ≤ 1048576) :
    Calls Try.prog 57 #[.slice A1 n c1, .slice A2 n c2, .func (.func 58) #[] #[]] w fun e w' => e = .returned (.bool (decide (gs = hs))) ∧ Below w.heap.size w w' := by
  have H1 := Lib.hid h1
  have H2 := Lib.hid h2
  have HZ := Lib.hid hz
  have HY := Lib.hid hy
  have HO := Lib.hid ho
  clear h1 h2 hz hy ho
  go_enter Try.func57, Try.ntmps57
  go_wp2
  go_loopw [17] (fun i wr => ∃ k : Nat, k ≤ n ∧ i = .int .i64 (k : Int) ∧ gs.take k = hs.take k ∧ Below w.heap.size w wr) (fun i _ => n - (intOf i).toNat)
  case atStart => exact ⟨0, Nat.zero_le _, rfl, rfl, Below.refl _ _⟩
  case round =>
    obtain ⟨k, hk, rfl, ht, hb⟩ := hrel
    have HT := Lib.hid ht
    have HB := Lib.hid hb
    have N1 := Lib.hid (H1.out.below hb)
    have N2 := Lib.hid (H2.out.below hb)
    clear ht hb
    by_cases hlt : k < n
    · have l1 : k < gs.length := by rw [HZ.out]; exact hlt
      have l2 : k < hs.length := by rw [HY.out]; exact hlt
      obtain ⟨b, off, k1, a1, bb1, zs1, S1, m1, d1, rfl, hx, hz, hc1, hin, e0, e1, e2, e3⟩ := N1.out.at l1
      obtain ⟨b', off', k2, a2, bb2, zs2, S2, m2, d2, rfl, hx', hz', hc2, hin', e0', e1', e2', e3'⟩ := N2.out.at l2
      have X1 := Lib.hid hx
      have X2 := Lib.hid hx'
      have hm1 : m1 ≤ 4194304 := by have := HO.out _ (List.getElem_mem l1); rw [hx] at this; rw [← hz]; exact Nat.le_trans this (by omega)
      obtain ⟨V, hV⟩ : ∃ V, wr.alloc (.cells #[.int .i64 k1, .int .i64 a1, .int .i64 bb1, .slice S1 m1 d1] 37) = V := ⟨_, rfl⟩
      have BV := Lib.hid (show Below wr.heap.size wr V by rw [← hV]; exact (Below.refl _ _).alloc (Nat.le_refl _) _)
      have KV := Lib.hid (show Blk V wr.heap.size 37 #[.int .i64 k1, .int .i64 a1, .int .i64 bb1, .slice S1 m1 d1] by rw [← hV]; exact Blk.new _ _ _)
      obtain ⟨U, hU⟩ : ∃ U, V.alloc (.cells #[.int .i64 k2, .int .i64 a2, .int .i64 bb2, .slice S2 m2 d2] 37) = U := ⟨_, rfl⟩
      have BU := Lib.hid (show Below V.heap.size V U by rw [← hU]; exact (Below.refl _ _).alloc (Nat.le_refl _) _)
      have KU := Lib.hid (show Blk U V.heap.size 37 #[.int .i64 k2, .int .i64 a2, .int .i64 bb2, .slice S2 m2 d2] by rw [← hU]; exact Blk.new _ _ _)
      have KVU := Lib.hid (KV.out.below BU.out)
      have v0 := below_keep BV.out e0'
      have v1 := below_keep BV.out e1'
      have v2 := below_keep BV.out e2'
      have v3 := below_keep BV.out e3'
      have u0 : U.cell? ⟨wr.heap.size, 0, none⟩ = some (.int .i64 k1) := by rw [KVU.out.cell]; rfl
      have u1 : U.cell? ⟨wr.heap.size, 1, none⟩ = some (.int .i64 a1) := by rw [KVU.out.cell]; rfl
      have u2 : U.cell? ⟨wr.heap.size, 2, none⟩ = some (.int .i64 bb1) := by rw [KVU.out.cell]; rfl
      have u3 : U.cell? ⟨wr.heap.size, 3, none⟩ = some (.slice S1 m1 d1) := by rw [KVU.out.cell]; rfl
      have t0 : U.cell? ⟨V.heap.size, 0, none⟩ = some (.int .i64 k2) := by rw [KU.out.cell]; rfl
      have t1 : U.cell? ⟨V.heap.size, 1, none⟩ = some (.int .i64 a2) := by rw [KU.out.cell]; rfl
      have t2 : U.cell? ⟨V.heap.size, 2, none⟩ = some (.int .i64 bb2) := by rw [KU.out.cell]; rfl
      have t3 : U.cell? ⟨V.heap.size, 3, none⟩ = some (.slice S2 m2 d2) := by rw [KU.out.cell]; rfl
      obtain ⟨s, hs'⟩ : ∃ s, sameN k1 a1 bb1 zs1 k2 a2 bb2 zs2 = s := ⟨_, rfl⟩
      have E := Lib.hid (same_is hz hz' hs' S1 S2 d1 d2 U ((hin.below BV.out).below BU.out) ((hin'.below BV.out).below BU.out) hm1)
      have BWU := Lib.hid (below_chain HB.out (below_chain BV.out BU.out))
      have i0 : (0 : Int) ≤ (k : Int) := by omega
      have i1 : (k : Int) < (n : Int) := by omega
      cases s with
      | true =>
        have HT2 := Lib.hid (take_step_nd l1 l2 HT.out (by rw [X1.out, X2.out]; exact sameN_iff.1 hs'))
        clear HT X1 X2 l1 l2 hx hx' hz hz' hin hin' hs'
        go_wp2_with fail
        refine E.out.mono ?_
        rintro e w2 ⟨rfl, hb⟩
        have B2 := Lib.hid (below_chain BWU.out hb)
        clear hb e0 e1 e2 e3 e0' e1' e2' e3' v0 v1 v2 v3 u0 u1 u2 u3 t0 t1 t2 t3 hV hU
        go_wp2
        go_roundw
        case rel => exact ⟨k + 1, by omega, by go_num, HT2.out, B2.out⟩
        case measure => simp [intOf]; omega
      | false =>
        have HN := Lib.hid (show decide (gs = hs) = false by
          simp only [decide_eq_false_iff_not]
          rintro rfl
          have := sameN_iff.2 (X1.out.symm.trans X2.out)
          rw [hs'] at this
          cases this)
        clear HT X1 X2 l1 l2 hx hx' hz hz' hin hin' hs'
        go_wp2_with fail
        refine E.out.mono ?_
        rintro e w2 ⟨rfl, hb⟩
        have B2 := Lib.hid (below_chain BWU.out hb)
        clear hb e0 e1 e2 e3 e0' e1' e2' e3' v0 v1 v2 v3 u0 u1 u2 u3 t0 t1 t2 t3 hV hU
        go_wp2
        go_ret
        exact ⟨congrArg (fun b => Ending.returned (Value.bool b)) HN.out.symm, B2.out⟩
    · have heq : gs = hs := by
        have h3 := HT.out
        rw [List.take_of_length_le (by rw [HZ.out]; omega), List.take_of_length_le (by rw [HY.out]; omega)] at h3
        exact h3
      have HD := Lib.hid (show decide (gs = hs) = true by simp [heq])
      clear heq HT
      go_wp2
      go_ret
      exact ⟨congrArg (fun b => Ending.returned (Value.bool b)) HD.out.symm, HB.out⟩

theorem equalNd_is {n m : Nat} {gs hs : List Nd} (hz : gs.length = n) (hy : hs.length = m) (ho : ∀ x ∈ gs, x.2.2.2.length ≤ 1048576) {r : Bool} (hr : decide (gs = hs) = r) (A1 A2 : Option Addr) (c1 c2 : Nat) (w : World) (h1 : Nds w A1 gs) (h2 : Nds w A2 hs) (hn : n ≤ 1048576) :
    Calls Try.prog 57 #[.slice A1 n c1, .slice A2 m c2, .func (.func 58) #[] #[]] w fun e w' => e = .returned (.bool r) ∧ Below w.heap.size w w' := by
  rw [← hr]
  by_cases h : n = m
  · subst h
    exact equalNd_same n gs hs hz hy ho A1 A2 c1 c2 w h1 h2 hn
  · have hd : decide (gs = hs) = false := by
      simp only [decide_eq_false_iff_not]
      rintro rfl
      omega
    rw [hd]
    have hc : ((n : Int) != (m : Int)) = true := by simp; omega
    clear hz hy h1 h2 hd hr ho
    go_enter Try.func57, Try.ntmps57
    go_wp2
    go_ret
    exact ⟨rfl, Below.refl _ _⟩

def sameG (gs hs : List Nd) (wk cp wk' cp' : Int) : Bool := decide (gs = hs) && (wk == wk') && (cp == cp')

set_option maxRecDepth 100000 in
set_option maxHeartbeats 2000000 in
theorem implSameG_is {gs hs : List Nd} {wk cp wk' cp' : Int} {n n' : Nat} (hz : gs.length = n) (hy : hs.length = n') (ho : ∀ x ∈ gs, x.2.2.2.length ≤ 1048576) {r : Bool} (hr : sameG gs hs wk cp wk' cp' = r) (A A' : Option Addr) (c c' : Nat) (w : World) (h1 : Nds w A gs) (h2 : Nds w A' hs) (hn : n ≤ 1048576) :
    Calls Try.prog 27 #[.agg #[.slice A n c, .int .i64 wk, .int .i64 cp], .agg #[.slice A' n' c', .int .i64 wk', .int .i64 cp']] w fun e w' => e = .returned (.bool r) ∧ Below w.heap.size w w' := by
  obtain ⟨W, hW⟩ : ∃ W, (w.alloc (.cells #[.slice A n c, .int .i64 wk, .int .i64 cp] 26)).alloc (.cells #[.slice A' n' c', .int .i64 wk', .int .i64 cp'] 26) = W := ⟨_, rfl⟩
  have BW := Lib.hid (show Below w.heap.size w W by rw [← hW]; exact (((Below.refl w.heap.size w).alloc (Nat.le_refl _) _).alloc (by simp) _))
  have K1 := Lib.hid (show Blk W w.heap.size 26 #[.slice A n c, .int .i64 wk, .int .i64 cp] by rw [← hW]; exact (Below.heap_alloc _ _ _ (by simp)).trans (Blk.new _ _ _))
  have K2 := Lib.hid (show Blk W (w.heap.size + 1) 26 #[.slice A' n' c', .int .i64 wk', .int .i64 cp'] by rw [← hW]; exact (show w.heap.size + 1 = (w.alloc _).heap.size by simp) ▸ Blk.new _ _ _)
  have x0 : W.cell? ⟨w.heap.size, 0, none⟩ = some (.slice A n c) := by rw [K1.out.cell]; rfl
  have y0 : W.cell? ⟨w.heap.size + 1, 0, none⟩ = some (.slice A' n' c') := by rw [K2.out.cell]; rfl
  obtain ⟨s, hs'⟩ : ∃ s, decide (gs = hs) = s := ⟨_, rfl⟩
  have E := Lib.hid (equalNd_is hz hy ho hs' A A' c c' W (h1.below BW.out) (h2.below BW.out) hn)
  unfold sameG at hr
  rw [hs'] at hr
  have HR := Lib.hid hr
  clear h1 h2 hz hy hr hs' ho
  go_enter Try.func27, Try.ntmps27
  go_wp2_with fail
  refine E.out.mono ?_
  rintro e w1 ⟨rfl, hb⟩
  have B1 := Lib.hid (below_chain BW.out hb)
  have Q1 := Lib.hid (K1.out.below hb)
  have Q2 := Lib.hid (K2.out.below hb)
  clear hb x0 y0 hW
  have x1 : w1.cell? ⟨w.heap.size, 1, none⟩ = some (.int .i64 wk) := by rw [Q1.out.cell]; rfl
  have x2 : w1.cell? ⟨w.heap.size, 2, none⟩ = some (.int .i64 cp) := by rw [Q1.out.cell]; rfl
  have y1 : w1.cell? ⟨w.heap.size + 1, 1, none⟩ = some (.int .i64 wk') := by rw [Q2.out.cell]; rfl
  have y2 : w1.cell? ⟨w.heap.size + 1, 2, none⟩ = some (.int .i64 cp') := by rw [Q2.out.cell]; rfl
  cases s with
  | false =>
    have HE := Lib.hid (show r = false by rw [← HR.out]; rfl)
    go_wp2
    go_ret
    exact ⟨congrArg (fun b => Ending.returned (Value.bool b)) HE.out.symm, B1.out⟩
  | true =>
  cases d1 : (wk == wk') with
  | false =>
    have HE := Lib.hid (show r = false by rw [← HR.out, d1]; rfl)
    go_wp2
    go_ret
    exact ⟨congrArg (fun b => Ending.returned (Value.bool b)) HE.out.symm, B1.out⟩
  | true =>
  cases d2 : (cp == cp') with
  | false =>
    have HE := Lib.hid (show r = false by rw [← HR.out, d1, d2]; rfl)
    go_wp2
    go_ret
    exact ⟨congrArg (fun b => Ending.returned (Value.bool b)) HE.out.symm, B1.out⟩
  | true =>
    have HE := Lib.hid (show r = true by rw [← HR.out, d1, d2]; rfl)
    go_wp2
    go_ret
    exact ⟨congrArg (fun b => Ending.returned (Value.bool b)) HE.out.symm, B1.out⟩

set_option maxRecDepth 100000 in
set_option maxHeartbeats 8000000 in
theorem specSameG_is {gs hs : List Nd} {wk cp wk' cp' : Int} {n n' : Nat} (hz : gs.length = n) (hy : hs.length = n') (ho : ∀ x ∈ gs, x.2.2.2.length ≤ 1048576) {r : Bool} (hr : sameG gs hs wk cp wk' cp' = r) (A A' : Option Addr) (c c' : Nat) (w : World) (h1 : Nds w A gs) (h2 : Nds w A' hs) (hn : n ≤ 1048576) :
    Calls Try.prog 39 #[.agg #[.slice A n c, .int .i64 wk, .int .i64 cp], .agg #[.slice A' n' c', .int .i64 wk', .int .i64 cp']] w fun e w' => e = .returned (.bool r) ∧ Below w.heap.size w w' := by
  obtain ⟨W, hW⟩ : ∃ W, (w.alloc (.cells #[.slice A n c, .int .i64 wk, .int .i64 cp] 26)).alloc (.cells #[.slice A' n' c', .int .i64 wk', .int .i64 cp'] 26) = W := ⟨_, rfl⟩
  have BW := Lib.hid (show Below w.heap.size w W by rw [← hW]; exact (((Below.refl w.heap.size w).alloc (Nat.le_refl _) _).alloc (by simp) _))
  have K1 := Lib.hid (show Blk W w.heap.size 26 #[.slice A n c, .int .i64 wk, .int .i64 cp] by rw [← hW]; exact (Below.heap_alloc _ _ _ (by simp)).trans (Blk.new _ _ _))
  have K2 := Lib.hid (show Blk W (w.heap.size + 1) 26 #[.slice A' n' c', .int .i64 wk', .int .i64 cp'] by rw [← hW]; exact (show w.heap.size + 1 = (w.alloc _).heap.size by simp) ▸ Blk.new _ _ _)
  have x0 : W.cell? ⟨w.heap.size, 0, none⟩ = some (.slice A n c) := by rw [K1.out.cell]; rfl
  have x1 : W.cell? ⟨w.heap.size, 1, none⟩ = some (.int .i64 wk) := by rw [K1.out.cell]; rfl
  have x2 : W.cell? ⟨w.heap.size, 2, none⟩ = some (.int .i64 cp) := by rw [K1.out.cell]; rfl
  have y0 : W.cell? ⟨w.heap.size + 1, 0, none⟩ = some (.slice A' n' c') := by rw [K2.out.cell]; rfl
  have y1 : W.cell? ⟨w.heap.size + 1, 1, none⟩ = some (.int .i64 wk') := by rw [K2.out.cell]; rfl
  have y2 : W.cell? ⟨w.heap.size + 1, 2, none⟩ = some (.int .i64 cp') := by rw [K2.out.cell]; rfl
  have H1 := Lib.hid (h1.below BW.out)
  have H2 := Lib.hid (h2.below BW.out)
  have HZ := Lib.hid hz
  have HY := Lib.hid hy
  have HO := Lib.hid ho
  have HR := Lib.hid hr
  clear h1 h2 hr ho
  cases d1 : (wk == wk') with
  | false =>
    have HE := Lib.hid (show r = false by rw [← HR.out]; unfold sameG; rw [d1]; simp)
    have d1' : (wk != wk') = true := by unfold bne; rw [d1]; rfl
    go_enter Try.func39, Try.ntmps39
    go_wp2
    go_ret
    exact ⟨congrArg (fun b => Ending.returned (Value.bool b)) HE.out.symm, BW.out⟩
  | true =>
  have d1' : (wk != wk') = false := by unfold bne; rw [d1]; rfl
  cases d2 : (cp == cp') with
  | false =>
    have HE := Lib.hid (show r = false by rw [← HR.out]; unfold sameG; rw [d2]; simp)
    have d2' : (cp != cp') = true := by unfold bne; rw [d2]; rfl
    go_enter Try.func39, Try.ntmps39
    go_wp2
    go_ret
    exact ⟨congrArg (fun b => Ending.returned (Value.bool b)) HE.out.symm, BW.out⟩
  | true =>
  have d2' : (cp != cp') = false := by unfold bne; rw [d2]; rfl
  have EA := Lib.hid (show decide (gs = hs) = r by rw [← HR.out]; unfold sameG; rw [d1, d2]; simp)
  by_cases hnn : n = n'
  · subst hnn
    clear hz hy
    go_enter Try.func39, Try.ntmps39
    go_wp2
    clear x0 x1 x2 y0 y1 y2 d1 d2 d1' d2' hW
    go_loopw [5] (fun i wr => ∃ k : Nat, k ≤ n ∧ i = .int .i64 (k : Int) ∧ gs.take k = hs.take k ∧ Below W.heap.size W wr) (fun i _ => n - (intOf i).toNat)
    case atStart => exact ⟨0, Nat.zero_le _, rfl, rfl, Below.refl _ _⟩
    case round =>
      obtain ⟨k, hk, rfl, ht, hb⟩ := hrel
      have HT := Lib.hid ht
      have HB := Lib.hid hb
      have N1 := Lib.hid (H1.out.below hb)
      have N2 := Lib.hid (H2.out.below hb)
      have Q1 := Lib.hid (K1.out.below hb)
      have Q2 := Lib.hid (K2.out.below hb)
      have x0 : wr.cell? ⟨w.heap.size, 0, none⟩ = some (.slice A n c) := by rw [Q1.out.cell]; rfl
      clear ht hb
      by_cases hlt : k < n
      · have l1 : k < gs.length := by rw [HZ.out]; exact hlt
        have l2 : k < hs.length := by rw [HY.out]; exact hlt
        obtain ⟨b, off, k1, a1, bb1, zs1, S1, m1, d1, rfl, hx, hz, hc1, hin, e0, e1, e2, e3⟩ := N1.out.at l1
        obtain ⟨b', off', k2, a2, bb2, zs2, S2, m2, d2, rfl, hx', hz', hc2, hin', e0', e1', e2', e3'⟩ := N2.out.at l2
        have X1 := Lib.hid hx
        have X2 := Lib.hid hx'
        have hm1 : m1 ≤ 4194304 := by have := HO.out _ (List.getElem_mem l1); rw [hx] at this; rw [← hz]; exact Nat.le_trans this (by omega)
        obtain ⟨V, hV⟩ : ∃ V, wr.alloc (.cells #[.int .i64 k1, .int .i64 a1, .int .i64 bb1, .slice S1 m1 d1] 37) = V := ⟨_, rfl⟩
        have BV := Lib.hid (show Below wr.heap.size wr V by rw [← hV]; exact (Below.refl _ _).alloc (Nat.le_refl _) _)
        have KV := Lib.hid (show Blk V wr.heap.size 37 #[.int .i64 k1, .int .i64 a1, .int .i64 bb1, .slice S1 m1 d1] by rw [← hV]; exact Blk.new _ _ _)
        have Q2V := Lib.hid (Q2.out.below BV.out)
        obtain ⟨U, hU⟩ : ∃ U, V.alloc (.cells #[.int .i64 k2, .int .i64 a2, .int .i64 bb2, .slice S2 m2 d2] 37) = U := ⟨_, rfl⟩
        have BU := Lib.hid (show Below V.heap.size V U by rw [← hU]; exact (Below.refl _ _).alloc (Nat.le_refl _) _)
        have KU := Lib.hid (show Blk U V.heap.size 37 #[.int .i64 k2, .int .i64 a2, .int .i64 bb2, .slice S2 m2 d2] by rw [← hU]; exact Blk.new _ _ _)
        have KVU := Lib.hid (KV.out.below BU.out)
        have v0 := below_keep BV.out e0'
        have v1 := below_keep BV.out e1'
        have v2 := below_keep BV.out e2'
        have v3 := below_keep BV.out e3'
        have y0 : V.cell? ⟨w.heap.size + 1, 0, none⟩ = some (.slice (some ⟨b', off', none⟩) n c') := by rw [Q2V.out.cell]; rfl
        have u0 : U.cell? ⟨wr.heap.size, 0, none⟩ = some (.int .i64 k1) := by rw [KVU.out.cell]; rfl
        have u1 : U.cell? ⟨wr.heap.size, 1, none⟩ = some (.int .i64 a1) := by rw [KVU.out.cell]; rfl
        have u2 : U.cell? ⟨wr.heap.size, 2, none⟩ = some (.int .i64 bb1) := by rw [KVU.out.cell]; rfl
        have u3 : U.cell? ⟨wr.heap.size, 3, none⟩ = some (.slice S1 m1 d1) := by rw [KVU.out.cell]; rfl
        have t0 : U.cell? ⟨V.heap.size, 0, none⟩ = some (.int .i64 k2) := by rw [KU.out.cell]; rfl
        have t1 : U.cell? ⟨V.heap.size, 1, none⟩ = some (.int .i64 a2) := by rw [KU.out.cell]; rfl
        have t2 : U.cell? ⟨V.heap.size, 2, none⟩ = some (.int .i64 bb2) := by rw [KU.out.cell]; rfl
        have t3 : U.cell? ⟨V.heap.size, 3, none⟩ = some (.slice S2 m2 d2) := by rw [KU.out.cell]; rfl
        obtain ⟨s, hs'⟩ : ∃ s, decide (zs1 = zs2) = s := ⟨_, rfl⟩
        have E := Lib.hid (l08Is_is hz hz' hs' S1 S2 d1 d2 U ((hin.below BV.out).below BU.out) ((hin'.below BV.out).below BU.out) hm1)
        have BWU := Lib.hid (below_chain HB.out (below_chain BV.out BU.out))
        have i0 : (0 : Int) ≤ (k : Int) := by omega
        have i1 : (k : Int) < (n : Int) := by omega
        have NO := Lib.hid (show sameN k1 a1 bb1 zs1 k2 a2 bb2 zs2 = false → r = false by
          intro h
          rw [← EA.out]
          simp only [decide_eq_false_iff_not]
          rintro rfl
          have := sameN_iff.2 (X1.out.symm.trans X2.out)
          rw [h] at this
          cases this)
        have YES := Lib.hid (show sameN k1 a1 bb1 zs1 k2 a2 bb2 zs2 = true → gs.take (k + 1) = hs.take (k + 1) from fun h => take_step_nd l1 l2 HT.out (by rw [X1.out, X2.out]; exact sameN_iff.1 h))
        have SN := Lib.hid (show sameN k1 a1 bb1 zs1 k2 a2 bb2 zs2 = ((k1 == k2) && (a1 == a2) && (bb1 == bb2) && s) by unfold sameN; rw [hs'])
        clear HT X1 X2 l1 l2 hx hx' hz hz' hin hin' hs'
        cases g0 : (k1 == k2) with
        | false =>
          have HE := Lib.hid (NO.out (by rw [SN.out, g0]; rfl))
          have g0' : (k1 != k2) = true := by unfold bne; rw [g0]; rfl
          go_wp2
          go_ret
          exact ⟨congrArg (fun b => Ending.returned (Value.bool b)) HE.out.symm, below_chain BW.out BWU.out⟩
        | true =>
        have g0' : (k1 != k2) = false := by unfold bne; rw [g0]; rfl
        cases g1 : (a1 == a2) with
        | false =>
          have HE := Lib.hid (NO.out (by rw [SN.out, g0, g1]; rfl))
          have g1' : (a1 != a2) = true := by unfold bne; rw [g1]; rfl
          go_wp2
          go_ret
          exact ⟨congrArg (fun b => Ending.returned (Value.bool b)) HE.out.symm, below_chain BW.out BWU.out⟩
        | true =>
        have g1' : (a1 != a2) = false := by unfold bne; rw [g1]; rfl
        cases g2 : (bb1 == bb2) with
        | false =>
          have HE := Lib.hid (NO.out (by rw [SN.out, g0, g1, g2]; rfl))
          have g2' : (bb1 != bb2) = true := by unfold bne; rw [g2]; rfl
          go_wp2
          go_ret
          exact ⟨congrArg (fun b => Ending.returned (Value.bool b)) HE.out.symm, below_chain BW.out BWU.out⟩
        | true =>
        have g2' : (bb1 != bb2) = false := by unfold bne; rw [g2]; rfl
        cases s with
        | true =>
          have HT2 := Lib.hid (YES.out (by rw [SN.out, g0, g1, g2]; rfl))
          go_wp2_with fail
          refine E.out.mono ?_
          rintro e w2 ⟨rfl, hb⟩
          have B2 := Lib.hid (below_chain BWU.out hb)
          clear hb e0 e1 e2 e3 e0' e1' e2' e3' v0 v1 v2 v3 u0 u1 u2 u3 t0 t1 t2 t3 hV hU x0 y0
          go_wp2
          go_roundw
          case rel => exact ⟨k + 1, by omega, by go_num, HT2.out, B2.out⟩
          case measure => simp [intOf]; omega
        | false =>
          have HE := Lib.hid (NO.out (by rw [SN.out, g0, g1, g2]; rfl))
          go_wp2_with fail
          refine E.out.mono ?_
          rintro e w2 ⟨rfl, hb⟩
          have B2 := Lib.hid (below_chain BWU.out hb)
          clear hb e0 e1 e2 e3 e0' e1' e2' e3' v0 v1 v2 v3 u0 u1 u2 u3 t0 t1 t2 t3 hV hU x0 y0
          go_wp2
          go_ret
          exact ⟨congrArg (fun b => Ending.returned (Value.bool b)) HE.out.symm, below_chain BW.out B2.out⟩
      · have heq : gs = hs := by
          have h3 := HT.out
          rw [List.take_of_length_le (by rw [HZ.out]; omega), List.take_of_length_le (by rw [HY.out]; omega)] at h3
          exact h3
        have HD := Lib.hid (show r = true by rw [← EA.out]; simp [heq])
        clear heq HT
        go_wp2
        go_ret
        exact ⟨congrArg (fun b => Ending.returned (Value.bool b)) HD.out.symm, below_chain BW.out HB.out⟩
  · have HE := Lib.hid (show r = false by
      rw [← EA.out]
      simp only [decide_eq_false_iff_not]
      rintro rfl
      omega)
    have hc : ((n : Int) != (n' : Int)) = true := by simp; omega
    clear hz hy
    go_enter Try.func39, Try.ntmps39
    go_wp2
    go_ret
    exact ⟨congrArg (fun b => Ending.returned (Value.bool b)) HE.out.symm, BW.out⟩

end Go.Proofs.Ytjplkoglibagkaa.hexes

