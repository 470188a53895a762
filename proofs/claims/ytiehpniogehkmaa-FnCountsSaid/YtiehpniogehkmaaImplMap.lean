/-
  The program's maps of counts: the contracts of impl.countsByStamp, impl.adjustCount and slices.Clone over counts.
-/
import Derived.Test.YtiehpniogehkmaaStMap
import Derived.Test.YtiehpniogehkmaaImplCtOk
import Derived.Lib.SliceRun
namespace Go.Proofs.Ytiehpniogehkmaa.hexes
open Go.RowKit Go.Maps

theorem run_makeMap_hint (t k e : TypeId) (q : IntKind) (n : Int) (h : Try.prog.underlying t = some (.map k e)) (w : World) : (Instr.makeMap t (some (.int q n))).run Try.prog w = .ok (.map (some w.heap.size)) (w.alloc (.map #[] 0)) := by
  simp [Instr.makeMap, run_underlying h, go_sem]

/-- The program's own map at block b, that reads as a table. -/
def CtMap (w : World) (b m : Nat) (zs : List Ct) : Prop := ∃ D, w.ownsMap Try.prog 26 (plainElem Try.prog 3) b m D ∧ MapOf D zs
theorem CtMap.lt {w : World} {b m : Nat} {zs : List Ct} (h : CtMap w b m zs) : b < w.heap.size := by obtain ⟨D, h, _⟩ := h; exact h.lt
theorem CtMap.kept {w w' : World} {row : Option Nat} {b m : Nat} {zs : List Ct} (h : CtMap w b m zs) (hg : w.grownBy w' row) (hne : some b ≠ row) : CtMap w' b m zs := by
  obtain ⟨D, h, hm⟩ := h
  exact ⟨D, h.kept hg hne, hm⟩
theorem CtMap.below {w w' : World} {b m : Nat} {zs : List Ct} (h : CtMap w b m zs) (hb : Below w.heap.size w w') : CtMap w' b m zs := by
  obtain ⟨D, h, hm⟩ := h
  have hl := h.lt
  obtain ⟨es, clock, hbl, Ft, hs, hD⟩ := h
  exact ⟨D, ⟨es, clock, (hb.block b hl).trans hbl, Ft, hs, hD⟩, hm⟩
theorem CtMap.mono {w : World} {b m m' : Nat} {zs : List Ct} (h : CtMap w b m zs) (hm : m ≤ m') : CtMap w b m' zs := by
  obtain ⟨D, h, h'⟩ := h
  exact ⟨D, h.mono hm, h'⟩

theorem table_take {zs : List Ct} (h : Table zs) (k : Nat) : Table (zs.take k) := ⟨List.Pairwise.sublist (List.take_sublist _ _) h.asc, fun z hz => h.ent z (List.mem_of_mem_take hz)⟩
theorem countAt_take {zs : List Ct} (h : Table zs) {k : Nat} (hk : k < zs.length) (t : Int × Int) : countAt (zs.take (k + 1)) t = if t = zs[k].1 then zs[k].2 else countAt (zs.take k) t := by
  have hT := table_take h (k + 1)
  have hT' := table_take h k
  have hm : zs[k] ∈ zs.take (k + 1) := by rw [List.take_succ_eq_append_getElem hk]; exact List.mem_append_right _ List.mem_cons_self
  split
  · rename_i e
    rw [e]
    exact countAt_mem hT.asc hm
  · rename_i e
    have key : ∀ n, (t, n) ∈ zs.take (k + 1) ↔ (t, n) ∈ zs.take k := fun n => by
      rw [List.take_succ_eq_append_getElem hk]
      simp only [List.mem_append, List.mem_singleton, or_iff_left_iff_imp]
      intro h'
      rw [← h'] at e
      exact absurd rfl e
    by_cases h0 : countAt (zs.take k) t = 0
    · rw [h0]
      by_cases h1 : countAt (zs.take (k + 1)) t = 0
      · exact h1
      · have := (key _).1 ((mem_iff_countAt hT t _).2 ⟨rfl, h1⟩)
        have := ((mem_iff_countAt hT' t _).1 this).1
        rw [← this, h0]
    · have := (key _).2 ((mem_iff_countAt hT' t _).2 ⟨rfl, h0⟩)
      exact ((mem_iff_countAt hT t _).1 this).1

set_option maxRecDepth 100000 in
theorem byStamp_any (n : Nat) (zs : List Ct) (hz : zs.length = n) (hT : Table zs) (A : Option Addr) (c : Nat) (w : World) (h1 : Cts w A zs) (hn : n ≤ 4194304) :
    Calls Try.prog 48 #[.slice A n c] w fun e w' => ∃ b, e = .returned (.map (some b)) ∧ w.heap.size ≤ b ∧ CtMap w' b n zs ∧ Below w.heap.size w w' := by
  have H1 := Lib.hid h1
  have HZ := Lib.hid hz
  have TT := Lib.hid hT
  clear h1 hz hT
  have hmm := fun q x w => run_makeMap_hint 67 26 3 q x Try.underlying67 w
  go_enter Try.func48, Try.ntmps48
  go_wp2
  clear hmm
  go_loopw [11] (fun i wr => ∃ k : Nat, k ≤ n ∧ i = .int .i64 k ∧ CtMap wr w.heap.size k (zs.take k) ∧ Below w.heap.size w wr) (fun i _ => n - (intOf i).toNat)
  case atStart => exact ⟨0, Nat.zero_le _, rfl, ⟨.map [], World.ownsMap_made w _ _ _, MapOf.nil⟩, (Below.refl _ _).alloc (Nat.le_refl _) _⟩
  case round =>
    obtain ⟨k, hk, rfl, hm, hb⟩ := hrel
    have HM := Lib.hid hm
    have HB := Lib.hid hb
    clear hm hb
    by_cases hlt : k < n
    · have l1 : k < zs.length := by rw [HZ.out]; exact hlt
      obtain ⟨b1, o1, p0, p1, p2, rfl, x1, e0, e1, e2⟩ := (H1.out.below HB.out).at l1
      have i0 : (0 : Int) ≤ (k : Int) := by omega
      have i1 : (k : Int) < (n : Int) := by omega
      have hE := TT.out.ent zs[k] (List.getElem_mem l1)
      rw [x1] at hE
      have hw := wfSt_ok hE.1
      have hC : ∀ t, countAt (zs.take (k + 1)) t = if t = (p0, p1) then p2 else countAt (zs.take k) t := fun t => by rw [countAt_take TT.out l1, x1]
      have key := Lib.hid (stKey_of hw.1 hw.2)
      have val := Lib.hid (plainElem_int (H := Unit) Try.underlying3 (wf_small (x := p2) (by have := hE.2.1; dsimp only at this; omega)))
      obtain ⟨D, hown, hMo⟩ := HM.out
      have MO := Lib.hid (hMo.put (us := zs.take (k + 1)) hw hE.2.2 hC)
      have BA := Lib.hid (HB.out.alloc HB.out.size (.cells #[.int .i64 p0, .int .i64 p1, .int .i64 p2] 62))
      have OW := Lib.hid (hown.alloc (.cells #[.int .i64 p0, .int .i64 p1, .int .i64 p2] 62))
      clear x1 l1 hE hw hC hown hMo HM
      go_wp2_with (at_mapUpdate; refine wpList_mapUpdate_own _ rfl _ _ _ 67 rfl 26 3 stKeyed Try.underlying67 _ w.heap.size k D rfl OW.out (by unfold maxLen; omega) _ _ _ rfl rfl key.out _ [] val.out ?_; intro w2 own2 gr2)
      have B2 := Lib.hid (BA.out.grown gr2 BA.out.size (fun j e => by cases e; exact Nat.le_refl _))
      have O2 := Lib.hid own2
      clear own2 gr2 BA OW
      go_wp2
      go_roundw
      case rel => exact ⟨k + 1, by omega, by go_num, ⟨_, O2.out, MO.out⟩, B2.out⟩
      case measure => simp [intOf]; omega
    · have hfin : zs.take k = zs := List.take_of_length_le (by rw [HZ.out]; omega)
      have M2 := HM.out
      rw [hfin] at M2
      have M3 := Lib.hid (M2.mono (show k ≤ n by omega))
      clear M2 hfin HM
      go_wp2
      go_ret
      exact ⟨_, rfl, Nat.le_refl _, M3.out, HB.out⟩

/-- How adjustCount ends: whether it took the count; the map then. -/
def AdjustEnd (w : World) (b m : Nat) (zs : List Ct) (s : Int × Int) (nn : Int) (e : Ending) (w' : World) : Prop :=
  e = .returned (.bool (adjOk zs s nn)) ∧ w.grownBy w' (some b) ∧ (adjOk zs s nn = true → CtMap w' b (m + 1) (adjL zs s nn))

theorem adj_wrap {c n : Int} (h1 : -1000000 ≤ c) (h2 : c ≤ 1000000) (hn : (Lit.int .i64 n).wf = true) : (-1000000 ≤ wrap64 (c + n) ∧ wrap64 (c + n) ≤ 1000000) ↔ (-1000000 ≤ c + n ∧ c + n ≤ 1000000) := by
  have := bounds_i64 hn
  unfold wrap64
  omega

set_option maxRecDepth 100000 in
theorem adjust_any (b m : Nat) (zs : List Ct) (hT : Table zs) (x y nn : Int) (hs : okSt x y = true) (hn : (Lit.int .i64 nn).wf = true) (w : World) (hm : CtMap w b m zs) (hb : m ≤ 4194304) :
    Calls Try.prog 49 #[.map (some b), .agg #[.int .i64 x, .int .i64 y], .int .i64 nn] w (AdjustEnd w b m zs (x, y) nn) := by
  have hw := wfSt_ok hs
  have key := Lib.hid (stKey_of hw.1 hw.2)
  have hbl := hm.lt
  obtain ⟨D, hown, hMo⟩ := hm
  have hcb := countAt_bd hT (x, y)
  obtain ⟨cv, hcv⟩ : ∃ cv, countAt zs (x, y) = cv := ⟨_, rfl⟩
  rw [hcv] at hcb
  have AT := Lib.hid (hMo.cnt (x, y) hw)
  have OW := Lib.hid (hown.alloc (.cells #[.int .i64 x, .int .i64 y] 26))
  have HW := Lib.hid (adj_wrap hcb.1 hcb.2 hn)
  have hadj : adjOk zs (x, y) nn = decide (-1000000 ≤ cv + nn ∧ cv + nn ≤ 1000000) := by
    unfold adjOk
    rw [table_okCts hT, hs, hcv]
    rfl
  have HADJ := Lib.hid hadj
  have HCV := Lib.hid hcv
  have HS := Lib.hid hs
  have TT := Lib.hid hT
  have MO := Lib.hid hMo
  have HWF := Lib.hid hw
  clear hown hw hadj hcv hMo hT
  have CP : ∀ (K : Int → Prop), (∀ cc, cc = cv → K cc) → ∀ cc, D.atKey (stKey x y) (.lit (.int .i64 0)) = .lit (.int .i64 cc) → (Lit.int .i64 cc).wf = true → K cc := fun K hK cc h _ => hK cc (by
    have := AT.out
    rw [h, HCV.out] at this
    simpa using this)
  have CP' := Lib.hid CP
  clear CP AT
  by_cases hr : -1000000 ≤ cv + nn ∧ cv + nn ≤ 1000000
  · have E := Lib.hid (fun W => inRange_is (n := wrap64 (cv + nn)) (decide_eq_true (HW.out.2 hr)) W)
    have hok : adjOk zs (x, y) nn = true := by rw [HADJ.out]; exact decide_eq_true hr
    have hwr : wrap64 (cv + nn) = cv + nn := by unfold wrap64; omega
    have HU := Lib.hid (fun t => countAt_adjL hok t)
    have HOK := Lib.hid hok
    by_cases h0 : cv + nn = 0
    · have q0 : (wrap64 (cv + nn) == 0) = true := by rw [hwr]; simpa using h0
      have MD := Lib.hid (MO.out.del (us := adjL zs (x, y) nn) HWF.out (fun t => by rw [HU.out, HCV.out, h0]))
      clear hok hwr HU MO HW hs hn hr h0
      go_enter Try.func49, Try.ntmps49
      go_wp2_with (at_lookup; refine wpList_lookup_own_int _ rfl _ _ 67 rfl 26 3 .i64 stKeyed Try.underlying67 Try.underlying3 (Try.zeroValue3 _) b m D rfl OW.out _ _ rfl key.out ?_; refine CP'.out _ ?_; rintro cc rfl)
      refine (E.out _).mono ?_
      rintro e w1 ⟨rfl, rfl⟩
      go_wp2_with (at_delete; refine wpList_delete_own _ rfl _ _ 67 26 rfl 3 stKeyed Try.underlying67 _ b m D rfl OW.out _ _ rfl key.out ?_; intro w2 own2 gr2)
      have G2 := Lib.hid ((World.grownBy_alloc w _ (some b)).andThen gr2.grown (fun j e => .inr e.symm.symm))
      have O2 := Lib.hid own2
      clear own2 gr2 OW
      go_wp2
      go_ret
      exact ⟨congrArg (fun b => Ending.returned (Value.bool b)) HOK.out.symm, G2.out, fun _ => ⟨_, O2.out.mono (by omega), MD.out⟩⟩
    · have q0 : (wrap64 (cv + nn) == 0) = false := by rw [hwr]; simpa using h0
      have val := Lib.hid (plainElem_int (H := Unit) Try.underlying3 (wrap64_wf (cv + nn)))
      have MP := Lib.hid (MO.out.put (us := adjL zs (x, y) nn) (n := wrap64 (cv + nn)) HWF.out (by rw [hwr]; exact h0) (fun t => by rw [HU.out, HCV.out, hwr]))
      clear hok hwr HU MO HW hs hn hr h0
      go_enter Try.func49, Try.ntmps49
      go_wp2_with (at_lookup; refine wpList_lookup_own_int _ rfl _ _ 67 rfl 26 3 .i64 stKeyed Try.underlying67 Try.underlying3 (Try.zeroValue3 _) b m D rfl OW.out _ _ rfl key.out ?_; refine CP'.out _ ?_; rintro cc rfl)
      refine (E.out _).mono ?_
      rintro e w1 ⟨rfl, rfl⟩
      go_wp2_with (at_mapUpdate; refine wpList_mapUpdate_own _ rfl _ _ _ 67 rfl 26 3 stKeyed Try.underlying67 _ b m D rfl OW.out (by unfold maxLen; omega) _ _ _ rfl rfl key.out _ [] val.out ?_; intro w2 own2 gr2)
      have G2 := Lib.hid ((World.grownBy_alloc w _ (some b)).andThen gr2 (fun j e => .inr e))
      have O2 := Lib.hid own2
      clear own2 gr2 OW
      go_wp2
      go_ret
      exact ⟨congrArg (fun b => Ending.returned (Value.bool b)) HOK.out.symm, G2.out, fun _ => ⟨_, O2.out, MP.out⟩⟩
  · have E := Lib.hid (fun W => inRange_is (n := wrap64 (cv + nn)) (decide_eq_false (fun h => hr (HW.out.1 h))) W)
    have hok : adjOk zs (x, y) nn = false := by rw [HADJ.out]; exact decide_eq_false hr
    have HOK := Lib.hid hok
    clear hok MO HW hs hn hr
    go_enter Try.func49, Try.ntmps49
    go_wp2_with (at_lookup; refine wpList_lookup_own_int _ rfl _ _ 67 rfl 26 3 .i64 stKeyed Try.underlying67 Try.underlying3 (Try.zeroValue3 _) b m D rfl OW.out _ _ rfl key.out ?_; refine CP'.out _ ?_; rintro cc rfl)
    refine (E.out _).mono ?_
    rintro e w1 ⟨rfl, rfl⟩
    go_wp2
    go_ret
    exact ⟨congrArg (fun b => Ending.returned (Value.bool b)) HOK.out.symm, World.grownBy_alloc w _ (some b), fun h => by rw [HOK.out] at h; cases h⟩
end Go.Proofs.Ytiehpniogehkmaa.hexes
