/-
  The program's CountsOfRecords, for up to 1,000,000 records: a map of counts, one more at each record's stamp.
  The walk of FnRecords.
-/
import Derived.Test.YtdmbkjebagnloaaGreatDoorJ44
import Derived.Test.YtdmbkjebagnloaaGreatDoorJ22
import Derived.Test.YtdmbkjebagnloaaGreatDoorMapEntry
import Derived.Test.YtdmbkjebagnloaaGreatDoorRegV6
import Derived.Test.YtdmbkjebagnloaaGreatDoorJ33
import Derived.Test.YtdmbkjebagnloaaGreatDoorJ34
import Derived.Test.YtdmbkjebagnloaaGreatDoorJ39

namespace Go.Proofs.YtdmbkjebagnloaaGreatDoor.hexes
open Go.RowKit Go.Maps

theorem adjL_no {zs : List Ct} {s : Int × Int} {n : Int} (h : adjOk zs s n = false) : adjL zs s n = zs := by unfold adjL; rw [h]; rfl
theorem adjOk_bad {zs : List Ct} {x y n : Int} (h : okSt x y = false) : adjOk zs (x, y) n = false := by unfold adjOk; rw [h]; simp
theorem cntR_bd (zs : List Rc) (s : Int × Int) : 0 ≤ countAt (cntR zs) s ∧ countAt (cntR zs) s ≤ zs.length := by
  have key : ∀ (zs : List Rc) (t : List Ct) (m : Int), (∀ s, 0 ≤ countAt t s ∧ countAt t s ≤ m) → ∀ s, 0 ≤ countAt (zs.foldl (fun t z => adjL t z.2.1 1) t) s ∧ countAt (zs.foldl (fun t z => adjL t z.2.1 1) t) s ≤ m + zs.length := fun zs => by
    induction zs with
    | nil => intro t m h s; have := h s; simpa using this
    | cons z zs ih =>
      intro t m h s
      rw [List.foldl_cons]
      have h1 := ih (adjL t z.2.1 1) (m + 1) (fun s => by
        have h0 := h s
        by_cases hk : adjOk t z.2.1 1 = true
        · rw [countAt_adjL hk]
          have h2 := h z.2.1
          split <;> omega
        · rw [adjL_no (by simpa using hk)]
          omega) s
      simp only [List.length_cons]
      omega
  have := key zs [] 0 (fun s => by simp [countAt]) s
  unfold cntR
  omega

/-- What the round reads: the record's stamp. -/
structure HeldC (bc : Nat) (p1 p2 : Int) (w : World) : Prop where
  c1 : w.cell? ⟨bc, 1, none⟩ = some (.int .i64 p1)
  c2 : w.cell? ⟨bc, 2, none⟩ = some (.int .i64 p2)

set_option maxRecDepth 100000 in
set_option maxHeartbeats 4000000 in
theorem implCntR_any (n : Nat) (zs : List Rc) (hz : zs.length = n) (A : Option Addr) (c : Nat) (w : World) (h1 : Rcs w A zs) (hn : n ≤ 1000000) :
    Calls Tryz.prog 24 #[.slice A n c] w fun e w' => ∃ v, e = .returned v ∧ w'.ownsRow w.heap.size 64 3 v (cntR zs).length (ctCells (cntR zs)) ∧ Below w.heap.size w w' := by
  have H1 := Lib.hid h1
  have HZ := Lib.hid hz
  clear h1 hz
  have hmm : ∀ w : World, (Instr.makeMap 65 none).run Tryz.prog w = .ok (.map (some w.heap.size)) (w.alloc (.map #[] 0)) := fun w => rfl
  go_enter Tryz.func24, Tryz.ntmps24
  go_wp2
  clear hmm
  go_loopw [9] (fun i wr => ∃ k : Nat, k ≤ n ∧ i = .int .i64 k ∧ CtMap wr w.heap.size k (cntR (zs.take k)) ∧ Below w.heap.size w wr) (fun i _ => n - (intOf i).toNat)
  case atStart => exact ⟨0, Nat.zero_le _, rfl, ⟨.map [], World.ownsMap_made w _ _ _, MapOf.nil⟩, (Below.refl _ _).alloc (Nat.le_refl _) _⟩
  case round =>
    obtain ⟨k, hk, rfl, hm, hb⟩ := hrel
    have HM := Lib.hid hm
    have HB := Lib.hid hb
    clear hm hb
    by_cases hlt : k < n
    · have l1 : k < zs.length := by rw [HZ.out]; exact hlt
      obtain ⟨b1, o1, p0, p1, p2, p3, p4, rfl, x1, e0, e1, e2, e3, e4⟩ := (H1.out.below HB.out).at l1
      have i0 : (0 : Int) ≤ (k : Int) := by omega
      have i1 : (k : Int) < (n : Int) := by omega
      have hT := cntR_table (zs.take k)
      have hBD := cntR_bd (zs.take k) (p1, p2)
      rw [show ((zs.take k).length : Int) = (k : Int) by rw [List.length_take, Nat.min_eq_left (by omega)]] at hBD
      obtain ⟨cur, hcur⟩ : ∃ cur, cntR (zs.take k) = cur := ⟨_, rfl⟩
      have ST := Lib.hid (show cntR (zs.take (k + 1)) = adjL cur (p1, p2) 1 by rw [cntR_step l1, x1, hcur])
      rw [hcur] at hT HM hBD
      have LT := Lib.hid HM.out.lt
      have BA := Lib.hid (HB.out.alloc HB.out.size (.cells #[.int .i64 p0, .int .i64 p1, .int .i64 p2, .int .i64 p3, .int .i64 p4] 32))
      have MA := Lib.hid (HM.out.below ((Below.refl wr.heap.size wr).alloc (Nat.le_refl _) (.cells #[.int .i64 p0, .int .i64 p1, .int .i64 p2, .int .i64 p3, .int .i64 p4] 32)))
      have TT := Lib.hid hT
      have BD := Lib.hid hBD
      clear x1 l1 hT hcur HM hBD
      cases hs : okSt p1 p2 with
      | false =>
        have E := Lib.hid (fun W => implOkS_is hs W)
        have HJ := Lib.hid (ST.out.trans (adjL_no (adjOk_bad hs)))
        clear hs
        go_wp2_with fail
        refine (E.out _).mono ?_
        rintro e w5 ⟨rfl, b5⟩
        have B5 := Lib.hid (below_chain BA.out b5)
        have M5 := Lib.hid ((MA.out.below b5).mono (Nat.le_succ k))
        clear b5
        go_wp2
        go_roundw
        case rel => exact ⟨k + 1, by omega, by go_num, by rw [HJ.out]; exact M5.out, B5.out⟩
        case measure => simp [intOf]; omega
      | true =>
        have E := Lib.hid (fun W => implOkS_is hs W)
        have hw := wfSt_ok hs
        obtain ⟨cv, hcv⟩ : ∃ cv, countAt cur (p1, p2) = cv := ⟨_, rfl⟩
        have hbd := BD.out
        rw [hcv] at hbd
        have hok : adjOk cur (p1, p2) 1 = true := (adjOk_iff _ _ _).2 ⟨TT.out, hs, by rw [hcv]; omega⟩
        have HU := Lib.hid (fun t => countAt_adjL hok t)
        have HW := Lib.hid hw
        have hwr : IntKind.i64.wrap (cv + 1) = cv + 1 := IntWalk.i64_in _ (by omega)
        have WF := Lib.hid (show (Lit.int .i64 (cv + 1)).wf = true from wf_small (by omega))
        have hne : cv + 1 ≠ 0 := by omega
        have NE := Lib.hid hne
        have HCV := Lib.hid hcv
        clear hs hok hw hcv hne BD
        go_wp2_with fail
        refine (E.out _).mono ?_
        rintro e w5 ⟨rfl, b5⟩
        have c1 := below_keep (a := ⟨wr.heap.size, 1, none⟩) (v := .int .i64 p1) b5 (by simp)
        have c2 := below_keep (a := ⟨wr.heap.size, 2, none⟩) (v := .int .i64 p2) b5 (by simp)
        have B5 := Lib.hid (below_chain BA.out b5)
        have hlb : w.heap.size ≠ wr.heap.size := Nat.ne_of_lt LT.out
        obtain ⟨D, own5, mo5⟩ := MA.out.below b5
        have hat := mo5.cnt (p1, p2) HW.out
        rw [HCV.out] at hat
        have MP := Lib.hid (mo5.put (us := adjL cur (p1, p2) 1) (n := cv + 1) HW.out NE.out (fun t => by rw [HU.out, HCV.out]))
        obtain ⟨cc, lk5, hcc, _⟩ := own5.drew.lookup_int stKeyed Tryz.underlying65 Tryz.underlying3 (Tryz.zeroValue3 _) (stKey_of HW.out.1 HW.out.2)
        rw [hat] at hcc
        obtain rfl : cv = cc := by simpa using hcc
        obtain ⟨st, w6, he6, lk6, gr6, fin⟩ := entry_own own5.drew stKeyed Tryz.underlying65 Tryz.underlying3 (fun u => Tryz.zeroValue3 u) (by unfold maxLen; omega) (stKey_of HW.out.1 HW.out.2) hat
        obtain ⟨w7, he7, own7, gr7⟩ := fin (cv + 1) WF.out
        rw [show goInt st = .int .i64 (st : Int) from rfl] at he6 he7
        have keep : ∀ W, w5.drew.grownBy W (some w.heap.size) → HeldC wr.heap.size p1 p2 W := fun W gr => ⟨(gr.cell_far ⟨wr.heap.size, 1, none⟩ (World.block_lt_of_cell? w5.drew _ c1) (by simpa using hlb.symm)).trans c1, (gr.cell_far ⟨wr.heap.size, 2, none⟩ (World.block_lt_of_cell? w5.drew _ c2) (by simpa using hlb.symm)).trans c2⟩
        have S5 := Lib.hid (show HeldC wr.heap.size p1 p2 w5.drew from ⟨c1, c2⟩)
        have S6 := Lib.hid (keep w6 gr6)
        have S7 := Lib.hid (keep w7 gr7)
        have B7 := Lib.hid (B5.out.drew.grown gr7 B5.out.size (fun j hj => Nat.le_of_eq (Option.some.inj hj)))
        have M7 := Lib.hid (show CtMap w7 w.heap.size (k + 1) (adjL cur (p1, p2) 1) from ⟨_, own7, MP.out⟩)
        clear b5 c1 c2 own5 mo5 hat hcc keep gr6 fin own7 gr7 B5 hbd hlb
        go_wp2_with fail
        refine wp_region_held_drew (S := HeldC wr.heap.size p1 p2) (by kernel_rfl) ?_ (fun hHeld => ?_)
        · exact S5.out
        change wpAnyH _ _ opsV6 _ _ 8 (#[false, false, false, false, false, false, false, false] : Array Bool) _ _
        refine tV6_e_0 (.map (some w.heap.size)) (fun _ _ _ h => h) (Or.inl ⟨by rfl, fun W hSw => ?_⟩) hHeld ?_
        · skip
          unfold qV6_0
          go_simp
        try simp only [Act.put, List.setIfInBounds_toArray, List.set_cons_zero, List.set_cons_succ]
        refine tV6_0_1 (.pointer (some ⟨wr.heap.size, 1, none⟩)) (fun _ _ _ h => h) (Or.inl ⟨by rfl, fun W hSw => ?_⟩) hHeld ?_
        · skip
          unfold qV6_1
          go_simp
        try simp only [Act.put, List.setIfInBounds_toArray, List.set_cons_zero, List.set_cons_succ]
        refine tV6_01_2 (.agg #[.int .i64 p1, .int .i64 p2]) (fun _ _ _ h => h) (Or.inl ⟨by rfl, fun W hSw => ?_⟩) hHeld ?_
        · skip
          unfold qV6_2
          obtain ⟨c1, c2⟩ := hSw
          go_simp
        try simp only [Act.put, List.setIfInBounds_toArray, List.set_cons_zero, List.set_cons_succ]
        refine cV6_012_35 (fun K hK => ?_) (fun K hK => ?_)
        · rw [if_pos (by rfl)]
          unfold qV6_3
          go_simp
          refine Shut.out hK _ _ ?_ (fun hHeld => ?_)
          · exact hHeld
          clear hK K
          try simp only [Act.put, List.setIfInBounds_toArray, List.set_cons_zero, List.set_cons_succ]
          refine tV6_0123_4 (.int .i64 (cv + 1)) (fun _ _ _ h => h) (Or.inl ⟨by rfl, fun W hSw => ?_⟩) hHeld ?_
          · skip
            unfold qV6_4
            go_simp <;> exact hwr
          try simp only [Act.put, List.setIfInBounds_toArray, List.set_cons_zero, List.set_cons_succ]
          refine cV6_01234_5 (fun K hK => ?_)
          rw [if_pos (by rfl)]
          unfold qV6_5
          go_simp
          refine Shut.out hK _ _ ?_ (fun hHeld => ?_)
          · exact S6.out
          clear hK K
          try simp only [Act.put, List.setIfInBounds_toArray, List.set_cons_zero, List.set_cons_succ]
          refine tV6_012345_6 (.int .i64 (st : Int)) (fun _ _ _ h => h) (Or.inl ⟨by rfl, fun W hSw => ?_⟩) hHeld ?_
          · skip
            unfold qV6_6
            go_simp
          try simp only [Act.put, List.setIfInBounds_toArray, List.set_cons_zero, List.set_cons_succ]
          refine cV6_0123456_7 (fun K hK => ?_)
          rw [if_pos (by rfl)]
          unfold qV6_7
          go_simp
          refine Shut.out hK _ _ ?_ (fun hHeld => ?_)
          · exact S7.out
          clear hK K
          try simp only [Act.put, List.setIfInBounds_toArray, List.set_cons_zero, List.set_cons_succ]
          refine wpAnyH_done (by kernel_rfl) ?_ _
          clear hHeld he6 he7 lk5 lk6
          go_wp2
          go_roundw
          case rel => exact ⟨k + 1, by omega, by go_num, by rw [ST.out]; exact M7.out, B7.out⟩
          case measure => simp [intOf]; omega
        · rw [if_pos (by rfl)]
          unfold qV6_5
          go_simp
          refine Shut.out hK _ _ ?_ (fun hHeld => ?_)
          · exact S6.out
          clear hK K
          try simp only [Act.put, List.setIfInBounds_toArray, List.set_cons_zero, List.set_cons_succ]
          refine tV6_0125_6 (.int .i64 (st : Int)) (fun _ _ _ h => h) (Or.inl ⟨by rfl, fun W hSw => ?_⟩) hHeld ?_
          · skip
            unfold qV6_6
            go_simp
          try simp only [Act.put, List.setIfInBounds_toArray, List.set_cons_zero, List.set_cons_succ]
          refine cV6_01256_3 (fun K hK => ?_)
          rw [if_pos (by rfl)]
          unfold qV6_3
          go_simp
          refine Shut.out hK _ _ ?_ (fun hHeld => ?_)
          · exact hHeld
          clear hK K
          try simp only [Act.put, List.setIfInBounds_toArray, List.set_cons_zero, List.set_cons_succ]
          refine tV6_012356_4 (.int .i64 (cv + 1)) (fun _ _ _ h => h) (Or.inl ⟨by rfl, fun W hSw => ?_⟩) hHeld ?_
          · skip
            unfold qV6_4
            go_simp <;> exact hwr
          try simp only [Act.put, List.setIfInBounds_toArray, List.set_cons_zero, List.set_cons_succ]
          refine cV6_0123456_7 (fun K hK => ?_)
          rw [if_pos (by rfl)]
          unfold qV6_7
          go_simp
          refine Shut.out hK _ _ ?_ (fun hHeld => ?_)
          · exact S7.out
          clear hK K
          try simp only [Act.put, List.setIfInBounds_toArray, List.set_cons_zero, List.set_cons_succ]
          refine wpAnyH_done (by kernel_rfl) ?_ _
          clear hHeld he6 he7 lk5 lk6
          go_wp2
          go_roundw
          case rel => exact ⟨k + 1, by omega, by go_num, by rw [ST.out]; exact M7.out, B7.out⟩
          case measure => simp [intOf]; omega
    · have hfin : zs.take k = zs := List.take_of_length_le (by rw [HZ.out]; omega)
      have M2 := HM.out
      rw [hfin] at M2
      have T := Lib.hid (tableOf_any w.heap.size k (cntR zs) (cntR_table zs) (by omega) wr M2)
      clear M2 HM hfin
      go_wp2_with fail
      refine T.out.mono ?_
      rintro e w7 ⟨v, rfl, own, b7⟩
      have O7 := Lib.hid (own_base own HB.out.size)
      have B7 := Lib.hid (below_chain HB.out b7)
      clear own b7 T
      go_wp2
      go_ret
      exact ⟨_, rfl, O7.out, B7.out⟩
end Go.Proofs.YtdmbkjebagnloaaGreatDoor.hexes

namespace Go.Proofs.YtdmbkjebagnloaaGreatDoor.hexes
open Go.RowKit

/-- The program's functions of chapter 5. -/
theorem implRc : ImplRc where
  sort W A n c zs h := implSortRc_any n zs h.len A c h.nil W h.rcs (by have := h.few; omega)
  bag W A n c zs A' n' c' ys h h' := implBag_any n n' zs ys h.len h'.len A A' c c' h.nil h'.nil W h.rcs h'.rcs (by have := h.few; omega) (by have := h'.few; omega)
  ord W p0 p1 p2 p3 p4 q0 q1 q2 q3 q4 := (implRcOrd_at W p0 p1 p2 p3 p4 q0 q1 q2 q3 q4).mono fun _ _ h => ⟨h.1, h.2.below⟩
  ok W p0 p1 p2 p3 p4 := implRcOk_any p0 p1 p2 p3 p4 W
  text W p0 p1 p2 p3 p4 hw hT := implRcText_any p0 p1 p2 p3 p4 (bounds_i64 hw.1) (bounds_i64 hw.2.1) (bounds_i64 hw.2.2.1) (bounds_i64 hw.2.2.2.1) (bounds_i64 hw.2.2.2.2) W hT
  ofEp W A n c zs x h := implOfEp_any n zs h.len A c x W h.rcs (by have := h.few; omega)
  cnt W A n c zs h := implCntR_any n zs h.len A c W h.rcs (by have := h.few; omega)
end Go.Proofs.YtdmbkjebagnloaaGreatDoor.hexes
namespace Go.Proofs.YtdmbkjebagnloaaGreatDoor.fnRecords
open Go.RowKit Go.Proofs.YtdmbkjebagnloaaGreatDoor.hexes
theorem walk (a0 : Option Addr) (len0 cap0 : Nat) (z0 : List Int) (w : World) (w0 : IsRow .u8 w a0 len0 cap0 z0) (hL : laidMet Tryz.prog Rows.fnRecordsRow.laid w) :
    Calls Tryz.prog 3 #[.slice a0 len0 cap0] w fun e w' => e = .returned (.bool true) ∧ Below w.heap.size w w' :=
  walk_of implRc a0 len0 cap0 z0 w w0 (pow10_head hL.tail.tail)
end Go.Proofs.YtdmbkjebagnloaaGreatDoor.fnRecords

