/-
  The program's table out of a map: the contract of impl.tableOf.
-/
import Derived.Test.YtdmbkjebagnloaaGreatDoorJ42
import Derived.Test.YtdmbkjebagnloaaGreatDoorRegT5
import Derived.OwnWalk
import Derived.Deep.AppendLies

namespace Go.Proofs.YtdmbkjebagnloaaGreatDoor.hexes
open Go.RowKit Go.Maps

/-- What a round reads: the stamp, and the map. -/
structure ReadS (b m : Nat) (zs : List Ct) (bc : Nat) (p q : Int) (w : World) : Prop where
  c0 : w.cell? ⟨bc, 0, none⟩ = some (.int .i64 p)
  c1 : w.cell? ⟨bc, 1, none⟩ = some (.int .i64 q)
  mp : CtMap w b m zs
theorem ReadS.alloc {b m : Nat} {zs : List Ct} {bc : Nat} {p q : Int} {w : World} (h : ReadS b m zs bc p q w) (o : Obj) : ReadS b m zs bc p q (w.alloc o) := ⟨alloc_keep h.c0, alloc_keep h.c1, h.mp.kept (World.grownBy_alloc _ _ none) (by simp)⟩
theorem CtMap.drew {w : World} {b m : Nat} {zs : List Ct} (h : CtMap w b m zs) : CtMap w.drew b m zs := by
  obtain ⟨D, h, hm⟩ := h
  exact ⟨D, h.drew, hm⟩
theorem ReadS.drew {b m : Nat} {zs : List Ct} {bc : Nat} {p q : Int} {w : World} (h : ReadS b m zs bc p q w) : ReadS b m zs bc p q w.drew := ⟨h.c0, h.c1, h.mp.drew⟩
theorem ReadS.kept {b m : Nat} {zs : List Ct} {bc : Nat} {p q : Int} {w w' : World} {row : Option Nat} (h : ReadS b m zs bc p q w) (hg : w.grownBy w' row) (hne : some b ≠ row ∧ some bc ≠ row) : ReadS b m zs bc p q w' :=
  ⟨(hg.cell_far ⟨bc, 0, none⟩ (World.block_lt_of_cell? w _ h.c0) hne.2).trans h.c0, (hg.cell_far ⟨bc, 1, none⟩ (World.block_lt_of_cell? w _ h.c1) hne.2).trans h.c1, h.mp.kept hg hne.1⟩

theorem CtMap.look {w : World} {b m : Nat} {zs : List Ct} {p q cv : Int} (h : CtMap w b m zs) (hk : wfSt (p, q) ∧ countAt zs (p, q) = cv) : (Instr.lookup 65 (.map (some b)) (.agg #[.int .i64 p, .int .i64 q]) false).run Tryz.prog w = .ok (.int .i64 cv) w := by
  obtain ⟨D, own, mo⟩ := h
  obtain ⟨c, hrun, hat, _⟩ := own.lookup_int stKeyed Tryz.underlying65 Tryz.underlying3 (Tryz.zeroValue3 _) (stKey_of hk.1.1 hk.1.2)
  have := mo.cnt (p, q) hk.1
  rw [hat, hk.2] at this
  obtain rfl : c = cv := by simpa using this
  exact hrun

theorem Sts.kept {w w' : World} {row : Option Nat} {A : Option Addr} {ys : List (Int × Int)} (h : Sts w A ys) (hg : w.grownBy w' row) (hne : ∀ ad, A = some ad → some ad.block ≠ row) : Sts w' A ys := fun hl => by
  obtain ⟨b, off, rfl, hlt, hz⟩ := h hl
  have hb := hne _ rfl
  exact ⟨b, off, rfl, Nat.lt_of_lt_of_le hlt hg.size, fun j hj => ⟨(hg.cell_far ⟨b, off + j * 2, none⟩ hlt hb).trans (hz j hj).1, (hg.cell_far ⟨b, off + j * 2 + 1, none⟩ hlt hb).trans (hz j hj).2⟩⟩

/-- The stamps of a map that reads as a table, ascending, with their counts, are the table. -/
theorem table_keys {D : DataW Unit} {zs : List Ct} (hM : MapOf D zs) (hT : Table zs) {ys ss : List (Int × Int)} (hS : KeysAre D ss) (hp : ys.Perm ss) (ha : Asc ys) : (ys.map fun s => (s, countAt zs s)) = zs := by
  obtain ⟨hnd, hwf, hmem⟩ := hS
  have hnd' : ys.Nodup := hp.nodup_iff.2 hnd
  refine ct_ext _ _ ?_ hT.asc fun z => ?_
  · refine List.pairwise_map.2 ?_
    refine (List.Pairwise.and ha hnd').imp ?_
    rintro a b ⟨h1, h2⟩
    have hne : ¬(a.1 = b.1 ∧ a.2 = b.2) := fun h => h2 (Prod.ext h.1 h.2)
    show ltS a b
    unfold ltS at *
    omega
  · constructor
    · intro hz
      obtain ⟨s, hs, rfl⟩ := List.mem_map.1 hz
      have hs' := hp.mem_iff.1 hs
      have hc := (hM.has s (hwf s hs')).1 ((hmem s (hwf s hs')).1 hs')
      exact (mem_iff_countAt hT s _).2 ⟨rfl, hc⟩
    · intro hz
      obtain ⟨s, n⟩ := z
      have h1 := (mem_iff_countAt hT s n).1 hz
      have hw : wfSt s := wfSt_ok (hT.ent _ hz).1
      have hs := (hmem s hw).2 ((hM.has s hw).2 (by rw [h1.1]; exact h1.2))
      exact List.mem_map.2 ⟨s, hp.mem_iff.2 hs, by rw [h1.1]⟩

/-- The loop: k stamps are in the table. -/
structure RunT (w w1 : World) (A : Option Addr) (ys : List (Int × Int)) (zs : List Ct) (k : Nat) (v : Value) (wr : World) : Prop where
  own : wr.ownsRow w.heap.size 64 3 v k (ctCells ((ys.take k).map fun s => (s, countAt zs s)))
  blk : ∀ g, v.ownBlock = some g → g = w.heap.size ∨ w1.heap.size ≤ g
  sts : Sts wr A ys
  bel : Below w.heap.size w wr
  siz : w1.heap.size ≤ wr.heap.size

set_option maxRecDepth 1000000 in
set_option maxHeartbeats 4000000 in
theorem tableOf_any (b m : Nat) (zs : List Ct) (hT : Table zs) (hm : m ≤ 4194304) (w : World) (hC : CtMap w b m zs) :
    Calls Tryz.prog 46 #[.map (some b)] w fun e w' => ∃ v, e = .returned v ∧ w'.ownsRow w.heap.size 64 3 v zs.length (ctCells zs) ∧ Below w.heap.size w w' := by
  have CM := Lib.hid hC
  have hbl := hC.lt
  obtain ⟨D, hown, hMo⟩ := hC
  have hsz := hown.size_le
  obtain ⟨sz, hsze⟩ : ∃ sz, Maps.size D = sz := ⟨_, rfl⟩
  rw [hsze] at hsz
  have OWN := Lib.hid hown
  have HM := Lib.hid hMo
  have HT := Lib.hid hT
  have HSZ := Lib.hid hsze
  clear hown hMo hT hsze
  obtain ⟨i0, hi, hz0, hz1, hz2⟩ := info_parts ctinfo
  have LN : ∀ K : Nat → Prop, K sz → K (Maps.size D) := fun K h => by rw [HSZ.out]; exact h
  have hmk : i0.bytes * sz ≤ 281474976710656 := by rw [hz2]; omega
  go_enter Tryz.func46, Tryz.ntmps46
  go_wp2_with (first
    | (at_len; refine wpList_len_own _ rfl _ 65 rfl 30 3 Tryz.underlying65 _ b m D rfl OWN.out ?_; rw [HSZ.out])
    | (at_make; refine wpList_make_own _ rfl _ _ 44 rfl w.heap.size 64 i0 (.agg #[.int .i64 0, .int .i64 0, .int .i64 0]) 3 Tryz.underlying44 hi hz0 hz1 .i64 .i64 _ sz rfl rfl rfl hmk (by unfold maxLen; omega) (Nat.le_refl _) ?_; intro w0 own0 gr0))
  have B0 := Lib.hid ((Below.refl w.heap.size w).grown gr0 (Nat.le_refl _) (fun j e => by cases e))
  have O0 := Lib.hid own0
  have M0 := Lib.hid (OWN.out.kept gr0 (by simp))
  have hs0 : w.heap.size < w0.heap.size := own_lt own0
  clear own0 gr0
  refine ((callsIn_wide (n := 6)).1 (keys_in Fence.wide 6 trivial rfl (some b) w0)).mono ?_
  rintro e wk ⟨rfl, hwk⟩
  have hsk : wk.heap.size = w0.heap.size + 1 := by rw [hwk]; simp
  have BK := Lib.hid (show Below w.heap.size w wk by rw [hwk]; exact B0.out.alloc B0.out.size _)
  have OK := Lib.hid (show wk.ownsRow w.heap.size 64 3 (.slice (some ⟨w.heap.size, 0, none⟩) 0 sz) 0 [] by rw [hwk]; exact O0.out.alloc _)
  have hseq := keys_gives Fence.wide 3 trivial rfl (by omega) w0.heap.size b m D wk (by omega) (by rw [hwk]; simp) (by rw [hwk]; exact M0.out.alloc _)
  have SQ := Lib.hid hseq
  clear hseq hwk
  go_wp2_with fail
  refine (sortedFunc_any 84 _ (enters_of Tryz.func84 (by kernel_rfl) rfl) (KeysAre D) (Maps.size D) (LN (· ≤ 4194304) (by omega)) wk SQ.out).mono ?_
  rintro e w1 ⟨A, mm, c, ys, ss, rfl, hS, hp, hl, hle, ha, hs, hA, hb1⟩
  have hle' : mm ≤ 4194304 := by rw [HSZ.out] at hle; omega
  have FIN := Lib.hid (table_keys HM.out HT.out hS hp ha)
  have WF := Lib.hid (show ∀ s ∈ ys, wfSt s from fun s h => hS.2.1 s (hp.mem_iff.1 h))
  have O1 := Lib.hid (own_below OK.out hb1)
  have B1 := Lib.hid (below_chain BK.out hb1)
  have S1 := Lib.hid hs
  have HL := Lib.hid hl
  have HA := Lib.hid (show ∀ ad, A = some ad → w.heap.size < ad.block ∧ ad.block < w1.heap.size from fun ad h => ⟨by have := (hA ad h).1; omega, (hA ad h).2⟩)
  have hs1 : w0.heap.size < w1.heap.size := by have := hb1.size; omega
  clear hS hp hle ha hs hA hb1 hl SQ hsk
  go_wp2
  go_loopw [3, 13] (fun v i wr => ∃ k : Nat, k ≤ mm ∧ i = .int .i64 k ∧ RunT w w1 A ys zs k v wr) (fun _ i _ => mm - (intOf i).toNat)
  case atStart => exact ⟨0, Nat.zero_le _, rfl, O1.out, fun g h => .inl (by simpa [Value.ownBlock] using h.symm), S1.out, B1.out, Nat.le_refl _⟩
  case round =>
    obtain ⟨k, hk, rfl, hr⟩ := hrel
    have HR := Lib.hid hr
    clear hr
    by_cases hlt : k < mm
    · have l1 : k < ys.length := by rw [HL.out]; exact hlt
      obtain ⟨b1, o1, p, q, rfl, x1, e1, e2⟩ := HR.out.sts.at l1
      have i0' : (0 : Int) ≤ (k : Int) := by omega
      have i1 : (k : Int) < (mm : Int) := by omega
      obtain ⟨cv, hcv⟩ : ∃ cv, countAt zs (p, q) = cv := ⟨_, rfl⟩
      have LK := Lib.hid (show wfSt (p, q) ∧ countAt zs (p, q) = cv from ⟨by rw [← x1]; exact WF.out _ (List.getElem_mem l1), hcv⟩)
      have STEP := Lib.hid (show ctCells ((ys.take k).map fun s => (s, countAt zs s)) ++ ctCells [((p, q), cv)] = ctCells ((ys.take (k + 1)).map fun s => (s, countAt zs s)) by
        rw [List.take_succ_eq_append_getElem l1, x1, List.map_append, ctCells_append, ← hcv]; rfl)
      have hrs := HR.out.siz
      have hbs := HR.out.bel.size
      have hvl := fun g h => HR.out.own.lt g h
      have T0 := Lib.hid (show ReadS b m zs wr.heap.size p q (wr.alloc (.cells #[.int .i64 p, .int .i64 q] 30)).drew from ReadS.drew ⟨by simp, by simp, (CM.out.below HR.out.bel).kept (World.grownBy_alloc _ _ none) (by simp)⟩)
      have NE := Lib.hid (show some b ≠ u3.ownBlock ∧ some wr.heap.size ≠ u3.ownBlock from ⟨fun h => by have := (hvl b h.symm).1; omega, fun h => by have := (hvl _ h.symm).2; omega⟩)
      have OW := Lib.hid (show ((wr.alloc (.cells #[.int .i64 p, .int .i64 q] 30)).drew.alloc (.cells #[.int .i64 p, .int .i64 q, .int .i64 cv] 64)).ownsRow w.heap.size 64 3 u3 k (ctCells ((ys.take k).map fun s => (s, countAt zs s))) from ((HR.out.own.alloc _).drew).alloc _)
      have NW := Lib.hid (show ∀ j u, (ctCells [((p, q), cv)])[j]? = some u → ((wr.alloc (.cells #[.int .i64 p, .int .i64 q] 30)).drew.alloc (.cells #[.int .i64 p, .int .i64 q, .int .i64 cv] 64)).cell? ((⟨wr.heap.size + 1, 0, none⟩ : Addr).add j) = some u by
        have := (ct_new (wr.alloc (.cells #[.int .i64 p, .int .i64 q] 30)).drew p q cv).news
        simpa using this)
      have SZ := Lib.hid (show w.heap.size ≤ ((wr.alloc (.cells #[.int .i64 p, .int .i64 q] 30)).drew.alloc (.cells #[.int .i64 p, .int .i64 q, .int .i64 cv] 64)).heap.size by simp; omega)
      clear x1 hcv
      go_wp2_with fail
      refine wp_region_held_drew (S := ReadS b m zs wr.heap.size p q) (by kernel_rfl) ?_ (fun hHeld => ?_)
      · skip
        exact T0.out
      change wpAnyH _ _ opsT5 _ _ 9 (LT5 0) _ _
      refine tT5_0 (u3) (fun _ _ _ h => h) (Or.inl ⟨by rfl, fun W hSw => ?_⟩) hHeld ?_
      · skip
        unfold qT5_0
        go_simp
      try simp only [Act.put, List.setIfInBounds_toArray, List.set_cons_zero, List.set_cons_succ]
      refine tT5_1 (.agg #[.int .i64 p, .int .i64 q]) (fun _ _ _ h => h) (Or.inl ⟨by rfl, fun W hSw => ?_⟩) hHeld ?_
      · skip
        unfold qT5_1
        obtain ⟨c0, c1, mp⟩ := hSw
        go_simp
      try simp only [Act.put, List.setIfInBounds_toArray, List.set_cons_zero, List.set_cons_succ]
      refine tT5_2 (.map (some b)) (fun _ _ _ h => h) (Or.inl ⟨by rfl, fun W hSw => ?_⟩) hHeld ?_
      · skip
        unfold qT5_2
        go_simp
      try simp only [Act.put, List.setIfInBounds_toArray, List.set_cons_zero, List.set_cons_succ]
      refine tT5_3 (.agg #[.int .i64 p, .int .i64 q]) (fun _ _ _ h => h) (Or.inl ⟨by rfl, fun W hSw => ?_⟩) hHeld ?_
      · skip
        unfold qT5_3
        obtain ⟨c0, c1, mp⟩ := hSw
        go_simp
      try simp only [Act.put, List.setIfInBounds_toArray, List.set_cons_zero, List.set_cons_succ]
      refine tT5_4 (.int .i64 cv) (fun _ _ _ h => h) (Or.inl ⟨by rfl, fun W hSw => ?_⟩) hHeld ?_
      · skip
        unfold qT5_4
        obtain ⟨c0, c1, mp⟩ := hSw
        have hrun := mp.look LK.out
        go_simp
      try simp only [Act.put, List.setIfInBounds_toArray, List.set_cons_zero, List.set_cons_succ]
      refine tT5_5 (.agg #[.int .i64 p, .int .i64 q, .int .i64 cv]) (fun _ _ _ h => h) (Or.inl ⟨by rfl, fun W hSw => ?_⟩) hHeld ?_
      · skip
        unfold qT5_5
        go_simp
      try simp only [Act.put, List.setIfInBounds_toArray, List.set_cons_zero, List.set_cons_succ]
      refine cT5_6 (fun K hK => ?_)
      rw [if_pos (by rfl)]
      unfold qT5_6
      go_simp
      refine Shut.out hK _ _ ?_ (fun hHeld => ?_)
      · exact hHeld.alloc _
      clear hK K
      try simp only [Act.put, List.setIfInBounds_toArray, List.set_cons_zero, List.set_cons_succ]
      refine cT5_7 (fun K hK => ?_)
      refine step_append_lies _ (by rfl) (.tmp 17) (.tmp 23) 44 (by rfl) w.heap.size 64 i0 (.agg #[.int .i64 0, .int .i64 0, .int .i64 0]) 3 24 Tryz.underlying44 hi hz0 hz1 hz2 rfl (by omega) u3 k (ctCells ((ys.take k).map fun s => (s, countAt zs s))) (by rfl) OW.out ⟨wr.heap.size + 1, 0, none⟩ 1 1 (ctCells [((p, q), cv)]) (by rfl) (by rfl) NW.out (fun u hu => ctCells_one hu) (by omega) (by unfold maxLen; omega) (by omega) SZ.out (wr.heap.size + 2) (by simp) ?_
      intro gg cap w4 own4 gr4 at4 lt4
      refine Shut.out hK _ _ ?_ (fun hHeld => ?_)
      · exact hHeld.kept gr4 NE.out
      rw [show qT5_7.dst = some 24 from rfl]
      clear hK K
      try simp only [Act.put, List.setIfInBounds_toArray, List.set_cons_zero, List.set_cons_succ]
      refine tT5_8 (.slice (some ⟨gg, 0, none⟩) (k + 1) cap) (fun _ _ _ h => h) (Or.inl ⟨by rfl, fun W hSw => ?_⟩) hHeld ?_
      · skip
        unfold qT5_8
        go_simp
      try simp only [Act.put, List.setIfInBounds_toArray, List.set_cons_zero, List.set_cons_succ]
      refine wpAnyH_done (by kernel_rfl) ?_ _
      clear hHeld
      have R4 := Lib.hid (show RunT w w1 (some ⟨b1, o1, none⟩) ys zs (k + 1) (.slice (some ⟨gg, 0, none⟩) (k + 1) cap) w4 from
        ⟨by rw [← STEP.out]; exact own4,
         fun g h => by
           obtain rfl : gg = g := by simpa [Value.ownBlock] using h
           rcases at4 with h' | h'
           · exact HR.out.blk _ h'
           · exact .inr (by omega),
         (HR.out.sts.below (((Below.refl _ wr).alloc (Nat.le_refl _) _).drew.alloc (by simp) _)).kept gr4 (fun ad h h' => by
           have h1 := HA.out ad h
           rcases HR.out.blk _ h'.symm with h2 | h2 <;> omega),
         ((HR.out.bel.alloc hbs _).drew.alloc (by simp; omega) _).grown gr4 SZ.out (fun j h => (hvl j h).1),
         Nat.le_trans (by simp; omega) gr4.size⟩)
      clear own4 gr4 at4 lt4 OW NW T0 NE SZ
      go_wp2
      go_roundw
      case rel => exact ⟨k + 1, by omega, by go_num, R4.out⟩
      case measure => simp [intOf]; omega
    · have hkn : k = mm := by omega
      have hown := HR.out.own
      rw [List.take_of_length_le (by rw [HL.out]; omega), FIN.out] at hown
      have hlen : k = zs.length := by have := hown.1; rw [ctCells_length] at this; omega
      subst hlen
      have O2 := Lib.hid hown
      have B2 := Lib.hid HR.out.bel
      clear hown hkn
      go_wp2
      go_ret
      exact ⟨_, rfl, O2.out, B2.out⟩
end Go.Proofs.YtdmbkjebagnloaaGreatDoor.hexes

