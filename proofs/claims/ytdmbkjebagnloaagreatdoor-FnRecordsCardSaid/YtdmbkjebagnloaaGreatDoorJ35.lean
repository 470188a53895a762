/-
  Worlds that only grew (blocks behind, draws); cmp.Compare at integers; the sort of records by a comparison that keeps to ordRc.
-/
import Derived.Test.YtdmbkjebagnloaaGreatDoorJ34
import Derived.Test.YtdmbkjebagnloaaGreatDoorJ9
import Derived.Test.YtdmbkjebagnloaaGreatDoorJ7

namespace Go.Proofs.YtdmbkjebagnloaaGreatDoor.hexes
open Go.RowKit Go.Sort Go.Shelf

/-- The world has blocks and draws more, nothing else. -/
def Grew (W w' : World) : Prop := ∃ q os, w' = grow (W.drewN q) os
theorem Grew.refl (W : World) : Grew W W := ⟨0, #[], by rw [grow_empty]; rfl⟩
theorem Grew.alloc {W w' : World} (h : Grew W w') (o : Obj) : Grew W (w'.alloc o) := by
  obtain ⟨q, os, rfl⟩ := h
  exact ⟨q, os ++ #[o], by rw [alloc_eq_grow, grow_grow]⟩
theorem drewN_add (W : World) (a b : Nat) : (W.drewN a).drewN b = W.drewN (a + b) := by
  unfold World.drewN; simp [Nat.add_assoc]
theorem Grew.trans {W w' w2 : World} (h : Grew W w') (h2 : Grew w' w2) : Grew W w2 := by
  obtain ⟨q, os, rfl⟩ := h
  obtain ⟨q2, os2, rfl⟩ := h2
  exact ⟨q + q2, os ++ os2, by rw [show (grow (W.drewN q) os).drewN q2 = grow ((W.drewN q).drewN q2) os from rfl, grow_grow, drewN_add]⟩
theorem Grew.drew {W w' : World} (h : Grew W w') : Grew W w'.drew := h.trans ⟨1, #[], by rw [grow_empty]; rfl⟩
theorem Grew.below {W w' : World} (h : Grew W w') : Below W.heap.size W w' := by
  obtain ⟨q, os, rfl⟩ := h
  refine ⟨rfl, rfl, rfl, by simp [grow, World.drewN], fun k hk => ?_⟩
  show (W.heap ++ os)[k]? = _
  rw [Array.getElem?_append_left hk]

theorem isNaNInt_at (x : Int) (W : World) : Calls Tryz.prog 77 #[.int .i64 x] W fun e w' => e = .returned (.bool false) ∧ W = w' := by
  have hx : (x != x) = false := by simp
  go_enter Tryz.func77, Tryz.ntmps77
  go_wp2
  go_ret
  exact ⟨rfl, rfl⟩

theorem cmpInt_at (x y : Int) (W : World) : Calls Tryz.prog 53 #[.int .i64 x, .int .i64 y] W fun e w' => e = .returned (.int .i64 (ordI x y)) ∧ W = w' := by
  have HN := Lib.hid (fun z W => isNaNInt_at z W)
  rcases ordI_cases x y with ⟨h, e⟩ | ⟨h, e⟩ | ⟨h, e⟩
  all_goals
    rw [e]
    clear e
    go_enter Tryz.func53, Tryz.ntmps53
    go_wp2_with (go_at_call 77; refine (HN.out _ _).mono ?_; rintro e w1 ⟨rfl, rfl⟩)
    all_goals (go_ret; first | exact ⟨rfl, rfl⟩ | (exfalso; simp_all; omega))

/-- A record's five cells. -/
def encRc (z : Rc) : List Value := [.int .i64 z.1, .int .i64 z.2.1.1, .int .i64 z.2.1.2, .int .i64 z.2.2.1, .int .i64 z.2.2.2]

theorem ltOf_rc (x y : Rc) : ltOf ordRc x y = decide (ltR x y) := by
  unfold ltOf
  rw [decide_eq_decide]
  exact ordRc_neg x y

theorem swoRc : SWO (ltOf ordRc) where
  irrefl x := by rw [ltOf_rc]; simpa using ltR_irrefl x
  trans x y z h1 h2 := by rw [ltOf_rc] at *; simp only [decide_eq_true_eq] at *; exact ltR_trans h1 h2
  ntrans x y z h1 h2 := by rw [ltOf_rc] at *; simp only [decide_eq_false_iff_not] at *; exact ltR_ntrans h1 h2

/-- What the sort asks of a comparison. -/
def CmpRc (f : Nat) : Prop := ∀ (W : World) (p0 p1 p2 p3 p4 q0 q1 q2 q3 q4 : Int), Calls Tryz.prog f #[.agg #[.int .i64 p0, .int .i64 p1, .int .i64 p2, .int .i64 p3, .int .i64 p4], .agg #[.int .i64 q0, .int .i64 q1, .int .i64 q2, .int .i64 q3, .int .i64 q4]] W fun e w' => e = .returned (.int .i64 (ordRc (p0, (p1, p2), p3, p4) (q0, (q1, q2), q3, q4))) ∧ Grew W w'

theorem cmpRc_lays {f : Nat} (h : CmpRc f) (blk off size : Nat) (w : World) : CmpLays Tryz.prog f #[] encRc 5 ordRc blk off size w := by
  intro m os dk _ x y
  refine (h _ x.1 x.2.1.1 x.2.1.2 x.2.2.1 x.2.2.2 y.1 y.2.1.1 y.2.1.2 y.2.2.1 y.2.2.2).mono ?_
  rintro e w' ⟨rfl, q, os', rfl⟩
  exact ⟨rfl, q, os', rfl⟩

theorem flat_rc (zs : List Rc) (j : Nat) (hj : j < zs.length * 5) : (rcCells zs)[j]? = some (flatK encRc 5 zs.toArray)[j]! := by
  rw [get_flatK _ _ _ _ (by simpa using hj)]
  have hk : j / 5 < zs.length := by omega
  obtain ⟨e0, e1, e2, e3, e4⟩ := rcCells_at zs (j / 5) hk
  have e5 : zs.toArray[j / 5]! = zs[j / 5] := by simp [hk]
  rw [e5]
  have hm : j % 5 = 0 ∨ j % 5 = 1 ∨ j % 5 = 2 ∨ j % 5 = 3 ∨ j % 5 = 4 := by omega
  rcases hm with h2 | h2 | h2 | h2 | h2
  · rw [show j / 5 * 5 = j by omega] at e0
    rw [e0, h2]; rfl
  · rw [show j / 5 * 5 + 1 = j by omega] at e1
    rw [e1, h2]; rfl
  · rw [show j / 5 * 5 + 2 = j by omega] at e2
    rw [e2, h2]; rfl
  · rw [show j / 5 * 5 + 3 = j by omega] at e3
    rw [e3, h2]; rfl
  · rw [show j / 5 * 5 + 4 = j by omega] at e4
    rw [e4, h2]; rfl

theorem holds_own_rc {w : World} {B e g n c : Nat} {zs : List Rc} (h : w.ownsRow B e 5 (.slice (some ⟨g, 0, none⟩) n c) n (rcCells zs)) (hz : zs.length = n) : HoldsK encRc 5 w g 0 zs.toArray := fun j hj => by
  rw [size_flatK] at hj
  have hj2 : j < n * 5 := by simpa [hz] using hj
  rw [Nat.zero_add]
  refine ⟨?_, h.frozenAt j⟩
  rw [h.cellAt j hj2, flat_rc zs j (by omega)]
  rfl

theorem heap_sortRc {w : World} {g m : Nat} {os : Array Obj} {cur : Array Value} {e : TypeId} {fr : Nat × Nat} (d : Array Rc) (hb : w.heap[g]? = some (.cells cur e fr)) :
    (sortWorldK encRc 5 w g 0 m d os).heap[g]? = some (.cells (putCells id 0 (flatK encRc 5 d) cur) e fr) := by
  have hg : g < w.heap.size := (Array.getElem?_eq_some_iff.1 hb).1
  unfold sortWorldK grow putRowK putRow mapBlock
  rw [Array.getElem?_append_left (by simpa [Sort.ahead] using hg), Array.getElem?_modify, if_pos rfl]
  simp [Sort.ahead, hb, onCells]

theorem grown_sortRc (w : World) (g m : Nat) (d : Array Rc) (os : Array Obj) : w.grownBy (sortWorldK encRc 5 w g 0 m d os) (some g) := by
  refine ⟨rfl, rfl, rfl, SWK.le ⟨m, os, rfl⟩, fun k hk hne => ?_⟩
  have hne' : ¬g = k := fun h => hne (by rw [h])
  unfold sortWorldK grow putRowK putRow mapBlock
  rw [Array.getElem?_append_left (by simpa [Sort.ahead] using hk), Array.getElem?_modify, if_neg hne']
  rfl

theorem take_putRc (cur : Array Value) (zs : List Rc) (h : zs.length * 5 ≤ cur.size) : (putCells id 0 (flatK encRc 5 zs.toArray) cur).toList.take (zs.length * 5) = rcCells zs := by
  apply List.ext_getElem?
  intro j
  by_cases hj : j < zs.length * 5
  · rw [List.getElem?_take_of_lt hj, Array.getElem?_toList, flat_rc zs j hj]
    simp [putCells, hj, show j < cur.size by omega]
  · rw [List.getElem?_take_eq_none (by omega), List.getElem?_eq_none (by rw [rcCells_length]; omega)]

/-- How the sort ends: the same slice owns the sorted list. -/
def SortREnd (w : World) (B : Nat) (v : Value) (zs : List Rc) (n : Nat) (e : Ending) (w' : World) : Prop :=
  e = .returned (.tuple #[]) ∧ w'.ownsRow B 32 5 v n (rcCells (sortR zs)) ∧ w.grownBy w' v.ownBlock

theorem sortRc_own (f : Nat) (eg : ∀ args w, (callFunc f args).run Tryz.prog w = .ok (.enter f args) w) (hf : CmpRc f) (n : Nat) (zs : List Rc) (hz : zs.length = n) (hn : n ≤ 4194304) (B : Nat) (v : Value) (w : World) (h : w.ownsRow B 32 5 v n (rcCells zs)) :
    Calls Tryz.prog 29 #[v, .func (.func f) #[] #[]] w (SortREnd w B v zs n) := by
  obtain ⟨A, c, rfl, hfm⟩ := own_form h
  by_cases h0 : n = 0
  · subst h0
    obtain rfl := List.eq_nil_of_length_eq_zero hz
    have hcon := AnyF.slices_SortFunc_none Tryz.sortRc A c (.func (.func f) #[] #[]) w
    change Calls Tryz.prog 29 _ _ _ at hcon
    refine hcon.mono ?_
    rintro e w' ⟨rfl, rfl⟩
    exact ⟨rfl, by rw [sortR_is (List.Perm.refl []) List.Pairwise.nil]; exact h, grown_refl _ _⟩
  · obtain ⟨g, rfl⟩ := hfm (by omega)
    have hH := holds_own_rc h hz
    have hlt := own_lt h
    have hcon := AnyQ.slices_SortFunc Tryz.sortRc 5 Tryz.isAgg32 Tryz.sizeOf32 encRc (fun _ => rfl) (fun x v hv => by simp [encRc] at hv; rcases hv with rfl | rfl | rfl | rfl | rfl <;> rfl) ordRc swoRc f #[] g 0 c zs.toArray w eg (cmpRc_lays hf g 0 _ w) hH hlt (by simp; omega)
    change Calls Tryz.prog 29 _ _ _ at hcon
    rw [show zs.toArray.size = n by simpa using hz] at hcon
    refine hcon.mono ?_
    rintro e w' ⟨rfl, d', m, os, hp, hs, rfl⟩
    have hsz : d'.size = n := by rw [hp.1]; simpa using hz
    have hperm : d'.toList.Perm zs := by
      have := hp.2.2
      rwa [Array.extract_eq_self_of_le (by omega), Array.extract_eq_self_of_le (by simp; omega)] at this
    have hasc : AscR d'.toList := List.pairwise_iff_getElem.2 fun i j hi hj hij => by
      have h1 := hs i j (Nat.zero_le _) hij (by rw [← hsz]; simpa using hj)
      rw [ltOf_rc, decide_eq_false_iff_not, getElem!_pos d' i (by simpa using hi), getElem!_pos d' j (by simpa using hj)] at h1
      simpa using h1
    refine ⟨rfl, ?_, grown_sortRc w g m d' os⟩
    rw [sortR_is hperm hasc]
    rcases h.2 with ⟨h', _⟩ | ⟨g', cap', cur, h', hB, hb, hnc, hcm, hcs, _⟩
    · cases h'
    · cases h'
      have hdl : d'.toList.length = n := by simpa using hsz
      refine ⟨by rw [rcCells_length, hdl], .inr ⟨g, c, _, rfl, hB, heap_sortRc d' hb, hnc, hcm, by simp [putCells, hcs], ?_⟩⟩
      have := take_putRc cur d'.toList (by rw [hdl, hcs]; exact Nat.mul_le_mul_right 5 hnc)
      rw [hdl] at this
      exact this

end Go.Proofs.YtdmbkjebagnloaaGreatDoor.hexes

