/-
  The program's sorted container of cells: its closures, has, placeOf, ascends; the contracts of impl.HasCell and impl.CellsOk.
-/
import Derived.Test.YtlanmkimaambgaaJ19
import Derived.Test.YtlanmkimaambgaaJ22
import Derived.Test.YtlanmkimaambgaaJ37
import Derived.Laws.EntriesVeiled
import Derived.Shelf.AbstractIn

namespace Go.Proofs.Ytlanmkimaambgaa.hexes
open Go.RowKit

structure XW (V : World) (b : Nat) (x0 x1 x2 x3 : Int) (w : World) : Prop where
  x : XB b x0 x1 x2 x3 w
  bel : Below V.heap.size V w
theorem XW.below {V : World} {b : Nat} {x0 x1 x2 x3 : Int} {w w' : World} (h : XW V b x0 x1 x2 x3 w) (hb : Below w.heap.size w w') : XW V b x0 x1 x2 x3 w' := ⟨h.x.below hb, below_chain h.bel hb⟩

theorem sorted_any (A : Option Addr) (n c : Nat) (w : World) :
    Calls Try.prog 108 #[.slice A n c] w fun e w' => e = .returned (.agg #[.slice A n c, .func (.func 114) #[] #[]]) ∧ Below w.heap.size w w' := by
  go_enter Try.func108, Try.ntmps108
  go_wp2
  exact bodyPost_ret (v := .agg #[.slice A n c, .func (.func 114) #[] #[]]) (by simp [results, Try.results108, go_sem]) rfl ⟨rfl, (Below.refl _ _).alloc (Nat.le_refl _) _⟩

set_option maxRecDepth 100000 in
theorem hasFn_pred (sb xb : Nat) (x0 x1 x2 x3 : Int) (w : World) (hs : w.cell? ⟨sb, 1, none⟩ = some (.func (.func 114) #[] #[])) (hx : XB xb x0 x1 x2 x3 w) :
    PredCe 118 #[] #[.pointer (some ⟨sb, 0, none⟩), .pointer (some ⟨xb, 0, none⟩)] (fun z => decide (z = (x0, x1, x2, x3))) w := by
  intro W z0 z1 z2 z3 hb
  obtain ⟨V, hV⟩ : ∃ z, W.alloc (.cells #[.int .i64 z0, .int .i64 z1, .int .i64 z2, .int .i64 z3] 75) = z := ⟨_, rfl⟩
  have BV := Lib.hid (show Below w.heap.size w V by rw [← hV]; exact hb.alloc hb.size _)
  have XZ := (show XB W.heap.size z0 z1 z2 z3 V by rw [← hV]; exact XB.new _ _ _ _ _)
  have XX := (show XB xb x0 x1 x2 x3 V from hx.below BV.out)
  have s1 := below_keep BV.out hs
  obtain ⟨c0, c1, c2, c3⟩ := XZ
  obtain ⟨d0, d1, d2, d3⟩ := XX
  obtain ⟨v, hv⟩ : ∃ v, ordCe (z0, z1, z2, z3) (x0, x1, x2, x3) = v := ⟨_, rfl⟩
  have E := Lib.hid (implCeOrd_is hv V)
  have HD := Lib.hid (show (fun z : Ce => decide (z = (x0, x1, x2, x3))) (z0, z1, z2, z3) = (v == 0) by
    show decide _ = _
    rw [← hv]
    rw [Bool.eq_iff_iff]
    simp only [decide_eq_true_eq, beq_iff_eq]
    exact (ordCe_zero _ _).symm)
  clear hb hs hx hv
  show Calls Try.prog 118 #[.agg #[.int .i64 z0, .int .i64 z1, .int .i64 z2, .int .i64 z3], .pointer (some ⟨sb, 0, none⟩), .pointer (some ⟨xb, 0, none⟩)] W _
  go_enter Try.func118, Try.ntmps118
  go_wp2_with fail
  clear hV
  refine E.out.mono ?_
  rintro e w1 ⟨rfl, b1⟩
  have B1 := Lib.hid (below_chain BV.out b1)
  clear b1 s1 c0 c1 c2 c3 d0 d1 d2 d3 E
  obtain ⟨q, hq⟩ : ∃ q, (v == 0) = q := ⟨_, rfl⟩
  have HQ := Lib.hid (HD.out.trans hq)
  clear HD
  cases q with
  | true =>
    go_wp2
    go_ret
    exact ⟨congrArg (fun b => Ending.returned (Value.bool b)) HQ.out.symm, B1.out⟩
  | false =>
    go_wp2
    go_ret
    exact ⟨congrArg (fun b => Ending.returned (Value.bool b)) HQ.out.symm, B1.out⟩

set_option maxRecDepth 100000 in
theorem placeFn_pred (sb xb : Nat) (x0 x1 x2 x3 : Int) (w : World) (hs : w.cell? ⟨sb, 1, none⟩ = some (.func (.func 114) #[] #[])) (hx : XB xb x0 x1 x2 x3 w) :
    PredCe 122 #[] #[.pointer (some ⟨sb, 0, none⟩), .pointer (some ⟨xb, 0, none⟩)] (fun z => !decide (ltE z (x0, x1, x2, x3))) w := by
  intro W z0 z1 z2 z3 hb
  obtain ⟨V, hV⟩ : ∃ z, W.alloc (.cells #[.int .i64 z0, .int .i64 z1, .int .i64 z2, .int .i64 z3] 75) = z := ⟨_, rfl⟩
  have BV := Lib.hid (show Below w.heap.size w V by rw [← hV]; exact hb.alloc hb.size _)
  have XZ := (show XB W.heap.size z0 z1 z2 z3 V by rw [← hV]; exact XB.new _ _ _ _ _)
  have XX := (show XB xb x0 x1 x2 x3 V from hx.below BV.out)
  have s1 := below_keep BV.out hs
  obtain ⟨c0, c1, c2, c3⟩ := XZ
  obtain ⟨d0, d1, d2, d3⟩ := XX
  obtain ⟨v, hv⟩ : ∃ v, ordCe (z0, z1, z2, z3) (x0, x1, x2, x3) = v := ⟨_, rfl⟩
  have E := Lib.hid (implCeOrd_is hv V)
  have HD := Lib.hid (show (fun z : Ce => !decide (ltE z (x0, x1, x2, x3))) (z0, z1, z2, z3) = decide (v ≥ 0) by
    show (!decide _) = _
    rw [← hv, ← decide_not, decide_eq_decide]
    have := ordCe_neg (z0, z1, z2, z3) (x0, x1, x2, x3)
    constructor
    · intro h
      have : ¬ordCe (z0, z1, z2, z3) (x0, x1, x2, x3) < 0 := fun h' => h (this.1 h')
      omega
    · intro h h'
      have := this.2 h'
      omega)
  clear hb hs hx hv
  show Calls Try.prog 122 #[.agg #[.int .i64 z0, .int .i64 z1, .int .i64 z2, .int .i64 z3], .pointer (some ⟨sb, 0, none⟩), .pointer (some ⟨xb, 0, none⟩)] W _
  go_enter Try.func122, Try.ntmps122
  go_wp2_with fail
  clear hV
  refine E.out.mono ?_
  rintro e w1 ⟨rfl, b1⟩
  have B1 := Lib.hid (below_chain BV.out b1)
  clear b1 s1 c0 c1 c2 c3 d0 d1 d2 d3 E
  obtain ⟨q, hq⟩ : ∃ q, decide (v ≥ 0) = q := ⟨_, rfl⟩
  have HQ := Lib.hid (HD.out.trans hq)
  clear HD
  cases q with
  | true =>
    go_wp2
    go_ret
    exact ⟨congrArg (fun b => Ending.returned (Value.bool b)) HQ.out.symm, B1.out⟩
  | false =>
    go_wp2
    go_ret
    exact ⟨congrArg (fun b => Ending.returned (Value.bool b)) HQ.out.symm, B1.out⟩

theorem any_hasC (zs : List Ce) (x : Ce) : zs.any (fun z => decide (z = x)) = hasC zs x := by
  unfold hasC
  rw [Bool.eq_iff_iff, List.any_eq_true]
  simp

set_option maxRecDepth 100000 in
theorem sHas_any (n : Nat) (zs : List Ce) (hz : zs.length = n) (A : Option Addr) (c : Nat) (x0 x1 x2 x3 : Int) (w : World) (h1 : Ces w A zs) (hn : n ≤ 4194304) :
    Calls Try.prog 110 #[.agg #[.slice A n c, .func (.func 114) #[] #[]], .agg #[.int .i64 x0, .int .i64 x1, .int .i64 x2, .int .i64 x3]] w fun e w' => e = .returned (.bool (hasC zs (x0, x1, x2, x3))) ∧ Below w.heap.size w w' := by
  obtain ⟨V, hV⟩ : ∃ z, (w.alloc (.cells #[.slice A n c, .func (.func 114) #[] #[]] 140)).alloc (.cells #[.int .i64 x0, .int .i64 x1, .int .i64 x2, .int .i64 x3] 75) = z := ⟨_, rfl⟩
  have BV := Lib.hid (show Below w.heap.size w V by rw [← hV]; exact ((Below.refl _ _).alloc (by simp) _).alloc (by simp) _)
  have s0 : V.cell? ⟨w.heap.size, 0, none⟩ = some (.slice A n c) := by rw [← hV]; exact alloc_keep (by simp)
  have s1 : V.cell? ⟨w.heap.size, 1, none⟩ = some (.func (.func 114) #[] #[]) := by rw [← hV]; exact alloc_keep (by simp)
  have XV : XB (w.heap.size + 1) x0 x1 x2 x3 V := by rw [← hV]; exact ⟨by simp, by simp, by simp, by simp⟩
  have C := Lib.hid (conFn_any 118 #[] #[.pointer (some ⟨w.heap.size, 0, none⟩), .pointer (some ⟨w.heap.size + 1, 0, none⟩)] (enters_of Try.func118 (by kernel_rfl) rfl) _ n zs hz A c V (h1.below BV.out) (hasFn_pred w.heap.size (w.heap.size + 1) x0 x1 x2 x3 V s1 XV) hn)
  clear h1 hz XV
  go_enter Try.func110, Try.ntmps110
  go_wp2_with fail
  clear hV s0 s1
  refine C.out.mono ?_
  rintro e w1 ⟨rfl, b1⟩
  rw [any_hasC]
  have B1 := Lib.hid (below_chain BV.out b1)
  clear b1 C
  go_wp2
  go_ret
  exact ⟨rfl, B1.out⟩

/-- The place at which x goes in. -/
structure PlaceIs (zs : List Ce) (x : Ce) (k : Nat) : Prop where
  le : k ≤ zs.length
  lt : ∀ z ∈ zs.take k, ltE z x
  ge : ∀ h : k < zs.length, ¬ltE zs[k] x

set_option maxRecDepth 100000 in
theorem sPlace_any (n : Nat) (zs : List Ce) (hz : zs.length = n) (A : Option Addr) (c : Nat) (x0 x1 x2 x3 : Int) (w : World) (h1 : Ces w A zs) (hn : n ≤ 4194304) :
    Calls Try.prog 115 #[.agg #[.slice A n c, .func (.func 114) #[] #[]], .agg #[.int .i64 x0, .int .i64 x1, .int .i64 x2, .int .i64 x3]] w fun e w' => ∃ k : Nat, e = .returned (.int .i64 (k : Int)) ∧ PlaceIs zs (x0, x1, x2, x3) k ∧ Below w.heap.size w w' := by
  obtain ⟨V, hV⟩ : ∃ z, (w.alloc (.cells #[.slice A n c, .func (.func 114) #[] #[]] 140)).alloc (.cells #[.int .i64 x0, .int .i64 x1, .int .i64 x2, .int .i64 x3] 75) = z := ⟨_, rfl⟩
  have BV := Lib.hid (show Below w.heap.size w V by rw [← hV]; exact ((Below.refl _ _).alloc (by simp) _).alloc (by simp) _)
  have s0 : V.cell? ⟨w.heap.size, 0, none⟩ = some (.slice A n c) := by rw [← hV]; exact alloc_keep (by simp)
  have s1 : V.cell? ⟨w.heap.size, 1, none⟩ = some (.func (.func 114) #[] #[]) := by rw [← hV]; exact alloc_keep (by simp)
  have XV : XB (w.heap.size + 1) x0 x1 x2 x3 V := by rw [← hV]; exact ⟨by simp, by simp, by simp, by simp⟩
  have C := Lib.hid (idxFn_any 122 #[] #[.pointer (some ⟨w.heap.size, 0, none⟩), .pointer (some ⟨w.heap.size + 1, 0, none⟩)] (enters_of Try.func122 (by kernel_rfl) rfl) _ n zs hz A c V (h1.below BV.out) (placeFn_pred w.heap.size (w.heap.size + 1) x0 x1 x2 x3 V s1 XV) hn)
  have HZ := Lib.hid hz
  clear h1 hz XV
  go_enter Try.func115, Try.ntmps115
  go_wp2_with fail
  clear hV
  refine C.out.mono ?_
  rintro e w1 ⟨r, rfl, hr, b1⟩
  have B1 := Lib.hid (below_chain BV.out b1)
  have t0 := below_keep b1 s0
  clear b1 C s0 s1
  rcases hr.hit with ⟨k, hk, rfl, ht, hf⟩ | ⟨rfl, hf⟩
  · have HP := Lib.hid (show PlaceIs zs (x0, x1, x2, x3) k from ⟨Nat.le_of_lt hk, fun z hz => by have := hf z hz; simpa using this, fun _ => by simpa using ht⟩)
    have k0 : decide ((k : Int) < 0) = false := by simp
    clear hk ht hf hr
    go_wp2
    go_ret
    exact ⟨k, rfl, HP.out, B1.out⟩
  · have HP := Lib.hid (show PlaceIs zs (x0, x1, x2, x3) n from ⟨by rw [HZ.out]; exact Nat.le_refl _, fun z hz => by have := hf z (List.mem_of_mem_take hz); simpa using this, fun h => absurd h (by rw [HZ.out]; omega)⟩)
    clear hf hr
    go_wp2
    go_ret
    exact ⟨n, rfl, HP.out, B1.out⟩

set_option maxRecDepth 100000 in
set_option maxHeartbeats 4000000 in
theorem implHas_any (n : Nat) (zs : List Ce) (hz : zs.length = n) (A : Option Addr) (c : Nat) (x0 x1 x2 x3 : Int) (w : World) (h1 : Ces w A zs) (hn : n ≤ 4194304) :
    Calls Try.prog 97 #[.slice A n c, .agg #[.int .i64 x0, .int .i64 x1, .int .i64 x2, .int .i64 x3]] w fun e w' => e = .returned (.bool (hasC zs (x0, x1, x2, x3))) ∧ Below w.heap.size w w' := by
  have H1 := Lib.hid h1
  have HZ := Lib.hid hz
  clear h1 hz
  obtain ⟨V, hV⟩ : ∃ z, (w.alloc (.cells #[.int .i64 x0, .int .i64 x1, .int .i64 x2, .int .i64 x3] 75)).drew = z := ⟨_, rfl⟩
  have BV := Lib.hid (show Below w.heap.size w V by rw [← hV]; exact ((Below.refl _ _).alloc (Nat.le_refl _) _).drew)
  have XV := Lib.hid (show XW V w.heap.size x0 x1 x2 x3 V by rw [← hV]; exact ⟨(XB.new _ _ _ _ _).drew, Below.refl _ _⟩)
  go_enter Try.func97, Try.ntmps97
  go_wp2_with fail
  refine wp_region_held_drew (S := XW V w.heap.size x0 x1 x2 x3) (by kernel_rfl) ?_ (fun hHeld => ?_)
  · skip
    rw [hV]; exact XV.out
  change wpAnyH _ _ opsH1 _ _ 5 (LH1 0) _ _
  rw [hV] at hHeld ⊢
  clear hV
  refine tH1_0 (.slice A n c) (fun _ _ _ h => h) (Or.inl ⟨by rfl, fun W hSw => ?_⟩) hHeld ?_
  · skip
    unfold qH1_0
    go_simp
  try simp only [Act.put, List.setIfInBounds_toArray, List.set_cons_zero, List.set_cons_succ]
  refine tH1_1 (.agg #[.int .i64 x0, .int .i64 x1, .int .i64 x2, .int .i64 x3]) (fun _ _ _ h => h) (Or.inl ⟨by rfl, fun W hSw => ?_⟩) hHeld ?_
  · skip
    unfold qH1_2
    obtain ⟨⟨c0, c1, c2, c3⟩, _⟩ := hSw
    go_simp
  try simp only [Act.put, List.setIfInBounds_toArray, List.set_cons_zero, List.set_cons_succ]
  refine cH1_2 (fun K hK => ?_)
  rw [if_pos (by rfl)]
  unfold qH1_1
  go_simp
  refine (sorted_any A n c _).mono ?_
  rintro e w5 ⟨rfl, b5⟩
  refine Shut.out hK _ _ ?_ (fun hHeld => ?_)
  · exact hHeld.below b5
  clear hK K
  try simp only [Act.put, List.setIfInBounds_toArray, List.set_cons_zero, List.set_cons_succ]
  refine cH1_3 (fun K hK => ?_)
  rw [if_pos (by rfl)]
  unfold qH1_3
  go_simp
  refine (sHas_any n zs HZ.out A c x0 x1 x2 x3 w5 (H1.out.below (below_chain BV.out hHeld.bel)) (by omega)).mono ?_
  rintro e w6 ⟨rfl, b6⟩
  obtain ⟨b, hb⟩ : ∃ b, hasC zs (x0, x1, x2, x3) = b := ⟨_, rfl⟩
  rw [hb]
  refine Shut.out hK _ _ ?_ (fun hHeld => ?_)
  · exact hHeld.below b6
  clear hK K
  try simp only [Act.put, List.setIfInBounds_toArray, List.set_cons_zero, List.set_cons_succ]
  refine tH1_4 (.bool b) (fun _ _ _ h => h) (Or.inl ⟨by rfl, fun W hSw => ?_⟩) hHeld ?_
  · skip
    unfold qH1_4
    go_simp
  try simp only [Act.put, List.setIfInBounds_toArray, List.set_cons_zero, List.set_cons_succ]
  refine wpAnyH_done (by kernel_rfl) ?_ _
  have B6 := Lib.hid (below_chain BV.out hHeld.bel)
  clear hHeld
  go_wp2
  go_ret
  exact ⟨by rw [hb]; rfl, B6.out⟩
end Go.Proofs.Ytlanmkimaambgaa.hexes

