/-
  slices.IndexFunc and slices.ContainsFunc at cells, for whatever predicate.
  The program's sorted container of cells: its closures, has, placeOf, ascends; the contracts of impl.HasCell and impl.CellsOk.
-/
import Derived.Test.YtbbagpnjjjohpaaJ17
import Derived.Test.YtbbagpnjjjohpaaJ18
import Derived.Test.YtbbagpnjjjohpaaJ22
import Derived.Test.YtbbagpnjjjohpaaJ33
import Derived.Laws.EntriesVeiled
import Derived.Shelf.AbstractIn

namespace Go.Proofs.Ytbbagpnjjjohpaa.hexes
open Go.RowKit

/-- The place of the first at which p holds, or -1. -/
structure IdxIs (p : Ce → Bool) (zs : List Ce) (r : Int) : Prop where
  hit : (∃ k, ∃ h : k < zs.length, r = (k : Int) ∧ p zs[k] = true ∧ ∀ z ∈ zs.take k, p z = false) ∨ (r = -1 ∧ ∀ z ∈ zs, p z = false)

/-- What is asked of a predicate: its answer, whatever has been laid since. -/
def PredCe (g : Nat) (bs lb : Array Value) (p : Ce → Bool) (w : World) : Prop :=
  ∀ (W : World) (z0 z1 z2 z3 : Int), Below w.heap.size w W → Calls Try.prog g (bs.push (.agg #[.int .i64 z0, .int .i64 z1, .int .i64 z2, .int .i64 z3]) ++ lb) W fun e w' => e = .returned (.bool (p (z0, z1, z2, z3))) ∧ Below w.heap.size w w'

set_option maxRecDepth 100000 in
set_option maxHeartbeats 4000000 in
theorem idxFn_any (g : Nat) (bs lb : Array Value) (eg : ∀ args w, (callFunc g args).run Try.prog w = .ok (.enter g args) w) (p : Ce → Bool) (n : Nat) (zs : List Ce) (hz : zs.length = n) (A : Option Addr) (c : Nat) (w : World) (h1 : Ces w A zs) (hp : PredCe g bs lb p w) (hn : n ≤ 4194304) :
    Calls Try.prog 117 #[.slice A n c, .func (.func g) bs lb] w fun e w' => ∃ r, e = .returned (.int .i64 r) ∧ IdxIs p zs r ∧ Below w.heap.size w w' := by
  have H1 := Lib.hid h1
  have HZ := Lib.hid hz
  have HP := Lib.hid hp
  clear h1 hz hp
  go_enter Try.func117, Try.ntmps117
  go_wp2
  go_loopw [5, 8] (fun _ i wr => ∃ k : Nat, k ≤ n ∧ i = .int .i64 k ∧ (∀ z ∈ zs.take k, p z = false) ∧ Below w.heap.size w wr) (fun _ i _ => n - (intOf i).toNat)
  case atStart => exact ⟨0, Nat.zero_le _, rfl, (fun z hz => by simp at hz), Below.refl _ _⟩
  case round =>
    obtain ⟨k, hk, rfl, hf, hb⟩ := hrel
    have HF := Lib.hid hf
    have HB := Lib.hid hb
    clear hf hb
    by_cases hlt : k < n
    · have l1 : k < zs.length := by rw [HZ.out]; exact hlt
      obtain ⟨b1, o1, p0, p1, p2, p3, rfl, xz, e0, e1, e2, e3⟩ := (H1.out.below HB.out).at l1
      have i0 : (0 : Int) ≤ (k : Int) := by omega
      have i1 : (k : Int) < (n : Int) := by omega
      have hcall := HP.out wr p0 p1 p2 p3 HB.out
      cases hq : p (p0, p1, p2, p3) with
      | true =>
        rw [hq] at hcall
        have HR := Lib.hid (show IdxIs p zs (k : Int) from ⟨.inl ⟨k, l1, rfl, by rw [xz]; exact hq, HF.out⟩⟩)
        clear xz l1 HF hq
        go_wp2_with fail
        refine hcall.mono ?_
        rintro e w' ⟨rfl, hb'⟩
        have HB' := Lib.hid hb'
        clear hb' hcall
        go_wp2
        go_ret
        exact ⟨_, rfl, HR.out, HB'.out⟩
      | false =>
        rw [hq] at hcall
        have HS := Lib.hid (show ∀ z ∈ zs.take (k + 1), p z = false from fun z hz => by
          rw [List.take_succ_eq_append_getElem l1] at hz
          rcases List.mem_append.1 hz with h | h
          · exact HF.out z h
          · obtain rfl : z = zs[k] := by simpa using h
            rw [xz]
            exact hq)
        clear xz l1 HF hq
        go_wp2_with fail
        refine hcall.mono ?_
        rintro e w' ⟨rfl, hb'⟩
        have HB' := Lib.hid hb'
        clear hb' hcall
        go_wp2
        go_roundw
        case rel => exact ⟨k + 1, by omega, by go_num, HS.out, HB'.out⟩
        case measure => simp [intOf]; omega
    · have HR := Lib.hid (show IdxIs p zs (-1) from ⟨.inr ⟨rfl, by
        have h := HF.out
        rwa [List.take_of_length_le (by rw [HZ.out]; omega)] at h⟩⟩)
      go_wp2
      go_ret
      exact ⟨_, rfl, HR.out, HB.out⟩

set_option maxRecDepth 100000 in
theorem conFn_any (g : Nat) (bs lb : Array Value) (eg : ∀ args w, (callFunc g args).run Try.prog w = .ok (.enter g args) w) (p : Ce → Bool) (n : Nat) (zs : List Ce) (hz : zs.length = n) (A : Option Addr) (c : Nat) (w : World) (h1 : Ces w A zs) (hp : PredCe g bs lb p w) (hn : n ≤ 4194304) :
    Calls Try.prog 129 #[.slice A n c, .func (.func g) bs lb] w fun e w' => e = .returned (.bool (zs.any p)) ∧ Below w.heap.size w w' := by
  have C := Lib.hid (idxFn_any g bs lb eg p n zs hz A c w h1 hp hn)
  clear h1 hz hp
  go_enter Try.func129, Try.ntmps129
  go_wp2_with fail
  refine C.out.mono ?_
  rintro e w1 ⟨r, rfl, hr, b1⟩
  have B1 := Lib.hid b1
  have HA := Lib.hid (show zs.any p = decide (0 ≤ r) by
    rcases hr.hit with ⟨k, hk, rfl, ht, _⟩ | ⟨rfl, hf⟩
    · rw [List.any_eq_true.2 ⟨zs[k], List.getElem_mem hk, ht⟩]; simp
    · rw [List.any_eq_false.2 (fun z hz => by rw [hf z hz]; decide)]; rfl)
  clear hr b1 C
  go_wp2
  go_ret
  exact ⟨congrArg (fun b => Ending.returned (Value.bool b)) HA.out.symm, B1.out⟩
end Go.Proofs.Ytbbagpnjjjohpaa.hexes

namespace Go.Proofs.Ytbbagpnjjjohpaa.hexes
open Go.RowKit

structure XW (V : World) (b : Nat) (x0 x1 x2 x3 : Int) (w : World) : Prop where
  x : XB b x0 x1 x2 x3 w
  bel : Below V.heap.size V w
theorem XW.below {V : World} {b : Nat} {x0 x1 x2 x3 : Int} {w w' : World} (h : XW V b x0 x1 x2 x3 w) (hb : Below w.heap.size w w') : XW V b x0 x1 x2 x3 w' := ⟨h.x.below hb, below_chain h.bel hb⟩

theorem sorted_any (A : Option Addr) (n c : Nat) (w : World) :
    Calls Try.prog 118 #[.slice A n c] w fun e w' => e = .returned (.agg #[.slice A n c, .func (.func 122) #[] #[]]) ∧ Below w.heap.size w w' := by
  go_enter Try.func118, Try.ntmps118
  go_wp2
  exact bodyPost_ret (v := .agg #[.slice A n c, .func (.func 122) #[] #[]]) (by simp [results, Try.results118, go_sem]) rfl ⟨rfl, (Below.refl _ _).alloc (Nat.le_refl _) _⟩

set_option maxRecDepth 100000 in
theorem hasFn_pred (sb xb : Nat) (x0 x1 x2 x3 : Int) (w : World) (hs : w.cell? ⟨sb, 1, none⟩ = some (.func (.func 122) #[] #[])) (hx : XB xb x0 x1 x2 x3 w) :
    PredCe 130 #[] #[.pointer (some ⟨sb, 0, none⟩), .pointer (some ⟨xb, 0, none⟩)] (fun z => decide (z = (x0, x1, x2, x3))) w := by
  intro W z0 z1 z2 z3 hb
  obtain ⟨V, hV⟩ : ∃ z, W.alloc (.cells #[.int .i64 z0, .int .i64 z1, .int .i64 z2, .int .i64 z3] 38) = z := ⟨_, rfl⟩
  have BV := Lib.hid (show Below w.heap.size w V by rw [← hV]; exact hb.alloc hb.size _)
  have XZ := (show XB W.heap.size z0 z1 z2 z3 V by rw [← hV]; exact XB.new _ _ _ _ _)
  have XX := (show XB xb x0 x1 x2 x3 V from hx.below BV.out)
  have s1 := below_keep BV.out hs
  obtain ⟨c0, c1, c2, c3⟩ := XZ
  obtain ⟨d0, d1, d2, d3⟩ := XX
  obtain ⟨v, hv⟩ : ∃ v, ordCe (z0, z1, z2, z3) (x0, x1, x2, x3) = v := ⟨_, rfl⟩
  have E := Lib.hid (implCeOrd_is hv V)
  have HD := Lib.hid (show (fun z : Ce => decide (z = (x0, x1, x2, x3))) (z0, z1, z2, z3) = (v == 0) by
    show decide _ = _
    rw [← hv]
    rw [Bool.eq_iff_iff]
    simp only [decide_eq_true_eq, beq_iff_eq]
    exact (ordCe_zero _ _).symm)
  clear hb hs hx hv
  show Calls Try.prog 130 #[.agg #[.int .i64 z0, .int .i64 z1, .int .i64 z2, .int .i64 z3], .pointer (some ⟨sb, 0, none⟩), .pointer (some ⟨xb, 0, none⟩)] W _
  go_enter Try.func130, Try.ntmps130
  go_wp2_with fail
  clear hV
  refine E.out.mono ?_
  rintro e w1 ⟨rfl, b1⟩
  have B1 := Lib.hid (below_chain BV.out b1)
  clear b1 s1 c0 c1 c2 c3 d0 d1 d2 d3 E
  obtain ⟨q, hq⟩ : ∃ q, (v == 0) = q := ⟨_, rfl⟩
  have HQ := Lib.hid (HD.out.trans hq)
  clear HD
  cases q with
  | true =>
    go_wp2
    go_ret
    exact ⟨congrArg (fun b => Ending.returned (Value.bool b)) HQ.out.symm, B1.out⟩
  | false =>
    go_wp2
    go_ret
    exact ⟨congrArg (fun b => Ending.returned (Value.bool b)) HQ.out.symm, B1.out⟩

set_option maxRecDepth 100000 in
theorem placeFn_pred (sb xb : Nat) (x0 x1 x2 x3 : Int) (w : World) (hs : w.cell? ⟨sb, 1, none⟩ = some (.func (.func 122) #[] #[])) (hx : XB xb x0 x1 x2 x3 w) :
    PredCe 131 #[] #[.pointer (some ⟨sb, 0, none⟩), .pointer (some ⟨xb, 0, none⟩)] (fun z => !decide (ltE z (x0, x1, x2, x3))) w := by
  intro W z0 z1 z2 z3 hb
  obtain ⟨V, hV⟩ : ∃ z, W.alloc (.cells #[.int .i64 z0, .int .i64 z1, .int .i64 z2, .int .i64 z3] 38) = z := ⟨_, rfl⟩
  have BV := Lib.hid (show Below w.heap.size w V by rw [← hV]; exact hb.alloc hb.size _)
  have XZ := (show XB W.heap.size z0 z1 z2 z3 V by rw [← hV]; exact XB.new _ _ _ _ _)
  have XX := (show XB xb x0 x1 x2 x3 V from hx.below BV.out)
  have s1 := below_keep BV.out hs
  obtain ⟨c0, c1, c2, c3⟩ := XZ
  obtain ⟨d0, d1, d2, d3⟩ := XX
  obtain ⟨v, hv⟩ : ∃ v, ordCe (z0, z1, z2, z3) (x0, x1, x2, x3) = v := ⟨_, rfl⟩
  have E := Lib.hid (implCeOrd_is hv V)
  have HD := Lib.hid (show (fun z : Ce => !decide (ltE z (x0, x1, x2, x3))) (z0, z1, z2, z3) = decide (v ≥ 0) by
    show (!decide _) = _
    rw [← hv, ← decide_not, decide_eq_decide]
    have := ordCe_neg (z0, z1, z2, z3) (x0, x1, x2, x3)
    constructor
    · intro h
      have : ¬ordCe (z0, z1, z2, z3) (x0, x1, x2, x3) < 0 := fun h' => h (this.1 h')
      omega
    · intro h h'
      have := this.2 h'
      omega)
  clear hb hs hx hv
  show Calls Try.prog 131 #[.agg #[.int .i64 z0, .int .i64 z1, .int .i64 z2, .int .i64 z3], .pointer (some ⟨sb, 0, none⟩), .pointer (some ⟨xb, 0, none⟩)] W _
  go_enter Try.func131, Try.ntmps131
  go_wp2_with fail
  clear hV
  refine E.out.mono ?_
  rintro e w1 ⟨rfl, b1⟩
  have B1 := Lib.hid (below_chain BV.out b1)
  clear b1 s1 c0 c1 c2 c3 d0 d1 d2 d3 E
  obtain ⟨q, hq⟩ : ∃ q, decide (v ≥ 0) = q := ⟨_, rfl⟩
  have HQ := Lib.hid (HD.out.trans hq)
  clear HD
  cases q with
  | true =>
    go_wp2
    go_ret
    exact ⟨congrArg (fun b => Ending.returned (Value.bool b)) HQ.out.symm, B1.out⟩
  | false =>
    go_wp2
    go_ret
    exact ⟨congrArg (fun b => Ending.returned (Value.bool b)) HQ.out.symm, B1.out⟩

theorem any_hasC (zs : List Ce) (x : Ce) : zs.any (fun z => decide (z = x)) = hasC zs x := by
  unfold hasC
  rw [Bool.eq_iff_iff, List.any_eq_true]
  simp

set_option maxRecDepth 100000 in
theorem sHas_any (n : Nat) (zs : List Ce) (hz : zs.length = n) (A : Option Addr) (c : Nat) (x0 x1 x2 x3 : Int) (w : World) (h1 : Ces w A zs) (hn : n ≤ 4194304) :
    Calls Try.prog 123 #[.agg #[.slice A n c, .func (.func 122) #[] #[]], .agg #[.int .i64 x0, .int .i64 x1, .int .i64 x2, .int .i64 x3]] w fun e w' => e = .returned (.bool (hasC zs (x0, x1, x2, x3))) ∧ Below w.heap.size w w' := by
  obtain ⟨V, hV⟩ : ∃ z, (w.alloc (.cells #[.slice A n c, .func (.func 122) #[] #[]] 144)).alloc (.cells #[.int .i64 x0, .int .i64 x1, .int .i64 x2, .int .i64 x3] 38) = z := ⟨_, rfl⟩
  have BV := Lib.hid (show Below w.heap.size w V by rw [← hV]; exact ((Below.refl _ _).alloc (by simp) _).alloc (by simp) _)
  have s0 : V.cell? ⟨w.heap.size, 0, none⟩ = some (.slice A n c) := by rw [← hV]; exact alloc_keep (by simp)
  have s1 : V.cell? ⟨w.heap.size, 1, none⟩ = some (.func (.func 122) #[] #[]) := by rw [← hV]; exact alloc_keep (by simp)
  have XV : XB (w.heap.size + 1) x0 x1 x2 x3 V := by rw [← hV]; exact ⟨by simp, by simp, by simp, by simp⟩
  have C := Lib.hid (conFn_any 130 #[] #[.pointer (some ⟨w.heap.size, 0, none⟩), .pointer (some ⟨w.heap.size + 1, 0, none⟩)] (enters_of Try.func130 (by kernel_rfl) rfl) _ n zs hz A c V (h1.below BV.out) (hasFn_pred w.heap.size (w.heap.size + 1) x0 x1 x2 x3 V s1 XV) hn)
  clear h1 hz XV
  go_enter Try.func123, Try.ntmps123
  go_wp2_with fail
  clear hV s0 s1
  refine C.out.mono ?_
  rintro e w1 ⟨rfl, b1⟩
  rw [any_hasC]
  have B1 := Lib.hid (below_chain BV.out b1)
  clear b1 C
  go_wp2
  go_ret
  exact ⟨rfl, B1.out⟩

/-- The place at which x goes in. -/
structure PlaceIs (zs : List Ce) (x : Ce) (k : Nat) : Prop where
  le : k ≤ zs.length
  lt : ∀ z ∈ zs.take k, ltE z x
  ge : ∀ h : k < zs.length, ¬ltE zs[k] x

set_option maxRecDepth 100000 in
theorem sPlace_any (n : Nat) (zs : List Ce) (hz : zs.length = n) (A : Option Addr) (c : Nat) (x0 x1 x2 x3 : Int) (w : World) (h1 : Ces w A zs) (hn : n ≤ 4194304) :
    Calls Try.prog 124 #[.agg #[.slice A n c, .func (.func 122) #[] #[]], .agg #[.int .i64 x0, .int .i64 x1, .int .i64 x2, .int .i64 x3]] w fun e w' => ∃ k : Nat, e = .returned (.int .i64 (k : Int)) ∧ PlaceIs zs (x0, x1, x2, x3) k ∧ Below w.heap.size w w' := by
  obtain ⟨V, hV⟩ : ∃ z, (w.alloc (.cells #[.slice A n c, .func (.func 122) #[] #[]] 144)).alloc (.cells #[.int .i64 x0, .int .i64 x1, .int .i64 x2, .int .i64 x3] 38) = z := ⟨_, rfl⟩
  have BV := Lib.hid (show Below w.heap.size w V by rw [← hV]; exact ((Below.refl _ _).alloc (by simp) _).alloc (by simp) _)
  have s0 : V.cell? ⟨w.heap.size, 0, none⟩ = some (.slice A n c) := by rw [← hV]; exact alloc_keep (by simp)
  have s1 : V.cell? ⟨w.heap.size, 1, none⟩ = some (.func (.func 122) #[] #[]) := by rw [← hV]; exact alloc_keep (by simp)
  have XV : XB (w.heap.size + 1) x0 x1 x2 x3 V := by rw [← hV]; exact ⟨by simp, by simp, by simp, by simp⟩
  have C := Lib.hid (idxFn_any 131 #[] #[.pointer (some ⟨w.heap.size, 0, none⟩), .pointer (some ⟨w.heap.size + 1, 0, none⟩)] (enters_of Try.func131 (by kernel_rfl) rfl) _ n zs hz A c V (h1.below BV.out) (placeFn_pred w.heap.size (w.heap.size + 1) x0 x1 x2 x3 V s1 XV) hn)
  have HZ := Lib.hid hz
  clear h1 hz XV
  go_enter Try.func124, Try.ntmps124
  go_wp2_with fail
  clear hV
  refine C.out.mono ?_
  rintro e w1 ⟨r, rfl, hr, b1⟩
  have B1 := Lib.hid (below_chain BV.out b1)
  have t0 := below_keep b1 s0
  clear b1 C s0 s1
  rcases hr.hit with ⟨k, hk, rfl, ht, hf⟩ | ⟨rfl, hf⟩
  · have HP := Lib.hid (show PlaceIs zs (x0, x1, x2, x3) k from ⟨Nat.le_of_lt hk, fun z hz => by have := hf z hz; simpa using this, fun _ => by simpa using ht⟩)
    have k0 : decide ((k : Int) < 0) = false := by simp
    clear hk ht hf hr
    go_wp2
    go_ret
    exact ⟨k, rfl, HP.out, B1.out⟩
  · have HP := Lib.hid (show PlaceIs zs (x0, x1, x2, x3) n from ⟨by rw [HZ.out]; exact Nat.le_refl _, fun z hz => by have := hf z (List.mem_of_mem_take hz); simpa using this, fun h => absurd h (by rw [HZ.out]; omega)⟩)
    clear hf hr
    go_wp2
    go_ret
    exact ⟨n, rfl, HP.out, B1.out⟩
end Go.Proofs.Ytbbagpnjjjohpaa.hexes

