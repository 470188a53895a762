/-
  slices.IndexFunc and slices.ContainsFunc at cells, for whatever predicate.
  The program's sorted container of cells: its closures, has, placeOf, ascends; the contracts of impl.HasCell and impl.CellsOk.
  Contracts of the library, laid at this program: the print of the kit's own tools.
  A statement of impl.PutCell: its operations, and a theorem a step.
  A statement of (impl.sortedList[impl.Cell]).with: its operations, and a theorem a step.
-/
import Derived.Test.YtbbagpnjjjohpaaJ10
import Derived.Test.YtbbagpnjjjohpaaJ14
import Derived.Test.YtbbagpnjjjohpaaJ25
import Derived.Laws.EntriesVeiled
import Derived.Shelf.AbstractIn
import Derived.Shelf.Spec.SlicesGrow
import Derived.Test.YtbbagpnjjjohpaaProg
import Derived.Test.YtbbagpnjjjohpaaJ12

namespace Go.Proofs.Ytbbagpnjjjohpaa.hexes
open Go.RowKit

/-- The place of the first at which p holds, or -1. -/
structure IdxIs (p : Ce → Bool) (zs : List Ce) (r : Int) : Prop where
  hit : (∃ k, ∃ h : k < zs.length, r = (k : Int) ∧ p zs[k] = true ∧ ∀ z ∈ zs.take k, p z = false) ∨ (r = -1 ∧ ∀ z ∈ zs, p z = false)

/-- What is asked of a predicate: its answer, whatever has been laid since. -/
def PredCe (g : Nat) (bs lb : Array Value) (p : Ce → Bool) (w : World) : Prop :=
  ∀ (W : World) (z0 z1 z2 z3 : Int), Below w.heap.size w W → Calls Try.prog g (bs.push (.agg #[.int .i64 z0, .int .i64 z1, .int .i64 z2, .int .i64 z3]) ++ lb) W fun e w' => e = .returned (.bool (p (z0, z1, z2, z3))) ∧ Below w.heap.size w w'

set_option maxRecDepth 100000 in
set_option maxHeartbeats 4000000 in
theorem idxFn_any (g : Nat) (bs lb : Array Value) (eg : ∀ args w, (callFunc g args).run Try.prog w = .ok (.enter g args) w) (p : Ce → Bool) (n : Nat) (zs : List Ce) (hz : zs.length = n) (A : Option Addr) (c : Nat) (w : World) (h1 : Ces w A zs) (hp : PredCe g bs lb p w) (hn : n ≤ 4194304) :
    Calls Try.prog 117 #[.slice A n c, .func (.func g) bs lb] w fun e w' => ∃ r, e = .returned (.int .i64 r) ∧ IdxIs p zs r ∧ Below w.heap.size w w' := by
  have H1 := Lib.hid h1
  have HZ := Lib.hid hz
  have HP := Lib.hid hp
  clear h1 hz hp
  go_enter Try.func117, Try.ntmps117
  go_wp2
  go_loopw [5, 8] (fun _ i wr => ∃ k : Nat, k ≤ n ∧ i = .int .i64 k ∧ (∀ z ∈ zs.take k, p z = false) ∧ Below w.heap.size w wr) (fun _ i _ => n - (intOf i).toNat)
  case atStart => exact ⟨0, Nat.zero_le _, rfl, (fun z hz => by simp at hz), Below.refl _ _⟩
  case round =>
    obtain ⟨k, hk, rfl, hf, hb⟩ := hrel
    have HF := Lib.hid hf
    have HB := Lib.hid hb
    clear hf hb
    by_cases hlt : k < n
    · have l1 : k < zs.length := by rw [HZ.out]; exact hlt
      obtain ⟨b1, o1, p0, p1, p2, p3, rfl, xz, e0, e1, e2, e3⟩ := (H1.out.below HB.out).at l1
      have i0 : (0 : Int) ≤ (k : Int) := by omega
      have i1 : (k : Int) < (n : Int) := by omega
      have hcall := HP.out wr p0 p1 p2 p3 HB.out
      cases hq : p (p0, p1, p2, p3) with
      | true =>
        rw [hq] at hcall
        have HR := Lib.hid (show IdxIs p zs (k : Int) from ⟨.inl ⟨k, l1, rfl, by rw [xz]; exact hq, HF.out⟩⟩)
        clear xz l1 HF hq
        go_wp2_with fail
        refine hcall.mono ?_
        rintro e w' ⟨rfl, hb'⟩
        have HB' := Lib.hid hb'
        clear hb' hcall
        go_wp2
        go_ret
        exact ⟨_, rfl, HR.out, HB'.out⟩
      | false =>
        rw [hq] at hcall
        have HS := Lib.hid (show ∀ z ∈ zs.take (k + 1), p z = false from fun z hz => by
          rw [List.take_succ_eq_append_getElem l1] at hz
          rcases List.mem_append.1 hz with h | h
          · exact HF.out z h
          · obtain rfl : z = zs[k] := by simpa using h
            rw [xz]
            exact hq)
        clear xz l1 HF hq
        go_wp2_with fail
        refine hcall.mono ?_
        rintro e w' ⟨rfl, hb'⟩
        have HB' := Lib.hid hb'
        clear hb' hcall
        go_wp2
        go_roundw
        case rel => exact ⟨k + 1, by omega, by go_num, HS.out, HB'.out⟩
        case measure => simp [intOf]; omega
    · have HR := Lib.hid (show IdxIs p zs (-1) from ⟨.inr ⟨rfl, by
        have h := HF.out
        rwa [List.take_of_length_le (by rw [HZ.out]; omega)] at h⟩⟩)
      go_wp2
      go_ret
      exact ⟨_, rfl, HR.out, HB.out⟩

set_option maxRecDepth 100000 in
theorem conFn_any (g : Nat) (bs lb : Array Value) (eg : ∀ args w, (callFunc g args).run Try.prog w = .ok (.enter g args) w) (p : Ce → Bool) (n : Nat) (zs : List Ce) (hz : zs.length = n) (A : Option Addr) (c : Nat) (w : World) (h1 : Ces w A zs) (hp : PredCe g bs lb p w) (hn : n ≤ 4194304) :
    Calls Try.prog 129 #[.slice A n c, .func (.func g) bs lb] w fun e w' => e = .returned (.bool (zs.any p)) ∧ Below w.heap.size w w' := by
  have C := Lib.hid (idxFn_any g bs lb eg p n zs hz A c w h1 hp hn)
  clear h1 hz hp
  go_enter Try.func129, Try.ntmps129
  go_wp2_with fail
  refine C.out.mono ?_
  rintro e w1 ⟨r, rfl, hr, b1⟩
  have B1 := Lib.hid b1
  have HA := Lib.hid (show zs.any p = decide (0 ≤ r) by
    rcases hr.hit with ⟨k, hk, rfl, ht, _⟩ | ⟨rfl, hf⟩
    · rw [List.any_eq_true.2 ⟨zs[k], List.getElem_mem hk, ht⟩]; simp
    · rw [List.any_eq_false.2 (fun z hz => by rw [hf z hz]; decide)]; rfl)
  clear hr b1 C
  go_wp2
  go_ret
  exact ⟨congrArg (fun b => Ending.returned (Value.bool b)) HA.out.symm, B1.out⟩
end Go.Proofs.Ytbbagpnjjjohpaa.hexes

namespace Go.Proofs.Ytbbagpnjjjohpaa.hexes
open Go.RowKit

structure XW (V : World) (b : Nat) (x0 x1 x2 x3 : Int) (w : World) : Prop where
  x : XB b x0 x1 x2 x3 w
  bel : Below V.heap.size V w
theorem XW.below {V : World} {b : Nat} {x0 x1 x2 x3 : Int} {w w' : World} (h : XW V b x0 x1 x2 x3 w) (hb : Below w.heap.size w w') : XW V b x0 x1 x2 x3 w' := ⟨h.x.below hb, below_chain h.bel hb⟩

theorem sorted_any (A : Option Addr) (n c : Nat) (w : World) :
    Calls Try.prog 118 #[.slice A n c] w fun e w' => e = .returned (.agg #[.slice A n c, .func (.func 122) #[] #[]]) ∧ Below w.heap.size w w' := by
  go_enter Try.func118, Try.ntmps118
  go_wp2
  exact bodyPost_ret (v := .agg #[.slice A n c, .func (.func 122) #[] #[]]) (by simp [results, Try.results118, go_sem]) rfl ⟨rfl, (Below.refl _ _).alloc (Nat.le_refl _) _⟩

set_option maxRecDepth 100000 in
theorem hasFn_pred (sb xb : Nat) (x0 x1 x2 x3 : Int) (w : World) (hs : w.cell? ⟨sb, 1, none⟩ = some (.func (.func 122) #[] #[])) (hx : XB xb x0 x1 x2 x3 w) :
    PredCe 130 #[] #[.pointer (some ⟨sb, 0, none⟩), .pointer (some ⟨xb, 0, none⟩)] (fun z => decide (z = (x0, x1, x2, x3))) w := by
  intro W z0 z1 z2 z3 hb
  obtain ⟨V, hV⟩ : ∃ z, W.alloc (.cells #[.int .i64 z0, .int .i64 z1, .int .i64 z2, .int .i64 z3] 38) = z := ⟨_, rfl⟩
  have BV := Lib.hid (show Below w.heap.size w V by rw [← hV]; exact hb.alloc hb.size _)
  have XZ := (show XB W.heap.size z0 z1 z2 z3 V by rw [← hV]; exact XB.new _ _ _ _ _)
  have XX := (show XB xb x0 x1 x2 x3 V from hx.below BV.out)
  have s1 := below_keep BV.out hs
  obtain ⟨c0, c1, c2, c3⟩ := XZ
  obtain ⟨d0, d1, d2, d3⟩ := XX
  obtain ⟨v, hv⟩ : ∃ v, ordCe (z0, z1, z2, z3) (x0, x1, x2, x3) = v := ⟨_, rfl⟩
  have E := Lib.hid (implCeOrd_is hv V)
  have HD := Lib.hid (show (fun z : Ce => decide (z = (x0, x1, x2, x3))) (z0, z1, z2, z3) = (v == 0) by
    show decide _ = _
    rw [← hv]
    rw [Bool.eq_iff_iff]
    simp only [decide_eq_true_eq, beq_iff_eq]
    exact (ordCe_zero _ _).symm)
  clear hb hs hx hv
  show Calls Try.prog 130 #[.agg #[.int .i64 z0, .int .i64 z1, .int .i64 z2, .int .i64 z3], .pointer (some ⟨sb, 0, none⟩), .pointer (some ⟨xb, 0, none⟩)] W _
  go_enter Try.func130, Try.ntmps130
  go_wp2_with fail
  clear hV
  refine E.out.mono ?_
  rintro e w1 ⟨rfl, b1⟩
  have B1 := Lib.hid (below_chain BV.out b1)
  clear b1 s1 c0 c1 c2 c3 d0 d1 d2 d3 E
  obtain ⟨q, hq⟩ : ∃ q, (v == 0) = q := ⟨_, rfl⟩
  have HQ := Lib.hid (HD.out.trans hq)
  clear HD
  cases q with
  | true =>
    go_wp2
    go_ret
    exact ⟨congrArg (fun b => Ending.returned (Value.bool b)) HQ.out.symm, B1.out⟩
  | false =>
    go_wp2
    go_ret
    exact ⟨congrArg (fun b => Ending.returned (Value.bool b)) HQ.out.symm, B1.out⟩

set_option maxRecDepth 100000 in
theorem placeFn_pred (sb xb : Nat) (x0 x1 x2 x3 : Int) (w : World) (hs : w.cell? ⟨sb, 1, none⟩ = some (.func (.func 122) #[] #[])) (hx : XB xb x0 x1 x2 x3 w) :
    PredCe 131 #[] #[.pointer (some ⟨sb, 0, none⟩), .pointer (some ⟨xb, 0, none⟩)] (fun z => !decide (ltE z (x0, x1, x2, x3))) w := by
  intro W z0 z1 z2 z3 hb
  obtain ⟨V, hV⟩ : ∃ z, W.alloc (.cells #[.int .i64 z0, .int .i64 z1, .int .i64 z2, .int .i64 z3] 38) = z := ⟨_, rfl⟩
  have BV := Lib.hid (show Below w.heap.size w V by rw [← hV]; exact hb.alloc hb.size _)
  have XZ := (show XB W.heap.size z0 z1 z2 z3 V by rw [← hV]; exact XB.new _ _ _ _ _)
  have XX := (show XB xb x0 x1 x2 x3 V from hx.below BV.out)
  have s1 := below_keep BV.out hs
  obtain ⟨c0, c1, c2, c3⟩ := XZ
  obtain ⟨d0, d1, d2, d3⟩ := XX
  obtain ⟨v, hv⟩ : ∃ v, ordCe (z0, z1, z2, z3) (x0, x1, x2, x3) = v := ⟨_, rfl⟩
  have E := Lib.hid (implCeOrd_is hv V)
  have HD := Lib.hid (show (fun z : Ce => !decide (ltE z (x0, x1, x2, x3))) (z0, z1, z2, z3) = decide (v ≥ 0) by
    show (!decide _) = _
    rw [← hv, ← decide_not, decide_eq_decide]
    have := ordCe_neg (z0, z1, z2, z3) (x0, x1, x2, x3)
    constructor
    · intro h
      have : ¬ordCe (z0, z1, z2, z3) (x0, x1, x2, x3) < 0 := fun h' => h (this.1 h')
      omega
    · intro h h'
      have := this.2 h'
      omega)
  clear hb hs hx hv
  show Calls Try.prog 131 #[.agg #[.int .i64 z0, .int .i64 z1, .int .i64 z2, .int .i64 z3], .pointer (some ⟨sb, 0, none⟩), .pointer (some ⟨xb, 0, none⟩)] W _
  go_enter Try.func131, Try.ntmps131
  go_wp2_with fail
  clear hV
  refine E.out.mono ?_
  rintro e w1 ⟨rfl, b1⟩
  have B1 := Lib.hid (below_chain BV.out b1)
  clear b1 s1 c0 c1 c2 c3 d0 d1 d2 d3 E
  obtain ⟨q, hq⟩ : ∃ q, decide (v ≥ 0) = q := ⟨_, rfl⟩
  have HQ := Lib.hid (HD.out.trans hq)
  clear HD
  cases q with
  | true =>
    go_wp2
    go_ret
    exact ⟨congrArg (fun b => Ending.returned (Value.bool b)) HQ.out.symm, B1.out⟩
  | false =>
    go_wp2
    go_ret
    exact ⟨congrArg (fun b => Ending.returned (Value.bool b)) HQ.out.symm, B1.out⟩

theorem any_hasC (zs : List Ce) (x : Ce) : zs.any (fun z => decide (z = x)) = hasC zs x := by
  unfold hasC
  rw [Bool.eq_iff_iff, List.any_eq_true]
  simp

set_option maxRecDepth 100000 in
theorem sHas_any (n : Nat) (zs : List Ce) (hz : zs.length = n) (A : Option Addr) (c : Nat) (x0 x1 x2 x3 : Int) (w : World) (h1 : Ces w A zs) (hn : n ≤ 4194304) :
    Calls Try.prog 123 #[.agg #[.slice A n c, .func (.func 122) #[] #[]], .agg #[.int .i64 x0, .int .i64 x1, .int .i64 x2, .int .i64 x3]] w fun e w' => e = .returned (.bool (hasC zs (x0, x1, x2, x3))) ∧ Below w.heap.size w w' := by
  obtain ⟨V, hV⟩ : ∃ z, (w.alloc (.cells #[.slice A n c, .func (.func 122) #[] #[]] 144)).alloc (.cells #[.int .i64 x0, .int .i64 x1, .int .i64 x2, .int .i64 x3] 38) = z := ⟨_, rfl⟩
  have BV := Lib.hid (show Below w.heap.size w V by rw [← hV]; exact ((Below.refl _ _).alloc (by simp) _).alloc (by simp) _)
  have s0 : V.cell? ⟨w.heap.size, 0, none⟩ = some (.slice A n c) := by rw [← hV]; exact alloc_keep (by simp)
  have s1 : V.cell? ⟨w.heap.size, 1, none⟩ = some (.func (.func 122) #[] #[]) := by rw [← hV]; exact alloc_keep (by simp)
  have XV : XB (w.heap.size + 1) x0 x1 x2 x3 V := by rw [← hV]; exact ⟨by simp, by simp, by simp, by simp⟩
  have C := Lib.hid (conFn_any 130 #[] #[.pointer (some ⟨w.heap.size, 0, none⟩), .pointer (some ⟨w.heap.size + 1, 0, none⟩)] (enters_of Try.func130 (by kernel_rfl) rfl) _ n zs hz A c V (h1.below BV.out) (hasFn_pred w.heap.size (w.heap.size + 1) x0 x1 x2 x3 V s1 XV) hn)
  clear h1 hz XV
  go_enter Try.func123, Try.ntmps123
  go_wp2_with fail
  clear hV s0 s1
  refine C.out.mono ?_
  rintro e w1 ⟨rfl, b1⟩
  rw [any_hasC]
  have B1 := Lib.hid (below_chain BV.out b1)
  clear b1 C
  go_wp2
  go_ret
  exact ⟨rfl, B1.out⟩

/-- The place at which x goes in. -/
structure PlaceIs (zs : List Ce) (x : Ce) (k : Nat) : Prop where
  le : k ≤ zs.length
  lt : ∀ z ∈ zs.take k, ltE z x
  ge : ∀ h : k < zs.length, ¬ltE zs[k] x

set_option maxRecDepth 100000 in
theorem sPlace_any (n : Nat) (zs : List Ce) (hz : zs.length = n) (A : Option Addr) (c : Nat) (x0 x1 x2 x3 : Int) (w : World) (h1 : Ces w A zs) (hn : n ≤ 4194304) :
    Calls Try.prog 124 #[.agg #[.slice A n c, .func (.func 122) #[] #[]], .agg #[.int .i64 x0, .int .i64 x1, .int .i64 x2, .int .i64 x3]] w fun e w' => ∃ k : Nat, e = .returned (.int .i64 (k : Int)) ∧ PlaceIs zs (x0, x1, x2, x3) k ∧ Below w.heap.size w w' := by
  obtain ⟨V, hV⟩ : ∃ z, (w.alloc (.cells #[.slice A n c, .func (.func 122) #[] #[]] 144)).alloc (.cells #[.int .i64 x0, .int .i64 x1, .int .i64 x2, .int .i64 x3] 38) = z := ⟨_, rfl⟩
  have BV := Lib.hid (show Below w.heap.size w V by rw [← hV]; exact ((Below.refl _ _).alloc (by simp) _).alloc (by simp) _)
  have s0 : V.cell? ⟨w.heap.size, 0, none⟩ = some (.slice A n c) := by rw [← hV]; exact alloc_keep (by simp)
  have s1 : V.cell? ⟨w.heap.size, 1, none⟩ = some (.func (.func 122) #[] #[]) := by rw [← hV]; exact alloc_keep (by simp)
  have XV : XB (w.heap.size + 1) x0 x1 x2 x3 V := by rw [← hV]; exact ⟨by simp, by simp, by simp, by simp⟩
  have C := Lib.hid (idxFn_any 131 #[] #[.pointer (some ⟨w.heap.size, 0, none⟩), .pointer (some ⟨w.heap.size + 1, 0, none⟩)] (enters_of Try.func131 (by kernel_rfl) rfl) _ n zs hz A c V (h1.below BV.out) (placeFn_pred w.heap.size (w.heap.size + 1) x0 x1 x2 x3 V s1 XV) hn)
  have HZ := Lib.hid hz
  clear h1 hz XV
  go_enter Try.func124, Try.ntmps124
  go_wp2_with fail
  clear hV
  refine C.out.mono ?_
  rintro e w1 ⟨r, rfl, hr, b1⟩
  have B1 := Lib.hid (below_chain BV.out b1)
  have t0 := below_keep b1 s0
  clear b1 C s0 s1
  rcases hr.hit with ⟨k, hk, rfl, ht, hf⟩ | ⟨rfl, hf⟩
  · have HP := Lib.hid (show PlaceIs zs (x0, x1, x2, x3) k from ⟨Nat.le_of_lt hk, fun z hz => by have := hf z hz; simpa using this, fun _ => by simpa using ht⟩)
    have k0 : decide ((k : Int) < 0) = false := by simp
    clear hk ht hf hr
    go_wp2
    go_ret
    exact ⟨k, rfl, HP.out, B1.out⟩
  · have HP := Lib.hid (show PlaceIs zs (x0, x1, x2, x3) n from ⟨by rw [HZ.out]; exact Nat.le_refl _, fun z hz => by have := hf z (List.mem_of_mem_take hz); simpa using this, fun h => absurd h (by rw [HZ.out]; omega)⟩)
    clear hf hr
    go_wp2
    go_ret
    exact ⟨n, rfl, HP.out, B1.out⟩
end Go.Proofs.Ytbbagpnjjjohpaa.hexes

namespace Go.Proofs
open Go.Shelf
def Try.growCe_ren : Go.Shelf.Ren := ⟨fun | 4 => 132 | n => n, fun | 22 => 30 | 25 => 38 | 3 => 3 | 4 => 4 | 9 => 9 | 20 => 20 | 0 => 0 | n => n, fun | n => n⟩
theorem Try.growCe : Go.Proofs.Lays8.n4 Try.prog Try.growCe_ren := {
  mixed := by kernel_rfl
  f4 := ⟨Try.f132.name, by decide, Try.func132.trans (congrArg some (by kernel_rfl))⟩
  t0 := Try.underlying0
  a0 := Try.isAgg0
  z0 := Try.sizeOf0
  v0 := Try.zeroValue0
  t3 := Try.underlying3
  a3 := Try.isAgg3
  z3 := Try.sizeOf3
  v3 := Try.zeroValue3
  t4 := Try.underlying4
  a4 := Try.isAgg4
  z4 := Try.sizeOf4
  v4 := Try.zeroValue4
  t9 := Try.underlying9
  a9 := Try.isAgg9
  z9 := Try.sizeOf9
  v9 := Try.zeroValue9
  t20 := Try.underlying20
  a20 := Try.isAgg20
  z20 := Try.sizeOf20
  v20 := Try.zeroValue20
  t22 := Try.underlying30
  a22 := Try.isAgg30
  z22 := Try.sizeOf30
  v22 := Try.zeroValue30 }
end Go.Proofs

namespace Go.Proofs.Ytbbagpnjjjohpaa.hexes
open Go.RowKit

def findU2 (n : Nat) : Code → Option Code
  | .region id ops d => if id = n then some (.region id ops d) else none
  | .seq a b => match findU2 n a with
    | some c => some c
    | none => findU2 n b
  | .block _ c => findU2 n c
  | .scope c => findU2 n c
  | .loop c => findU2 n c
  | .cond _ a b => match findU2 n a with
    | some c => some c
    | none => findU2 n b
  | _ => none
def opsOfU2 : Option Code → Array Oper
  | some (.region _ ops _) => ops
  | _ => #[]
noncomputable def opsU2 : Array Oper := opsOfU2 (Try.f106.body.bind (findU2 1))
def schU2 : List Nat := [0, 2, 1, 3, 4]
def LU2 (k : Nat) : Array Bool := ((List.range 5).map fun i => (schU2.take k).contains i).toArray
theorem noselU2 : Region.noSelect opsU2 = true := by kernel_rfl
def qU2_0 : Oper := { dst := some 5, op := Op.move (Operand.tmp 0), type := 30, pos := "l09_memory.go:69", after := #[], guard := none }
theorem hU2_0 : opsU2[0]? = some qU2_0 := by kernel_rfl
theorem lU2_0 : (LU2 0).setIfInBounds 0 true = LU2 1 := by kernel_rfl
theorem tU2_0 : RegT Try.prog opsU2 qU2_0 (some 5) 4 (LU2 0) (LU2 1) := regT hU2_0 rfl noselU2 (by kernel_rfl) (by kernel_rfl) lU2_0
def qU2_2 : Oper := { dst := some 7, op := Op.load 38 (Operand.tmp 3), type := 38, pos := "l09_memory.go:69", after := #[], guard := none }
theorem hU2_2 : opsU2[2]? = some qU2_2 := by kernel_rfl
theorem lU2_1 : (LU2 1).setIfInBounds 2 true = LU2 2 := by kernel_rfl
theorem tU2_1 : RegT Try.prog opsU2 qU2_2 (some 7) 3 (LU2 1) (LU2 2) := regT hU2_2 rfl noselU2 (by kernel_rfl) (by kernel_rfl) lU2_1
def qU2_1 : Oper := { dst := some 6, op := Op.call { callee := Callee.value (Operand.func 118), args := #[Operand.tmp 5], argTypes := #[30] }, type := 144, pos := "l09_memory.go:69", after := #[{ on := 0, ground := Ground.data }], guard := none }
theorem hU2_1 : opsU2[1]? = some qU2_1 := by kernel_rfl
theorem lU2_2 : (LU2 2).setIfInBounds 1 true = LU2 3 := by kernel_rfl
theorem cU2_2 : RegC Try.prog opsU2 qU2_1 (some 6) 2 (LU2 2) (LU2 3) := regC hU2_1 rfl (by kernel_rfl) lU2_2
def qU2_3 : Oper := { dst := some 8, op := Op.call { callee := Callee.value (Operand.func 119), args := #[Operand.tmp 6, Operand.tmp 7], argTypes := #[144, 38] }, type := 30, pos := "l09_memory.go:69", after := #[{ on := 1, ground := Ground.data }, { on := 2, ground := Ground.data }, { on := 1, ground := Ground.chain }], guard := none }
theorem hU2_3 : opsU2[3]? = some qU2_3 := by kernel_rfl
theorem lU2_3 : (LU2 3).setIfInBounds 3 true = LU2 4 := by kernel_rfl
theorem cU2_3 : RegC Try.prog opsU2 qU2_3 (some 8) 1 (LU2 3) (LU2 4) := regC hU2_3 rfl (by kernel_rfl) lU2_3
def qU2_4 : Oper := { dst := some 4, op := Op.assign (Operand.tmp 8), type := 30, pos := "l09_memory.go:69", after := #[{ on := 3, ground := Ground.data }, { on := 3, ground := Ground.chain }, { on := 0, ground := Ground.phase }, { on := 1, ground := Ground.phase }, { on := 2, ground := Ground.phase }, { on := 3, ground := Ground.phase }], guard := none }
theorem hU2_4 : opsU2[4]? = some qU2_4 := by kernel_rfl
theorem lU2_4 : (LU2 4).setIfInBounds 4 true = LU2 5 := by kernel_rfl
theorem tU2_4 : RegT Try.prog opsU2 qU2_4 (some 4) 0 (LU2 4) (LU2 5) := regT hU2_4 rfl noselU2 (by kernel_rfl) (by kernel_rfl) lU2_4
end Go.Proofs.Ytbbagpnjjjohpaa.hexes

namespace Go.Proofs.Ytbbagpnjjjohpaa.hexes
open Go.RowKit

def findT4 (n : Nat) : Code → Option Code
  | .region id ops d => if id = n then some (.region id ops d) else none
  | .seq a b => match findT4 n a with
    | some c => some c
    | none => findT4 n b
  | .block _ c => findT4 n c
  | .scope c => findT4 n c
  | .loop c => findT4 n c
  | .cond _ a b => match findT4 n a with
    | some c => some c
    | none => findT4 n b
  | _ => none
def opsOfT4 : Option Code → Array Oper
  | some (.region _ ops _) => ops
  | _ => #[]
noncomputable def opsT4 : Array Oper := opsOfT4 (Try.f119.body.bind (findT4 4))
def schT4 : List Nat := [0, 1, 2, 3, 4, 6, 7, 8, 9, 5, 10, 11, 12]
def LT4 (k : Nat) : Array Bool := ((List.range 13).map fun i => (schT4.take k).contains i).toArray
theorem noselT4 : Region.noSelect opsT4 = true := by kernel_rfl
def qT4_0 : Oper := { dst := some 15, op := Op.fieldAddr 144 (Operand.tmp 2) 0, type := 0, pos := "l09_memory.go:44", after := #[], guard := none }
theorem hT4_0 : opsT4[0]? = some qT4_0 := by kernel_rfl
theorem lT4_0 : (LT4 0).setIfInBounds 0 true = LT4 1 := by kernel_rfl
theorem tT4_0 : RegT Try.prog opsT4 qT4_0 (some 15) 12 (LT4 0) (LT4 1) := regT hT4_0 rfl noselT4 (by kernel_rfl) (by kernel_rfl) lT4_0
def qT4_1 : Oper := { dst := some 16, op := Op.load 30 (Operand.tmp 15), type := 30, pos := "l09_memory.go:44", after := #[{ on := 0, ground := Ground.data }], guard := none }
theorem hT4_1 : opsT4[1]? = some qT4_1 := by kernel_rfl
theorem lT4_1 : (LT4 1).setIfInBounds 1 true = LT4 2 := by kernel_rfl
theorem tT4_1 : RegT Try.prog opsT4 qT4_1 (some 16) 11 (LT4 1) (LT4 2) := regT hT4_1 rfl noselT4 (by kernel_rfl) (by kernel_rfl) lT4_1
def qT4_2 : Oper := { dst := some 17, op := Op.move (Operand.tmp 5), type := 3, pos := "l09_memory.go:44", after := #[], guard := none }
theorem hT4_2 : opsT4[2]? = some qT4_2 := by kernel_rfl
theorem lT4_2 : (LT4 2).setIfInBounds 2 true = LT4 3 := by kernel_rfl
theorem tT4_2 : RegT Try.prog opsT4 qT4_2 (some 17) 10 (LT4 2) (LT4 3) := regT hT4_2 rfl noselT4 (by kernel_rfl) (by kernel_rfl) lT4_2
def qT4_3 : Oper := { dst := some 18, op := Op.slice 30 (Operand.tmp 16) none (some (Operand.tmp 17)) none, type := 30, pos := "l09_memory.go:44", after := #[{ on := 1, ground := Ground.data }, { on := 2, ground := Ground.data }], guard := none }
theorem hT4_3 : opsT4[3]? = some qT4_3 := by kernel_rfl
theorem lT4_3 : (LT4 3).setIfInBounds 3 true = LT4 4 := by kernel_rfl
theorem tT4_3 : RegT Try.prog opsT4 qT4_3 (some 18) 9 (LT4 3) (LT4 4) := regT hT4_3 rfl noselT4 (by kernel_rfl) (by kernel_rfl) lT4_3
def qT4_4 : Oper := { dst := some 19, op := Op.load 38 (Operand.tmp 3), type := 38, pos := "l09_memory.go:44", after := #[], guard := none }
theorem hT4_4 : opsT4[4]? = some qT4_4 := by kernel_rfl
theorem lT4_4 : (LT4 4).setIfInBounds 4 true = LT4 5 := by kernel_rfl
theorem tT4_4 : RegT Try.prog opsT4 qT4_4 (some 19) 8 (LT4 4) (LT4 5) := regT hT4_4 rfl noselT4 (by kernel_rfl) (by kernel_rfl) lT4_4
def qT4_6 : Oper := { dst := some 21, op := Op.fieldAddr 144 (Operand.tmp 2) 0, type := 0, pos := "l09_memory.go:44", after := #[], guard := none }
theorem hT4_6 : opsT4[6]? = some qT4_6 := by kernel_rfl
theorem lT4_5 : (LT4 5).setIfInBounds 6 true = LT4 6 := by kernel_rfl
theorem tT4_5 : RegT Try.prog opsT4 qT4_6 (some 21) 7 (LT4 5) (LT4 6) := regT hT4_6 rfl noselT4 (by kernel_rfl) (by kernel_rfl) lT4_5
def qT4_7 : Oper := { dst := some 22, op := Op.load 30 (Operand.tmp 21), type := 30, pos := "l09_memory.go:44", after := #[{ on := 6, ground := Ground.data }], guard := none }
theorem hT4_7 : opsT4[7]? = some qT4_7 := by kernel_rfl
theorem lT4_6 : (LT4 6).setIfInBounds 7 true = LT4 7 := by kernel_rfl
theorem tT4_6 : RegT Try.prog opsT4 qT4_7 (some 22) 6 (LT4 6) (LT4 7) := regT hT4_7 rfl noselT4 (by kernel_rfl) (by kernel_rfl) lT4_6
def qT4_8 : Oper := { dst := some 23, op := Op.move (Operand.tmp 5), type := 3, pos := "l09_memory.go:44", after := #[], guard := none }
theorem hT4_8 : opsT4[8]? = some qT4_8 := by kernel_rfl
theorem lT4_7 : (LT4 7).setIfInBounds 8 true = LT4 8 := by kernel_rfl
theorem tT4_7 : RegT Try.prog opsT4 qT4_8 (some 23) 5 (LT4 7) (LT4 8) := regT hT4_8 rfl noselT4 (by kernel_rfl) (by kernel_rfl) lT4_7
def qT4_9 : Oper := { dst := some 24, op := Op.slice 30 (Operand.tmp 22) (some (Operand.tmp 23)) none none, type := 30, pos := "l09_memory.go:44", after := #[{ on := 7, ground := Ground.data }, { on := 8, ground := Ground.data }], guard := none }
theorem hT4_9 : opsT4[9]? = some qT4_9 := by kernel_rfl
theorem lT4_8 : (LT4 8).setIfInBounds 9 true = LT4 9 := by kernel_rfl
theorem tT4_8 : RegT Try.prog opsT4 qT4_9 (some 24) 4 (LT4 8) (LT4 9) := regT hT4_9 rfl noselT4 (by kernel_rfl) (by kernel_rfl) lT4_8
def qT4_5 : Oper := { dst := some 20, op := Op.buildSlice 30 1 #[(0, Operand.tmp 19)], type := 30, pos := "l09_memory.go:44", after := #[{ on := 4, ground := Ground.data }], guard := none }
theorem hT4_5 : opsT4[5]? = some qT4_5 := by kernel_rfl
theorem lT4_9 : (LT4 9).setIfInBounds 5 true = LT4 10 := by kernel_rfl
theorem cT4_9 : RegC Try.prog opsT4 qT4_5 (some 20) 3 (LT4 9) (LT4 10) := regC hT4_5 rfl (by kernel_rfl) lT4_9
def qT4_10 : Oper := { dst := some 25, op := Op.buildSlice 152 3 #[(0, Operand.tmp 18), (1, Operand.tmp 20), (2, Operand.tmp 24)], type := 152, pos := "l09_memory.go:44", after := #[{ on := 3, ground := Ground.data }, { on := 5, ground := Ground.data }, { on := 9, ground := Ground.data }], guard := none }
theorem hT4_10 : opsT4[10]? = some qT4_10 := by kernel_rfl
theorem lT4_10 : (LT4 10).setIfInBounds 10 true = LT4 11 := by kernel_rfl
theorem cT4_10 : RegC Try.prog opsT4 qT4_10 (some 25) 2 (LT4 10) (LT4 11) := regC hT4_10 rfl (by kernel_rfl) lT4_10
def qT4_11 : Oper := { dst := some 26, op := Op.call { callee := Callee.value (Operand.func 125), args := #[Operand.tmp 25], argTypes := #[152] }, type := 30, pos := "l09_memory.go:44", after := #[{ on := 10, ground := Ground.data }], guard := none }
theorem hT4_11 : opsT4[11]? = some qT4_11 := by kernel_rfl
theorem lT4_11 : (LT4 11).setIfInBounds 11 true = LT4 12 := by kernel_rfl
theorem cT4_11 : RegC Try.prog opsT4 qT4_11 (some 26) 1 (LT4 11) (LT4 12) := regC hT4_11 rfl (by kernel_rfl) lT4_11
def qT4_12 : Oper := { dst := some 4, op := Op.assign (Operand.tmp 26), type := 30, pos := "l09_memory.go:44", after := #[{ on := 11, ground := Ground.data }, { on := 11, ground := Ground.chain }, { on := 0, ground := Ground.phase }, { on := 1, ground := Ground.phase }, { on := 2, ground := Ground.phase }, { on := 3, ground := Ground.phase }, { on := 4, ground := Ground.phase }, { on := 5, ground := Ground.phase }, { on := 6, ground := Ground.phase }, { on := 7, ground := Ground.phase }, { on := 8, ground := Ground.phase }, { on := 9, ground := Ground.phase }, { on := 10, ground := Ground.phase }, { on := 11, ground := Ground.phase }], guard := none }
theorem hT4_12 : opsT4[12]? = some qT4_12 := by kernel_rfl
theorem lT4_12 : (LT4 12).setIfInBounds 12 true = LT4 13 := by kernel_rfl
theorem tT4_12 : RegT Try.prog opsT4 qT4_12 (some 4) 0 (LT4 12) (LT4 13) := regT hT4_12 rfl noselT4 (by kernel_rfl) (by kernel_rfl) lT4_12
end Go.Proofs.Ytbbagpnjjjohpaa.hexes

