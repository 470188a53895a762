/-
  The program's sorted container of cells: its closures, has, placeOf, ascends; the contracts of impl.HasCell and impl.CellsOk.
  Contracts of the library, laid at this program: the print of the kit's own tools.
  A statement of impl.PutCell: its operations, and a theorem a step.
-/
import Derived.Test.YtlanmkimaambgaaGreatJ19
import Derived.Test.YtlanmkimaambgaaGreatJ22
import Derived.Test.YtlanmkimaambgaaGreatJ37
import Derived.Laws.EntriesVeiled
import Derived.Shelf.AbstractIn
import Derived.Shelf.Spec.SlicesGrow
import Derived.Test.YtlanmkimaambgaaGreatProg
import Derived.WalkKit
import Derived.Deep.RegionHeld3

namespace Go.Proofs.YtlanmkimaambgaaGreat.hexes
open Go.RowKit

structure XW (V : World) (b : Nat) (x0 x1 x2 x3 : Int) (w : World) : Prop where
  x : XB b x0 x1 x2 x3 w
  bel : Below V.heap.size V w
theorem XW.below {V : World} {b : Nat} {x0 x1 x2 x3 : Int} {w w' : World} (h : XW V b x0 x1 x2 x3 w) (hb : Below w.heap.size w w') : XW V b x0 x1 x2 x3 w' := ⟨h.x.below hb, below_chain h.bel hb⟩

theorem sorted_any (A : Option Addr) (n c : Nat) (w : World) :
    Calls Tryz.prog 87 #[.slice A n c] w fun e w' => e = .returned (.agg #[.slice A n c, .func (.func 92) #[] #[]]) ∧ Below w.heap.size w w' := by
  go_enter Tryz.func87, Tryz.ntmps87
  go_wp2
  exact bodyPost_ret (v := .agg #[.slice A n c, .func (.func 92) #[] #[]]) (by simp [results, Tryz.results87, go_sem]) rfl ⟨rfl, (Below.refl _ _).alloc (Nat.le_refl _) _⟩

set_option maxRecDepth 100000 in
theorem hasFn_pred (sb xb : Nat) (x0 x1 x2 x3 : Int) (w : World) (hs : w.cell? ⟨sb, 1, none⟩ = some (.func (.func 92) #[] #[])) (hx : XB xb x0 x1 x2 x3 w) :
    PredCe 96 #[] #[.pointer (some ⟨sb, 0, none⟩), .pointer (some ⟨xb, 0, none⟩)] (fun z => decide (z = (x0, x1, x2, x3))) w := by
  intro W z0 z1 z2 z3 hb
  obtain ⟨V, hV⟩ : ∃ z, W.alloc (.cells #[.int .i64 z0, .int .i64 z1, .int .i64 z2, .int .i64 z3] 57) = z := ⟨_, rfl⟩
  have BV := Lib.hid (show Below w.heap.size w V by rw [← hV]; exact hb.alloc hb.size _)
  have XZ := (show XB W.heap.size z0 z1 z2 z3 V by rw [← hV]; exact XB.new _ _ _ _ _)
  have XX := (show XB xb x0 x1 x2 x3 V from hx.below BV.out)
  have s1 := below_keep BV.out hs
  obtain ⟨c0, c1, c2, c3⟩ := XZ
  obtain ⟨d0, d1, d2, d3⟩ := XX
  obtain ⟨v, hv⟩ : ∃ v, ordCe (z0, z1, z2, z3) (x0, x1, x2, x3) = v := ⟨_, rfl⟩
  have E := Lib.hid (implCeOrd_is hv V)
  have HD := Lib.hid (show (fun z : Ce => decide (z = (x0, x1, x2, x3))) (z0, z1, z2, z3) = (v == 0) by
    show decide _ = _
    rw [← hv]
    rw [Bool.eq_iff_iff]
    simp only [decide_eq_true_eq, beq_iff_eq]
    exact (ordCe_zero _ _).symm)
  clear hb hs hx hv
  show Calls Tryz.prog 96 #[.agg #[.int .i64 z0, .int .i64 z1, .int .i64 z2, .int .i64 z3], .pointer (some ⟨sb, 0, none⟩), .pointer (some ⟨xb, 0, none⟩)] W _
  go_enter Tryz.func96, Tryz.ntmps96
  go_wp2_with fail
  clear hV
  refine E.out.mono ?_
  rintro e w1 ⟨rfl, b1⟩
  have B1 := Lib.hid (below_chain BV.out b1)
  clear b1 s1 c0 c1 c2 c3 d0 d1 d2 d3 E
  obtain ⟨q, hq⟩ : ∃ q, (v == 0) = q := ⟨_, rfl⟩
  have HQ := Lib.hid (HD.out.trans hq)
  clear HD
  cases q with
  | true =>
    go_wp2
    go_ret
    exact ⟨congrArg (fun b => Ending.returned (Value.bool b)) HQ.out.symm, B1.out⟩
  | false =>
    go_wp2
    go_ret
    exact ⟨congrArg (fun b => Ending.returned (Value.bool b)) HQ.out.symm, B1.out⟩

set_option maxRecDepth 100000 in
theorem placeFn_pred (sb xb : Nat) (x0 x1 x2 x3 : Int) (w : World) (hs : w.cell? ⟨sb, 1, none⟩ = some (.func (.func 92) #[] #[])) (hx : XB xb x0 x1 x2 x3 w) :
    PredCe 100 #[] #[.pointer (some ⟨sb, 0, none⟩), .pointer (some ⟨xb, 0, none⟩)] (fun z => !decide (ltE z (x0, x1, x2, x3))) w := by
  intro W z0 z1 z2 z3 hb
  obtain ⟨V, hV⟩ : ∃ z, W.alloc (.cells #[.int .i64 z0, .int .i64 z1, .int .i64 z2, .int .i64 z3] 57) = z := ⟨_, rfl⟩
  have BV := Lib.hid (show Below w.heap.size w V by rw [← hV]; exact hb.alloc hb.size _)
  have XZ := (show XB W.heap.size z0 z1 z2 z3 V by rw [← hV]; exact XB.new _ _ _ _ _)
  have XX := (show XB xb x0 x1 x2 x3 V from hx.below BV.out)
  have s1 := below_keep BV.out hs
  obtain ⟨c0, c1, c2, c3⟩ := XZ
  obtain ⟨d0, d1, d2, d3⟩ := XX
  obtain ⟨v, hv⟩ : ∃ v, ordCe (z0, z1, z2, z3) (x0, x1, x2, x3) = v := ⟨_, rfl⟩
  have E := Lib.hid (implCeOrd_is hv V)
  have HD := Lib.hid (show (fun z : Ce => !decide (ltE z (x0, x1, x2, x3))) (z0, z1, z2, z3) = decide (v ≥ 0) by
    show (!decide _) = _
    rw [← hv, ← decide_not, decide_eq_decide]
    have := ordCe_neg (z0, z1, z2, z3) (x0, x1, x2, x3)
    constructor
    · intro h
      have : ¬ordCe (z0, z1, z2, z3) (x0, x1, x2, x3) < 0 := fun h' => h (this.1 h')
      omega
    · intro h h'
      have := this.2 h'
      omega)
  clear hb hs hx hv
  show Calls Tryz.prog 100 #[.agg #[.int .i64 z0, .int .i64 z1, .int .i64 z2, .int .i64 z3], .pointer (some ⟨sb, 0, none⟩), .pointer (some ⟨xb, 0, none⟩)] W _
  go_enter Tryz.func100, Tryz.ntmps100
  go_wp2_with fail
  clear hV
  refine E.out.mono ?_
  rintro e w1 ⟨rfl, b1⟩
  have B1 := Lib.hid (below_chain BV.out b1)
  clear b1 s1 c0 c1 c2 c3 d0 d1 d2 d3 E
  obtain ⟨q, hq⟩ : ∃ q, decide (v ≥ 0) = q := ⟨_, rfl⟩
  have HQ := Lib.hid (HD.out.trans hq)
  clear HD
  cases q with
  | true =>
    go_wp2
    go_ret
    exact ⟨congrArg (fun b => Ending.returned (Value.bool b)) HQ.out.symm, B1.out⟩
  | false =>
    go_wp2
    go_ret
    exact ⟨congrArg (fun b => Ending.returned (Value.bool b)) HQ.out.symm, B1.out⟩

theorem any_hasC (zs : List Ce) (x : Ce) : zs.any (fun z => decide (z = x)) = hasC zs x := by
  unfold hasC
  rw [Bool.eq_iff_iff, List.any_eq_true]
  simp

set_option maxRecDepth 100000 in
theorem sHas_any (n : Nat) (zs : List Ce) (hz : zs.length = n) (A : Option Addr) (c : Nat) (x0 x1 x2 x3 : Int) (w : World) (h1 : Ces w A zs) (hn : n ≤ 4194304) :
    Calls Tryz.prog 89 #[.agg #[.slice A n c, .func (.func 92) #[] #[]], .agg #[.int .i64 x0, .int .i64 x1, .int .i64 x2, .int .i64 x3]] w fun e w' => e = .returned (.bool (hasC zs (x0, x1, x2, x3))) ∧ Below w.heap.size w w' := by
  obtain ⟨V, hV⟩ : ∃ z, (w.alloc (.cells #[.slice A n c, .func (.func 92) #[] #[]] 119)).alloc (.cells #[.int .i64 x0, .int .i64 x1, .int .i64 x2, .int .i64 x3] 57) = z := ⟨_, rfl⟩
  have BV := Lib.hid (show Below w.heap.size w V by rw [← hV]; exact ((Below.refl _ _).alloc (by simp) _).alloc (by simp) _)
  have s0 : V.cell? ⟨w.heap.size, 0, none⟩ = some (.slice A n c) := by rw [← hV]; exact alloc_keep (by simp)
  have s1 : V.cell? ⟨w.heap.size, 1, none⟩ = some (.func (.func 92) #[] #[]) := by rw [← hV]; exact alloc_keep (by simp)
  have XV : XB (w.heap.size + 1) x0 x1 x2 x3 V := by rw [← hV]; exact ⟨by simp, by simp, by simp, by simp⟩
  have C := Lib.hid (conFn_any 96 #[] #[.pointer (some ⟨w.heap.size, 0, none⟩), .pointer (some ⟨w.heap.size + 1, 0, none⟩)] (enters_of Tryz.func96 (by kernel_rfl) rfl) _ n zs hz A c V (h1.below BV.out) (hasFn_pred w.heap.size (w.heap.size + 1) x0 x1 x2 x3 V s1 XV) hn)
  clear h1 hz XV
  go_enter Tryz.func89, Tryz.ntmps89
  go_wp2_with fail
  clear hV s0 s1
  refine C.out.mono ?_
  rintro e w1 ⟨rfl, b1⟩
  rw [any_hasC]
  have B1 := Lib.hid (below_chain BV.out b1)
  clear b1 C
  go_wp2
  go_ret
  exact ⟨rfl, B1.out⟩

/-- The place at which x goes in. -/
structure PlaceIs (zs : List Ce) (x : Ce) (k : Nat) : Prop where
  le : k ≤ zs.length
  lt : ∀ z ∈ zs.take k, ltE z x
  ge : ∀ h : k < zs.length, ¬ltE zs[k] x

set_option maxRecDepth 100000 in
theorem sPlace_any (n : Nat) (zs : List Ce) (hz : zs.length = n) (A : Option Addr) (c : Nat) (x0 x1 x2 x3 : Int) (w : World) (h1 : Ces w A zs) (hn : n ≤ 4194304) :
    Calls Tryz.prog 93 #[.agg #[.slice A n c, .func (.func 92) #[] #[]], .agg #[.int .i64 x0, .int .i64 x1, .int .i64 x2, .int .i64 x3]] w fun e w' => ∃ k : Nat, e = .returned (.int .i64 (k : Int)) ∧ PlaceIs zs (x0, x1, x2, x3) k ∧ Below w.heap.size w w' := by
  obtain ⟨V, hV⟩ : ∃ z, (w.alloc (.cells #[.slice A n c, .func (.func 92) #[] #[]] 119)).alloc (.cells #[.int .i64 x0, .int .i64 x1, .int .i64 x2, .int .i64 x3] 57) = z := ⟨_, rfl⟩
  have BV := Lib.hid (show Below w.heap.size w V by rw [← hV]; exact ((Below.refl _ _).alloc (by simp) _).alloc (by simp) _)
  have s0 : V.cell? ⟨w.heap.size, 0, none⟩ = some (.slice A n c) := by rw [← hV]; exact alloc_keep (by simp)
  have s1 : V.cell? ⟨w.heap.size, 1, none⟩ = some (.func (.func 92) #[] #[]) := by rw [← hV]; exact alloc_keep (by simp)
  have XV : XB (w.heap.size + 1) x0 x1 x2 x3 V := by rw [← hV]; exact ⟨by simp, by simp, by simp, by simp⟩
  have C := Lib.hid (idxFn_any 100 #[] #[.pointer (some ⟨w.heap.size, 0, none⟩), .pointer (some ⟨w.heap.size + 1, 0, none⟩)] (enters_of Tryz.func100 (by kernel_rfl) rfl) _ n zs hz A c V (h1.below BV.out) (placeFn_pred w.heap.size (w.heap.size + 1) x0 x1 x2 x3 V s1 XV) hn)
  have HZ := Lib.hid hz
  clear h1 hz XV
  go_enter Tryz.func93, Tryz.ntmps93
  go_wp2_with fail
  clear hV
  refine C.out.mono ?_
  rintro e w1 ⟨r, rfl, hr, b1⟩
  have B1 := Lib.hid (below_chain BV.out b1)
  have t0 := below_keep b1 s0
  clear b1 C s0 s1
  rcases hr.hit with ⟨k, hk, rfl, ht, hf⟩ | ⟨rfl, hf⟩
  · have HP := Lib.hid (show PlaceIs zs (x0, x1, x2, x3) k from ⟨Nat.le_of_lt hk, fun z hz => by have := hf z hz; simpa using this, fun _ => by simpa using ht⟩)
    have k0 : decide ((k : Int) < 0) = false := by simp
    clear hk ht hf hr
    go_wp2
    go_ret
    exact ⟨k, rfl, HP.out, B1.out⟩
  · have HP := Lib.hid (show PlaceIs zs (x0, x1, x2, x3) n from ⟨by rw [HZ.out]; exact Nat.le_refl _, fun z hz => by have := hf z (List.mem_of_mem_take hz); simpa using this, fun h => absurd h (by rw [HZ.out]; omega)⟩)
    clear hf hr
    go_wp2
    go_ret
    exact ⟨n, rfl, HP.out, B1.out⟩

set_option maxRecDepth 100000 in
set_option maxHeartbeats 4000000 in
theorem implHas_any (n : Nat) (zs : List Ce) (hz : zs.length = n) (A : Option Addr) (c : Nat) (x0 x1 x2 x3 : Int) (w : World) (h1 : Ces w A zs) (hn : n ≤ 4194304) :
    Calls Tryz.prog 79 #[.slice A n c, .agg #[.int .i64 x0, .int .i64 x1, .int .i64 x2, .int .i64 x3]] w fun e w' => e = .returned (.bool (hasC zs (x0, x1, x2, x3))) ∧ Below w.heap.size w w' := by
  have H1 := Lib.hid h1
  have HZ := Lib.hid hz
  clear h1 hz
  obtain ⟨V, hV⟩ : ∃ z, (w.alloc (.cells #[.int .i64 x0, .int .i64 x1, .int .i64 x2, .int .i64 x3] 57)).drew = z := ⟨_, rfl⟩
  have BV := Lib.hid (show Below w.heap.size w V by rw [← hV]; exact ((Below.refl _ _).alloc (Nat.le_refl _) _).drew)
  have XV := Lib.hid (show XW V w.heap.size x0 x1 x2 x3 V by rw [← hV]; exact ⟨(XB.new _ _ _ _ _).drew, Below.refl _ _⟩)
  go_enter Tryz.func79, Tryz.ntmps79
  go_wp2_with fail
  refine wp_region_held_drew (S := XW V w.heap.size x0 x1 x2 x3) (by kernel_rfl) ?_ (fun hHeld => ?_)
  · skip
    rw [hV]; exact XV.out
  change wpAnyH _ _ opsH1 _ _ 5 (LH1 0) _ _
  rw [hV] at hHeld ⊢
  clear hV
  refine tH1_0 (.slice A n c) (fun _ _ _ h => h) (Or.inl ⟨by rfl, fun W hSw => ?_⟩) hHeld ?_
  · skip
    unfold qH1_0
    go_simp
  try simp only [Act.put, List.setIfInBounds_toArray, List.set_cons_zero, List.set_cons_succ]
  refine tH1_1 (.agg #[.int .i64 x0, .int .i64 x1, .int .i64 x2, .int .i64 x3]) (fun _ _ _ h => h) (Or.inl ⟨by rfl, fun W hSw => ?_⟩) hHeld ?_
  · skip
    unfold qH1_2
    obtain ⟨⟨c0, c1, c2, c3⟩, _⟩ := hSw
    go_simp
  try simp only [Act.put, List.setIfInBounds_toArray, List.set_cons_zero, List.set_cons_succ]
  refine cH1_2 (fun K hK => ?_)
  rw [if_pos (by rfl)]
  unfold qH1_1
  go_simp
  refine (sorted_any A n c _).mono ?_
  rintro e w5 ⟨rfl, b5⟩
  refine Shut.out hK _ _ ?_ (fun hHeld => ?_)
  · exact hHeld.below b5
  clear hK K
  try simp only [Act.put, List.setIfInBounds_toArray, List.set_cons_zero, List.set_cons_succ]
  refine cH1_3 (fun K hK => ?_)
  rw [if_pos (by rfl)]
  unfold qH1_3
  go_simp
  refine (sHas_any n zs HZ.out A c x0 x1 x2 x3 w5 (H1.out.below (below_chain BV.out hHeld.bel)) (by omega)).mono ?_
  rintro e w6 ⟨rfl, b6⟩
  obtain ⟨b, hb⟩ : ∃ b, hasC zs (x0, x1, x2, x3) = b := ⟨_, rfl⟩
  rw [hb]
  refine Shut.out hK _ _ ?_ (fun hHeld => ?_)
  · exact hHeld.below b6
  clear hK K
  try simp only [Act.put, List.setIfInBounds_toArray, List.set_cons_zero, List.set_cons_succ]
  refine tH1_4 (.bool b) (fun _ _ _ h => h) (Or.inl ⟨by rfl, fun W hSw => ?_⟩) hHeld ?_
  · skip
    unfold qH1_4
    go_simp
  try simp only [Act.put, List.setIfInBounds_toArray, List.set_cons_zero, List.set_cons_succ]
  refine wpAnyH_done (by kernel_rfl) ?_ _
  have B6 := Lib.hid (below_chain BV.out hHeld.bel)
  clear hHeld
  go_wp2
  go_ret
  exact ⟨by rw [hb]; rfl, B6.out⟩
end Go.Proofs.YtlanmkimaambgaaGreat.hexes

namespace Go.Proofs
open Go.Shelf
def Tryz.growCe_ren : Go.Shelf.Ren := ⟨fun | 4 => 101 | n => n, fun | 22 => 30 | 25 => 57 | 3 => 3 | 4 => 4 | 9 => 9 | 20 => 20 | 0 => 0 | n => n, fun | n => n⟩
theorem Tryz.growCe : Go.Proofs.Lays8.n4 Tryz.prog Tryz.growCe_ren := {
  mixed := by kernel_rfl
  f4 := ⟨Tryz.f101.name, by decide, Tryz.func101.trans (congrArg some (by kernel_rfl))⟩
  t0 := Tryz.underlying0
  a0 := Tryz.isAgg0
  z0 := Tryz.sizeOf0
  v0 := Tryz.zeroValue0
  t3 := Tryz.underlying3
  a3 := Tryz.isAgg3
  z3 := Tryz.sizeOf3
  v3 := Tryz.zeroValue3
  t4 := Tryz.underlying4
  a4 := Tryz.isAgg4
  z4 := Tryz.sizeOf4
  v4 := Tryz.zeroValue4
  t9 := Tryz.underlying9
  a9 := Tryz.isAgg9
  z9 := Tryz.sizeOf9
  v9 := Tryz.zeroValue9
  t20 := Tryz.underlying20
  a20 := Tryz.isAgg20
  z20 := Tryz.sizeOf20
  v20 := Tryz.zeroValue20
  t22 := Tryz.underlying30
  a22 := Tryz.isAgg30
  z22 := Tryz.sizeOf30
  v22 := Tryz.zeroValue30 }
end Go.Proofs

namespace Go.Proofs.YtlanmkimaambgaaGreat.hexes
open Go.RowKit

def findU2 (n : Nat) : Code → Option Code
  | .region id ops d => if id = n then some (.region id ops d) else none
  | .seq a b => match findU2 n a with
    | some c => some c
    | none => findU2 n b
  | .block _ c => findU2 n c
  | .scope c => findU2 n c
  | .loop c => findU2 n c
  | .cond _ a b => match findU2 n a with
    | some c => some c
    | none => findU2 n b
  | _ => none
def opsOfU2 : Option Code → Array Oper
  | some (.region _ ops _) => ops
  | _ => #[]
noncomputable def opsU2 : Array Oper := opsOfU2 (Tryz.f78.body.bind (findU2 1))
def schU2 : List Nat := [0, 2, 1, 3, 4]
def LU2 (k : Nat) : Array Bool := ((List.range 5).map fun i => (schU2.take k).contains i).toArray
theorem noselU2 : Region.noSelect opsU2 = true := by kernel_rfl
def qU2_0 : Oper := { dst := some 5, op := Op.move (Operand.tmp 0), type := 30, pos := "l09_memory.go:69", after := #[], guard := none }
theorem hU2_0 : opsU2[0]? = some qU2_0 := by kernel_rfl
theorem lU2_0 : (LU2 0).setIfInBounds 0 true = LU2 1 := by kernel_rfl
theorem tU2_0 {Q : Exit → Act → World → Prop} {S : World → Prop} {a : Act} {w : World} (v : Value) (hQ : ∀ c a w, Q (.panic c) (a.put (some 5) v) w → Q (.panic c) a w) (hy : YieldsIf Tryz.prog opsU2 S qU2_0 v a) (hS : S w)
    (h : wpAnyH Tryz.prog .any opsU2 Q S 4 (LU2 1) (a.put (some 5) v) w) : wpAnyH Tryz.prog .any opsU2 Q S 5 (LU2 0) a w :=
  wpAnyH_take (i := 0) hU2_0 noselU2 (by kernel_rfl) (by kernel_rfl) hQ hy hS (lU2_0.symm ▸ h)
def qU2_2 : Oper := { dst := some 7, op := Op.load 57 (Operand.tmp 3), type := 57, pos := "l09_memory.go:69", after := #[], guard := none }
theorem hU2_2 : opsU2[2]? = some qU2_2 := by kernel_rfl
theorem lU2_1 : (LU2 1).setIfInBounds 2 true = LU2 2 := by kernel_rfl
theorem tU2_1 {Q : Exit → Act → World → Prop} {S : World → Prop} {a : Act} {w : World} (v : Value) (hQ : ∀ c a w, Q (.panic c) (a.put (some 7) v) w → Q (.panic c) a w) (hy : YieldsIf Tryz.prog opsU2 S qU2_2 v a) (hS : S w)
    (h : wpAnyH Tryz.prog .any opsU2 Q S 3 (LU2 2) (a.put (some 7) v) w) : wpAnyH Tryz.prog .any opsU2 Q S 4 (LU2 1) a w :=
  wpAnyH_take (i := 2) hU2_2 noselU2 (by kernel_rfl) (by kernel_rfl) hQ hy hS (lU2_1.symm ▸ h)
def qU2_1 : Oper := { dst := some 6, op := Op.call { callee := Callee.value (Operand.func 87), args := #[Operand.tmp 5], argTypes := #[30] }, type := 119, pos := "l09_memory.go:69", after := #[{ on := 0, ground := Ground.data }], guard := none }
theorem hU2_1 : opsU2[1]? = some qU2_1 := by kernel_rfl
theorem lU2_2 : (LU2 2).setIfInBounds 1 true = LU2 3 := by kernel_rfl
set_option maxRecDepth 100000 in
theorem cU2_2 {Q : Exit → Act → World → Prop} {S : World → Prop} {a : Act} {w : World}
    (h : ∀ K' : Act → World → Prop, Shut (∀ a w, S w → (S w → wpAnyH Tryz.prog .any opsU2 Q S 2 (LU2 3) a w) → K' a w) → if Region.wanted qU2_1 (yielded opsU2 a.tmps) = true then Oper.wp Tryz.prog qU2_1 a w K' Q else K' (a.put (some 6) undef) w) :
    wpAnyH Tryz.prog .any opsU2 Q S 3 (LU2 2) a w :=
  wpAnyH_ready (rs := [1]) (by kernel_rfl) (by simp) (AllReadyH.cons hU2_1 (fun K' hK => h K' (lU2_2 ▸ hK)) AllReadyH.nil)
theorem tU2_2 {Q : Exit → Act → World → Prop} {S : World → Prop} {a : Act} {w : World} (v : Value) (hQ : ∀ c a w, Q (.panic c) (a.put (some 6) v) w → Q (.panic c) a w) (hy : YieldsIf Tryz.prog opsU2 S qU2_1 v a) (hS : S w)
    (h : wpAnyH Tryz.prog .any opsU2 Q S 2 (LU2 3) (a.put (some 6) v) w) : wpAnyH Tryz.prog .any opsU2 Q S 3 (LU2 2) a w :=
  wpAnyH_take (i := 1) hU2_1 noselU2 (by kernel_rfl) (by kernel_rfl) hQ hy hS (lU2_2.symm ▸ h)
def qU2_3 : Oper := { dst := some 8, op := Op.call { callee := Callee.value (Operand.func 88), args := #[Operand.tmp 6, Operand.tmp 7], argTypes := #[119, 57] }, type := 30, pos := "l09_memory.go:69", after := #[{ on := 1, ground := Ground.data }, { on := 2, ground := Ground.data }, { on := 1, ground := Ground.chain }], guard := none }
theorem hU2_3 : opsU2[3]? = some qU2_3 := by kernel_rfl
theorem lU2_3 : (LU2 3).setIfInBounds 3 true = LU2 4 := by kernel_rfl
set_option maxRecDepth 100000 in
theorem cU2_3 {Q : Exit → Act → World → Prop} {S : World → Prop} {a : Act} {w : World}
    (h : ∀ K' : Act → World → Prop, Shut (∀ a w, S w → (S w → wpAnyH Tryz.prog .any opsU2 Q S 1 (LU2 4) a w) → K' a w) → if Region.wanted qU2_3 (yielded opsU2 a.tmps) = true then Oper.wp Tryz.prog qU2_3 a w K' Q else K' (a.put (some 8) undef) w) :
    wpAnyH Tryz.prog .any opsU2 Q S 2 (LU2 3) a w :=
  wpAnyH_ready (rs := [3]) (by kernel_rfl) (by simp) (AllReadyH.cons hU2_3 (fun K' hK => h K' (lU2_3 ▸ hK)) AllReadyH.nil)
theorem tU2_3 {Q : Exit → Act → World → Prop} {S : World → Prop} {a : Act} {w : World} (v : Value) (hQ : ∀ c a w, Q (.panic c) (a.put (some 8) v) w → Q (.panic c) a w) (hy : YieldsIf Tryz.prog opsU2 S qU2_3 v a) (hS : S w)
    (h : wpAnyH Tryz.prog .any opsU2 Q S 1 (LU2 4) (a.put (some 8) v) w) : wpAnyH Tryz.prog .any opsU2 Q S 2 (LU2 3) a w :=
  wpAnyH_take (i := 3) hU2_3 noselU2 (by kernel_rfl) (by kernel_rfl) hQ hy hS (lU2_3.symm ▸ h)
def qU2_4 : Oper := { dst := some 4, op := Op.assign (Operand.tmp 8), type := 30, pos := "l09_memory.go:69", after := #[{ on := 3, ground := Ground.data }, { on := 3, ground := Ground.chain }, { on := 0, ground := Ground.phase }, { on := 1, ground := Ground.phase }, { on := 2, ground := Ground.phase }, { on := 3, ground := Ground.phase }], guard := none }
theorem hU2_4 : opsU2[4]? = some qU2_4 := by kernel_rfl
theorem lU2_4 : (LU2 4).setIfInBounds 4 true = LU2 5 := by kernel_rfl
theorem tU2_4 {Q : Exit → Act → World → Prop} {S : World → Prop} {a : Act} {w : World} (v : Value) (hQ : ∀ c a w, Q (.panic c) (a.put (some 4) v) w → Q (.panic c) a w) (hy : YieldsIf Tryz.prog opsU2 S qU2_4 v a) (hS : S w)
    (h : wpAnyH Tryz.prog .any opsU2 Q S 0 (LU2 5) (a.put (some 4) v) w) : wpAnyH Tryz.prog .any opsU2 Q S 1 (LU2 4) a w :=
  wpAnyH_take (i := 4) hU2_4 noselU2 (by kernel_rfl) (by kernel_rfl) hQ hy hS (lU2_4.symm ▸ h)
end Go.Proofs.YtlanmkimaambgaaGreat.hexes

