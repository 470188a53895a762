/-
  The reference's StepOp: the contract of spec.StepOp.
  Steps on lists: how much a step makes; the steps one by one.
  The program's Brought: the contract of impl.Brought.
  The reference's Brought.
  How StepAll ends.
  The tail of a list of records.
  A statement of spec.StepAll: its operations, and a theorem a step.
-/
import Derived.Test.YtlanmkimaambgaaGreatJ29
import Derived.Test.YtlanmkimaambgaaGreatJ30
import Derived.Test.YtlanmkimaambgaaGreatJ31
import Derived.Test.YtlanmkimaambgaaGreatJ14
import Derived.Test.YtlanmkimaambgaaGreatJ0
import Derived.Test.YtlanmkimaambgaaGreatJ19
import Derived.Test.YtlanmkimaambgaaGreatJ16
import Derived.Laws.AppendOwnNone
import Derived.Deep.AppendLies
import Derived.Lib.SliceRun
import Derived.Test.YtlanmkimaambgaaGreatProg
import Derived.WalkKit
import Derived.Deep.RegionHeld3

namespace Go.Proofs.YtlanmkimaambgaaGreat.hexes
open Go.RowKit

set_option maxRecDepth 1000000 in
set_option maxHeartbeats 16000000 in
theorem specStep_any (gs : List Nd) (wk cp : Int) (A : Option Addr) (n c : Nat) (hl : gs.length = n) (ho : ∀ x ∈ gs, x.2.2.2.length ≤ 1048576) (hn : n ≤ 1048576) (ces : List Ce) (A2 : Option Addr) (n2 c2 : Nat) (hl2 : ces.length = n2) (hA2 : A2 = none → c2 = 0) (hc2 : n2 ≤ c2) (hn2 : n2 ≤ 2000000) (r0 r1 r2 r3 r4 : Int) (w : World) (h : Nds w A gs) (h2 : Ces w A2 ces) :
    Calls Tryz.prog 22 #[.agg #[.slice A n c, .int .i64 wk, .int .i64 cp], .slice A2 n2 c2, .agg #[.int .i64 r0, .int .i64 r1, .int .i64 r2, .int .i64 r3, .int .i64 r4]] w (StepEnd w (stepGr gs wk cp ces (r0, (r1, r2), r3, r4))) := by
  cases hg : goX gs (r0, (r1, r2), r3, r4) with
  | false => exact specStepA gs wk cp A n c hl ho hn ces A2 n2 c2 hl2 hA2 hc2 hn2 r0 r1 r2 r3 r4 w h h2 hg
  | true =>
    cases hr : remX gs r0 with
    | false => exact specStepB gs wk cp A n c hl ho hn ces A2 n2 c2 hl2 hA2 hc2 hn2 r0 r1 r2 r3 r4 w h h2 hg hr
    | true => exact specStepC gs wk cp A n c hl ho hn ces A2 n2 c2 hl2 hA2 hc2 hn2 r0 r1 r2 r3 r4 w h h2 hg hr
end Go.Proofs.YtlanmkimaambgaaGreat.hexes

namespace Go.Proofs.YtlanmkimaambgaaGreat.hexes
open Go.RowKit

theorem emit_lenS (zs : List Int) (s : Int × Int) (key val : Int) : (emitL zs s key val).length ≤ zs.length := Nat.le_of_eq (emit_len zs s key val)
theorem stepN_out (x : Nd) (key val : Int) (goes : Bool) (cs : List Ce) (r : Rc) : (stepNd x key val goes cs r).1.2.length ≤ x.2.2.2.length := by
  unfold stepNd
  dsimp only
  repeat' split
  all_goals first | exact emit_lenS _ _ _ _ | simp
theorem stepN_cells (x : Nd) (key val : Int) (goes : Bool) (cs : List Ce) (r : Rc) : (stepNd x key val goes cs r).1.1.length ≤ cs.length + 1 := by
  have h := recC_len x.1 cs (r.1, r.2.1.1, r.2.2.1, r.2.2.2)
  unfold stepNd
  dsimp only
  repeat' split
  all_goals first | exact h | (simp; done) | (simp; omega)
theorem stepG_cells (gs : List Nd) (wk cp : Int) (cs : List Ce) (r : Rc) : (stepGr gs wk cp cs r).1.1.length ≤ cs.length + 1 := by
  unfold stepGr
  split
  · simp
  · exact stepN_cells _ _ _ _ _ _
theorem allB_at {gs : List Nd} {d : Int → Int} (h : allB gs d = true) {i : Nat} (hi : i < gs.length) : nodeB gs d i gs[i] = true := by
  unfold allB at h
  rw [List.all_eq_true] at h
  have := h i (by simpa using hi)
  simpa [List.getElem?_eq_getElem hi] using this
theorem stepG_out (gs : List Nd) (wk cp : Int) (cs : List Ce) (r : Rc) : (stepGr gs wk cp cs r).1.2.length ≤ 2 := by
  unfold stepGr
  split
  · simp
  · rename_i h
    refine Nat.le_trans (stepN_out _ _ _ _ _ _) ?_
    rw [Bool.not_eq_false, Bool.and_eq_true, Bool.and_eq_true] at h
    obtain ⟨⟨h1, h2⟩, _⟩ := h
    unfold hasB at h1
    simp only [decide_eq_true_eq] at h1
    obtain ⟨j, hj⟩ : ∃ j : Nat, r.1 = (j : Int) := ⟨r.1.toNat, by omega⟩
    have hl : j < gs.length := by omega
    rw [hj, nodeAt_of hl]
    unfold okGr at h2
    simp only [Bool.and_eq_true] at h2
    have h3 := allB_at h2.2 hl
    unfold nodeB at h3
    simp only [Bool.and_eq_true] at h3
    have h4 := h3.1.1
    unfold okN okNd at h4
    simp only [Bool.and_eq_true] at h4
    have h5 := h4.2
    unfold outsB at h5
    simp only [decide_eq_true_eq] at h5
    exact h5.1
theorem steps_nil (gs : List Nd) (wk cp : Int) (k : Nat) (cs : List Ce) : stepsG gs wk cp k (cs, []) = ((cs, []), 0) := by
  cases k <;> rfl
theorem steps_succ (gs : List Nd) (wk cp : Int) (k : Nat) (cs : List Ce) (r : Rc) (rs : List Rc) : stepsG gs wk cp (k + 1) (cs, r :: rs) = ((stepsG gs wk cp k ((stepGr gs wk cp cs r).1.1, rs ++ (stepGr gs wk cp cs r).1.2)).1, (stepsG gs wk cp k ((stepGr gs wk cp cs r).1.1, rs ++ (stepGr gs wk cp cs r).1.2)).2 + 1) := rfl
theorem steps_len (gs : List Nd) (wk cp : Int) (k : Nat) : ∀ (cs : List Ce) (rs : List Rc), (stepsG gs wk cp k (cs, rs)).1.1.length ≤ cs.length + k ∧ (stepsG gs wk cp k (cs, rs)).1.2.length ≤ rs.length + 2 * k := by
  induction k with
  | zero => intro cs rs; exact ⟨Nat.le_refl _, Nat.le_refl _⟩
  | succ k ih =>
    intro cs rs
    cases rs with
    | nil => rw [steps_nil]; exact ⟨Nat.le_add_right _ _, Nat.zero_le _⟩
    | cons r rs =>
      rw [steps_succ]
      have h := ih (stepGr gs wk cp cs r).1.1 (rs ++ (stepGr gs wk cp cs r).1.2)
      have h1 := stepG_cells gs wk cp cs r
      have h2 := stepG_out gs wk cp cs r
      have h3 := h.2
      rw [List.length_append] at h3
      refine ⟨Nat.le_trans h.1 (by omega), Nat.le_trans h3 ?_⟩
      rw [List.length_cons]
      omega
/-- After j steps the rest leads to the same end. -/
def StepsAt (gs : List Nd) (wk cp : Int) (K j : Nat) (q : (List Ce × List Rc) × Nat) (cs : List Ce) (rs : List Rc) : Prop := (stepsG gs wk cp (K - j) (cs, rs)).1 = q.1 ∧ (stepsG gs wk cp (K - j) (cs, rs)).2 + j = q.2
theorem StepsAt.start (gs : List Nd) (wk cp : Int) (K : Nat) (cs : List Ce) (rs : List Rc) : StepsAt gs wk cp K 0 (stepsG gs wk cp K (cs, rs)) cs rs := ⟨rfl, rfl⟩
theorem StepsAt.next {gs : List Nd} {wk cp : Int} {K j : Nat} {q : (List Ce × List Rc) × Nat} {cs : List Ce} {r : Rc} {rs : List Rc} (h : StepsAt gs wk cp K j q cs (r :: rs)) (hj : j < K) : StepsAt gs wk cp K (j + 1) q (stepGr gs wk cp cs r).1.1 (rs ++ (stepGr gs wk cp cs r).1.2) := by
  obtain ⟨h1, h2⟩ := h
  rw [show K - j = (K - (j + 1)) + 1 by omega, steps_succ] at h1 h2
  exact ⟨h1, by rw [← h2]; show _ = _ + 1 + j; omega⟩
theorem StepsAt.full {gs : List Nd} {wk cp : Int} {K : Nat} {q : (List Ce × List Rc) × Nat} {cs : List Ce} {rs : List Rc} (h : StepsAt gs wk cp K K q cs rs) : q = ((cs, rs), K) := by
  obtain ⟨h1, h2⟩ := h
  rw [Nat.sub_self] at h1 h2
  exact Prod.ext h1.symm (by rw [← h2]; show 0 + K = K; omega)
theorem StepsAt.empty {gs : List Nd} {wk cp : Int} {K j : Nat} {q : (List Ce × List Rc) × Nat} {cs : List Ce} (h : StepsAt gs wk cp K j q cs []) : q = ((cs, []), j) := by
  obtain ⟨h1, h2⟩ := h
  rw [steps_nil] at h1 h2
  exact Prod.ext h1.symm (by rw [← h2]; show 0 + j = j; omega)
end Go.Proofs.YtlanmkimaambgaaGreat.hexes

namespace Go.Proofs.YtlanmkimaambgaaGreat.hexes
open Go.RowKit

def brought (n least most : Int) : Int := if most < least ∨ n < least then least else if most < n then most else n

theorem ret_int {a b : Int} (h : b = a) : Ending.returned (.int .i64 a) = .returned (.int .i64 b) := by rw [h]

theorem brought_any (n least most : Int) (w : World) :
    Calls Tryz.prog 28 #[.int .i64 n, .int .i64 least, .int .i64 most] w fun e w' => e = .returned (.int .i64 (brought n least most)) ∧ w = w' := by
  by_cases h1 : most < least
  · have E := Lib.hid (show brought n least most = least from if_pos (.inl h1))
    by_cases h2 : n < least
    all_goals
      go_enter Tryz.func28, Tryz.ntmps28
      go_wp2
      go_ret
      exact ⟨ret_int E.out, rfl⟩
  · by_cases h2 : n < least
    · have E := Lib.hid (show brought n least most = least from if_pos (.inr h2))
      go_enter Tryz.func28, Tryz.ntmps28
      go_wp2
      go_ret
      exact ⟨ret_int E.out, rfl⟩
    · by_cases h3 : most < n
      · have E := Lib.hid (show brought n least most = most by unfold brought; rw [if_neg (by omega), if_pos h3])
        go_enter Tryz.func28, Tryz.ntmps28
        go_wp2
        go_ret
        exact ⟨ret_int E.out, rfl⟩
      · have E := Lib.hid (show brought n least most = n by unfold brought; rw [if_neg (by omega), if_neg h3])
        go_enter Tryz.func28, Tryz.ntmps28
        go_wp2
        go_ret
        exact ⟨ret_int E.out, rfl⟩

theorem brought_bd (n least most : Int) (h : least ≤ most) : least ≤ brought n least most ∧ brought n least most ≤ most ∧ brought (brought n least most) least most = brought n least most := by
  have key : ∀ m, least ≤ m → m ≤ most → brought m least most = m := fun m h1 h2 => by unfold brought; rw [if_neg (by omega), if_neg (by omega)]
  by_cases h2 : n < least
  · have e : brought n least most = least := if_pos (.inr h2)
    rw [e]
    exact ⟨by omega, h, key _ (by omega) h⟩
  · by_cases h3 : most < n
    · have e : brought n least most = most := by unfold brought; rw [if_neg (by omega), if_pos h3]
      rw [e]
      exact ⟨h, by omega, key _ h (by omega)⟩
    · have e : brought n least most = n := by unfold brought; rw [if_neg (by omega), if_neg h3]
      rw [e]
      exact ⟨by omega, by omega, e⟩
end Go.Proofs.YtlanmkimaambgaaGreat.hexes

namespace Go.Proofs.YtlanmkimaambgaaGreat.hexes
open Go.RowKit

theorem specBrought_any (n least most : Int) (w : World) :
    Calls Tryz.prog 21 #[.int .i64 n, .int .i64 least, .int .i64 most] w fun e w' => e = .returned (.int .i64 (brought n least most)) ∧ w = w' := by
  by_cases h1 : most < least
  · have E := Lib.hid (show brought n least most = least from if_pos (.inl h1))
    by_cases h2 : n < least
    all_goals
      go_enter Tryz.func21, Tryz.ntmps21
      go_wp2
      go_ret
      exact ⟨ret_int E.out, rfl⟩
  · by_cases h2 : n < least
    · have E := Lib.hid (show brought n least most = least from if_pos (.inr h2))
      go_enter Tryz.func21, Tryz.ntmps21
      go_wp2
      go_ret
      exact ⟨ret_int E.out, rfl⟩
    · by_cases h3 : most < n
      · have E := Lib.hid (show brought n least most = most by unfold brought; rw [if_neg (by omega), if_pos h3])
        go_enter Tryz.func21, Tryz.ntmps21
        go_wp2
        go_ret
        exact ⟨ret_int E.out, rfl⟩
      · have E := Lib.hid (show brought n least most = n by unfold brought; rw [if_neg (by omega), if_neg h3])
        go_enter Tryz.func21, Tryz.ntmps21
        go_wp2
        go_ret
        exact ⟨ret_int E.out, rfl⟩
end Go.Proofs.YtlanmkimaambgaaGreat.hexes

namespace Go.Proofs.YtlanmkimaambgaaGreat.hexes
open Go.RowKit

/-- What StepAll answers. -/
def allG (gs : List Nd) (wk cp : Int) (cs : List Ce) (rs : List Rc) (mo : Int) : (List Ce × List Rc) × Nat := stepsG gs wk cp (brought mo 0 100000).toNat (cs, rs)
/-- How StepAll ends. -/
def AllEnd (w : World) (q : (List Ce × List Rc) × Nat) (e : Ending) (w' : World) : Prop :=
  ∃ (A3 : Option Addr) (c3 m3 : Nat) (A4 : Option Addr) (c4 m4 : Nat), q.1.1.length = m3 ∧ q.1.2.length = m4 ∧ e = .returned (.tuple #[.slice A3 m3 c3, .slice A4 m4 c4, .int .i64 (q.2 : Int)]) ∧ w'.ownsRow w.heap.size 57 4 (.slice A3 m3 c3) m3 (ceCells q.1.1) ∧ w'.ownsRow w.heap.size 54 5 (.slice A4 m4 c4) m4 (rcCells q.1.2) ∧ Below w.heap.size w w'
theorem all_len (gs : List Nd) (wk cp : Int) (cs : List Ce) (rs : List Rc) (mo : Int) : (allG gs wk cp cs rs mo).1.1.length ≤ cs.length + 100000 ∧ (allG gs wk cp cs rs mo).1.2.length ≤ rs.length + 200000 := by
  have h := steps_len gs wk cp (brought mo 0 100000).toNat cs rs
  have hb := brought_bd mo 0 100000 (by omega)
  unfold allG
  exact ⟨Nat.le_trans h.1 (by omega), Nat.le_trans h.2 (by omega)⟩
theorem AllEnd.rows {w w' : World} {q : (List Ce × List Rc) × Nat} {e : Ending} (h : AllEnd w q e w') {us : List Ce} {out : List Rc} {nn : Nat} {m3 m4 : Nat} (hq : q = ((us, out), nn)) (h3 : us.length = m3) (h4 : out.length = m4) :
    ∃ A3 c3 A4 c4, e = .returned (.tuple #[.slice A3 m3 c3, .slice A4 m4 c4, .int .i64 (nn : Int)]) ∧ Row w' w.heap.size w'.heap.size 57 4 A3 m3 c3 (ceCells us) ∧ Row w' w.heap.size w'.heap.size 54 5 A4 m4 c4 (rcCells out) ∧ Below w.heap.size w w' := by
  subst hq
  obtain ⟨A3, c3, n3, A4, c4, n4, l3, l4, rfl, o3, o4, hb⟩ := h
  have e3 : n3 = m3 := l3.symm.trans h3
  have e4 : n4 = m4 := l4.symm.trans h4
  subst e3 e4
  obtain ⟨B3, d3, q3, r3⟩ := row_of o3
  obtain ⟨B4, d4, q4, r4⟩ := row_of o4
  simp only [Value.slice.injEq, true_and] at q3 q4
  obtain ⟨rfl, rfl⟩ := q3
  obtain ⟨rfl, rfl⟩ := q4
  exact ⟨A3, c3, A4, c4, rfl, r3, r4, hb⟩
end Go.Proofs.YtlanmkimaambgaaGreat.hexes

namespace Go.Proofs.YtlanmkimaambgaaGreat.hexes
open Go.RowKit

theorem Rcs.drop {w : World} {A : Option Addr} {zs : List Rc} (h : Rcs w A zs) {k : Nat} {A' : Option Addr} (hA' : ∀ b off, k < zs.length → A = some ⟨b, off, none⟩ → A' = some ⟨b, off + k * 5, none⟩) : Rcs w A' (zs.drop k) := fun hl => by
  rw [List.length_drop] at hl
  obtain ⟨b, off, hA, hb, hz⟩ := h (by omega)
  refine ⟨b, off + k * 5, hA' b off (by omega) hA, hb, fun j hj => ?_⟩
  rw [List.length_drop] at hj
  have := hz (k + j) (by omega)
  rw [List.getElem_drop, show off + k * 5 + j * 5 = off + (k + j) * 5 by omega]
  exact this

set_option maxRecDepth 100000 in
theorem slice_fromR (A : Option Addr) (n c k : Nat) (h : k ≤ n) (hc : n ≤ c) (hA : A = none → c = 0) : ∃ T, (∀ w, (Instr.slice 31 (.slice A n c) (some (.int .i64 (k : Int))) none none).run Tryz.prog w = .ok (.slice T (n - k) (c - k)) w) ∧ (T = none → c - k = 0) ∧ ∀ w zs, zs.length = n → Rcs w A zs → Rcs w T (zs.drop k) := by
  refine ⟨if c = k then A else A.map (·.add (k * 5)), fun w => ?_, ?_, fun w zs hl hz => ?_⟩
  · have hs : (sizeOf (Tryz.prog.elem 31)).run Tryz.prog w = .ok 5 w := rfl
    rw [run_slice_l (P := Tryz.prog) w 31 A n c Tryz.underlying31 .i64 (k : Int) (by omega) (by omega), hs]
    simp [Result.andThen, sliced]
  · intro hT
    by_cases h0 : c = k
    · omega
    · rw [if_neg h0] at hT
      cases A with
      | none => have := hA rfl; omega
      | some ad => simp at hT
  · refine hz.drop fun b off hk hA' => ?_
    rw [hA', if_neg (by omega)]
    simp only [Option.map_some]; rw [addr_add1]
end Go.Proofs.YtlanmkimaambgaaGreat.hexes

namespace Go.Proofs.YtlanmkimaambgaaGreat.hexes
open Go.RowKit

def findA6 (n : Nat) : Code → Option Code
  | .region id ops d => if id = n then some (.region id ops d) else none
  | .seq a b => match findA6 n a with
    | some c => some c
    | none => findA6 n b
  | .block _ c => findA6 n c
  | .scope c => findA6 n c
  | .loop c => findA6 n c
  | .cond _ a b => match findA6 n a with
    | some c => some c
    | none => findA6 n b
  | _ => none
def opsOfA6 : Option Code → Array Oper
  | some (.region _ ops _) => ops
  | _ => #[]
noncomputable def opsA6 : Array Oper := opsOfA6 (Tryz.f7.body.bind (findA6 6))
def schA6 : List Nat := [0, 1, 2, 3, 4, 5, 6, 7, 8, 9, 10, 11, 12]
def LA6 (k : Nat) : Array Bool := ((List.range 13).map fun i => (schA6.take k).contains i).toArray
theorem noselA6 : Region.noSelect opsA6 = true := by kernel_rfl
def qA6_0 : Oper := { dst := some 32, op := Op.load 36 (Operand.tmp 4), type := 36, pos := "l10_steps.go:49", after := #[], guard := none }
theorem hA6_0 : opsA6[0]? = some qA6_0 := by kernel_rfl
def qA6_1 : Oper := { dst := some 33, op := Op.move (Operand.tmp 1), type := 30, pos := "l10_steps.go:49", after := #[], guard := none }
theorem hA6_1 : opsA6[1]? = some qA6_1 := by kernel_rfl
def qA6_2 : Oper := { dst := some 34, op := Op.move (Operand.tmp 2), type := 31, pos := "l10_steps.go:49", after := #[], guard := none }
theorem hA6_2 : opsA6[2]? = some qA6_2 := by kernel_rfl
def qA6_3 : Oper := { dst := some 35, op := Op.indexAddr 31 (Operand.tmp 34) (Operand.const (Value.int IntKind.i64 0)), type := 0, pos := "l10_steps.go:49", after := #[{ on := 2, ground := Ground.data }], guard := none }
theorem hA6_3 : opsA6[3]? = some qA6_3 := by kernel_rfl
def qA6_4 : Oper := { dst := some 36, op := Op.load 54 (Operand.tmp 35), type := 54, pos := "l10_steps.go:49", after := #[{ on := 3, ground := Ground.data }], guard := none }
theorem hA6_4 : opsA6[4]? = some qA6_4 := by kernel_rfl
def qA6_5 : Oper := { dst := some 37, op := Op.call { callee := Callee.value (Operand.func 22), args := #[Operand.tmp 32, Operand.tmp 33, Operand.tmp 36], argTypes := #[36, 30, 54] }, type := 49, pos := "l10_steps.go:49", after := #[{ on := 0, ground := Ground.data }, { on := 1, ground := Ground.data }, { on := 4, ground := Ground.data }], guard := none }
theorem hA6_5 : opsA6[5]? = some qA6_5 := by kernel_rfl
def qA6_6 : Oper := { dst := some 31, op := Op.move (Operand.tmp 37), type := 49, pos := "l10_steps.go:49", after := #[{ on := 5, ground := Ground.data }], guard := none }
theorem hA6_6 : opsA6[6]? = some qA6_6 := by kernel_rfl
def qA6_7 : Oper := { dst := some 38, op := Op.extract (Operand.tmp 31) 0, type := 30, pos := "l10_steps.go:49", after := #[{ on := 6, ground := Ground.data }], guard := none }
theorem hA6_7 : opsA6[7]? = some qA6_7 := by kernel_rfl
def qA6_8 : Oper := { dst := some 39, op := Op.extract (Operand.tmp 31) 1, type := 31, pos := "l10_steps.go:49", after := #[{ on := 6, ground := Ground.data }, { on := 10, ground := Ground.gcOnly Departure.lateStores }], guard := none }
theorem hA6_8 : opsA6[8]? = some qA6_8 := by kernel_rfl
def qA6_9 : Oper := { dst := some 40, op := Op.extract (Operand.tmp 31) 2, type := 4, pos := "l10_steps.go:49", after := #[{ on := 6, ground := Ground.data }, { on := 11, ground := Ground.gcOnly Departure.lateStores }], guard := none }
theorem hA6_9 : opsA6[9]? = some qA6_9 := by kernel_rfl
def qA6_10 : Oper := { dst := some 12, op := Op.assign (Operand.tmp 38), type := 30, pos := "l10_steps.go:49", after := #[{ on := 7, ground := Ground.data }, { on := 5, ground := Ground.chain }, { on := 0, ground := Ground.phase }, { on := 1, ground := Ground.phase }, { on := 2, ground := Ground.phase }, { on := 3, ground := Ground.phase }, { on := 4, ground := Ground.phase }, { on := 5, ground := Ground.phase }, { on := 6, ground := Ground.phase }, { on := 7, ground := Ground.phase }, { on := 8, ground := Ground.textOnly Departure.lateStores }, { on := 9, ground := Ground.textOnly Departure.lateStores }], guard := none }
theorem hA6_10 : opsA6[10]? = some qA6_10 := by kernel_rfl
def qA6_11 : Oper := { dst := some 13, op := Op.assign (Operand.tmp 39), type := 31, pos := "l10_steps.go:49", after := #[{ on := 8, ground := Ground.data }, { on := 10, ground := Ground.chain }, { on := 0, ground := Ground.phase }, { on := 1, ground := Ground.phase }, { on := 2, ground := Ground.phase }, { on := 3, ground := Ground.phase }, { on := 4, ground := Ground.phase }, { on := 5, ground := Ground.phase }, { on := 6, ground := Ground.phase }, { on := 7, ground := Ground.phase }, { on := 8, ground := Ground.phase }, { on := 9, ground := Ground.textOnly Departure.lateStores }, { on := 10, ground := Ground.phase }], guard := none }
theorem hA6_11 : opsA6[11]? = some qA6_11 := by kernel_rfl
def qA6_12 : Oper := { dst := some 14, op := Op.assign (Operand.tmp 40), type := 4, pos := "l10_steps.go:49", after := #[{ on := 9, ground := Ground.data }, { on := 11, ground := Ground.chain }, { on := 0, ground := Ground.phase }, { on := 1, ground := Ground.phase }, { on := 2, ground := Ground.phase }, { on := 3, ground := Ground.phase }, { on := 4, ground := Ground.phase }, { on := 5, ground := Ground.phase }, { on := 6, ground := Ground.phase }, { on := 7, ground := Ground.phase }, { on := 8, ground := Ground.phase }, { on := 9, ground := Ground.phase }, { on := 10, ground := Ground.phase }, { on := 11, ground := Ground.phase }], guard := none }
theorem hA6_12 : opsA6[12]? = some qA6_12 := by kernel_rfl
theorem tA6_e_0 {Q : Exit → Act → World → Prop} {S : World → Prop} {a : Act} {w : World} (v : Value) (hQ : ∀ c a w, Q (.panic c) (a.put (some 32) v) w → Q (.panic c) a w) (hy : YieldsIf Tryz.prog opsA6 S qA6_0 v a) (hS : S w)
    (h : wpAnyH Tryz.prog .any opsA6 Q S 12 (#[true, false, false, false, false, false, false, false, false, false, false, false, false] : Array Bool) (a.put (some 32) v) w) : wpAnyH Tryz.prog .any opsA6 Q S 13 (#[false, false, false, false, false, false, false, false, false, false, false, false, false] : Array Bool) a w :=
  wpAnyH_take (i := 0) hA6_0 noselA6 (by kernel_rfl) (by kernel_rfl) hQ hy hS ((show (#[false, false, false, false, false, false, false, false, false, false, false, false, false] : Array Bool).setIfInBounds 0 true = (#[true, false, false, false, false, false, false, false, false, false, false, false, false] : Array Bool) by kernel_rfl).symm ▸ h)
theorem tA6_0_1 {Q : Exit → Act → World → Prop} {S : World → Prop} {a : Act} {w : World} (v : Value) (hQ : ∀ c a w, Q (.panic c) (a.put (some 33) v) w → Q (.panic c) a w) (hy : YieldsIf Tryz.prog opsA6 S qA6_1 v a) (hS : S w)
    (h : wpAnyH Tryz.prog .any opsA6 Q S 11 (#[true, true, false, false, false, false, false, false, false, false, false, false, false] : Array Bool) (a.put (some 33) v) w) : wpAnyH Tryz.prog .any opsA6 Q S 12 (#[true, false, false, false, false, false, false, false, false, false, false, false, false] : Array Bool) a w :=
  wpAnyH_take (i := 1) hA6_1 noselA6 (by kernel_rfl) (by kernel_rfl) hQ hy hS ((show (#[true, false, false, false, false, false, false, false, false, false, false, false, false] : Array Bool).setIfInBounds 1 true = (#[true, true, false, false, false, false, false, false, false, false, false, false, false] : Array Bool) by kernel_rfl).symm ▸ h)
theorem tA6_01_2 {Q : Exit → Act → World → Prop} {S : World → Prop} {a : Act} {w : World} (v : Value) (hQ : ∀ c a w, Q (.panic c) (a.put (some 34) v) w → Q (.panic c) a w) (hy : YieldsIf Tryz.prog opsA6 S qA6_2 v a) (hS : S w)
    (h : wpAnyH Tryz.prog .any opsA6 Q S 10 (#[true, true, true, false, false, false, false, false, false, false, false, false, false] : Array Bool) (a.put (some 34) v) w) : wpAnyH Tryz.prog .any opsA6 Q S 11 (#[true, true, false, false, false, false, false, false, false, false, false, false, false] : Array Bool) a w :=
  wpAnyH_take (i := 2) hA6_2 noselA6 (by kernel_rfl) (by kernel_rfl) hQ hy hS ((show (#[true, true, false, false, false, false, false, false, false, false, false, false, false] : Array Bool).setIfInBounds 2 true = (#[true, true, true, false, false, false, false, false, false, false, false, false, false] : Array Bool) by kernel_rfl).symm ▸ h)
theorem tA6_012_3 {Q : Exit → Act → World → Prop} {S : World → Prop} {a : Act} {w : World} (v : Value) (hQ : ∀ c a w, Q (.panic c) (a.put (some 35) v) w → Q (.panic c) a w) (hy : YieldsIf Tryz.prog opsA6 S qA6_3 v a) (hS : S w)
    (h : wpAnyH Tryz.prog .any opsA6 Q S 9 (#[true, true, true, true, false, false, false, false, false, false, false, false, false] : Array Bool) (a.put (some 35) v) w) : wpAnyH Tryz.prog .any opsA6 Q S 10 (#[true, true, true, false, false, false, false, false, false, false, false, false, false] : Array Bool) a w :=
  wpAnyH_take (i := 3) hA6_3 noselA6 (by kernel_rfl) (by kernel_rfl) hQ hy hS ((show (#[true, true, true, false, false, false, false, false, false, false, false, false, false] : Array Bool).setIfInBounds 3 true = (#[true, true, true, true, false, false, false, false, false, false, false, false, false] : Array Bool) by kernel_rfl).symm ▸ h)
theorem tA6_0123_4 {Q : Exit → Act → World → Prop} {S : World → Prop} {a : Act} {w : World} (v : Value) (hQ : ∀ c a w, Q (.panic c) (a.put (some 36) v) w → Q (.panic c) a w) (hy : YieldsIf Tryz.prog opsA6 S qA6_4 v a) (hS : S w)
    (h : wpAnyH Tryz.prog .any opsA6 Q S 8 (#[true, true, true, true, true, false, false, false, false, false, false, false, false] : Array Bool) (a.put (some 36) v) w) : wpAnyH Tryz.prog .any opsA6 Q S 9 (#[true, true, true, true, false, false, false, false, false, false, false, false, false] : Array Bool) a w :=
  wpAnyH_take (i := 4) hA6_4 noselA6 (by kernel_rfl) (by kernel_rfl) hQ hy hS ((show (#[true, true, true, true, false, false, false, false, false, false, false, false, false] : Array Bool).setIfInBounds 4 true = (#[true, true, true, true, true, false, false, false, false, false, false, false, false] : Array Bool) by kernel_rfl).symm ▸ h)
theorem tA6_012345_6 {Q : Exit → Act → World → Prop} {S : World → Prop} {a : Act} {w : World} (v : Value) (hQ : ∀ c a w, Q (.panic c) (a.put (some 31) v) w → Q (.panic c) a w) (hy : YieldsIf Tryz.prog opsA6 S qA6_6 v a) (hS : S w)
    (h : wpAnyH Tryz.prog .any opsA6 Q S 6 (#[true, true, true, true, true, true, true, false, false, false, false, false, false] : Array Bool) (a.put (some 31) v) w) : wpAnyH Tryz.prog .any opsA6 Q S 7 (#[true, true, true, true, true, true, false, false, false, false, false, false, false] : Array Bool) a w :=
  wpAnyH_take (i := 6) hA6_6 noselA6 (by kernel_rfl) (by kernel_rfl) hQ hy hS ((show (#[true, true, true, true, true, true, false, false, false, false, false, false, false] : Array Bool).setIfInBounds 6 true = (#[true, true, true, true, true, true, true, false, false, false, false, false, false] : Array Bool) by kernel_rfl).symm ▸ h)
theorem tA6_0123456_7 {Q : Exit → Act → World → Prop} {S : World → Prop} {a : Act} {w : World} (v : Value) (hQ : ∀ c a w, Q (.panic c) (a.put (some 38) v) w → Q (.panic c) a w) (hy : YieldsIf Tryz.prog opsA6 S qA6_7 v a) (hS : S w)
    (h : wpAnyH Tryz.prog .any opsA6 Q S 5 (#[true, true, true, true, true, true, true, true, false, false, false, false, false] : Array Bool) (a.put (some 38) v) w) : wpAnyH Tryz.prog .any opsA6 Q S 6 (#[true, true, true, true, true, true, true, false, false, false, false, false, false] : Array Bool) a w :=
  wpAnyH_take (i := 7) hA6_7 noselA6 (by kernel_rfl) (by kernel_rfl) hQ hy hS ((show (#[true, true, true, true, true, true, true, false, false, false, false, false, false] : Array Bool).setIfInBounds 7 true = (#[true, true, true, true, true, true, true, true, false, false, false, false, false] : Array Bool) by kernel_rfl).symm ▸ h)
theorem tA6_01234567_8 {Q : Exit → Act → World → Prop} {S : World → Prop} {a : Act} {w : World} (v : Value) (hQ : ∀ c a w, Q (.panic c) (a.put (some 39) v) w → Q (.panic c) a w) (hy : YieldsIf Tryz.prog opsA6 S qA6_8 v a) (hS : S w)
    (h : wpAnyH Tryz.prog .any opsA6 Q S 4 (#[true, true, true, true, true, true, true, true, true, false, false, false, false] : Array Bool) (a.put (some 39) v) w) : wpAnyH Tryz.prog .any opsA6 Q S 5 (#[true, true, true, true, true, true, true, true, false, false, false, false, false] : Array Bool) a w :=
  wpAnyH_take (i := 8) hA6_8 noselA6 (by kernel_rfl) (by kernel_rfl) hQ hy hS ((show (#[true, true, true, true, true, true, true, true, false, false, false, false, false] : Array Bool).setIfInBounds 8 true = (#[true, true, true, true, true, true, true, true, true, false, false, false, false] : Array Bool) by kernel_rfl).symm ▸ h)
theorem tA6_012345678_9 {Q : Exit → Act → World → Prop} {S : World → Prop} {a : Act} {w : World} (v : Value) (hQ : ∀ c a w, Q (.panic c) (a.put (some 40) v) w → Q (.panic c) a w) (hy : YieldsIf Tryz.prog opsA6 S qA6_9 v a) (hS : S w)
    (h : wpAnyH Tryz.prog .any opsA6 Q S 3 (#[true, true, true, true, true, true, true, true, true, true, false, false, false] : Array Bool) (a.put (some 40) v) w) : wpAnyH Tryz.prog .any opsA6 Q S 4 (#[true, true, true, true, true, true, true, true, true, false, false, false, false] : Array Bool) a w :=
  wpAnyH_take (i := 9) hA6_9 noselA6 (by kernel_rfl) (by kernel_rfl) hQ hy hS ((show (#[true, true, true, true, true, true, true, true, true, false, false, false, false] : Array Bool).setIfInBounds 9 true = (#[true, true, true, true, true, true, true, true, true, true, false, false, false] : Array Bool) by kernel_rfl).symm ▸ h)
theorem tA6_0123456789_10 {Q : Exit → Act → World → Prop} {S : World → Prop} {a : Act} {w : World} (v : Value) (hQ : ∀ c a w, Q (.panic c) (a.put (some 12) v) w → Q (.panic c) a w) (hy : YieldsIf Tryz.prog opsA6 S qA6_10 v a) (hS : S w)
    (h : wpAnyH Tryz.prog .any opsA6 Q S 2 (#[true, true, true, true, true, true, true, true, true, true, true, false, false] : Array Bool) (a.put (some 12) v) w) : wpAnyH Tryz.prog .any opsA6 Q S 3 (#[true, true, true, true, true, true, true, true, true, true, false, false, false] : Array Bool) a w :=
  wpAnyH_take (i := 10) hA6_10 noselA6 (by kernel_rfl) (by kernel_rfl) hQ hy hS ((show (#[true, true, true, true, true, true, true, true, true, true, false, false, false] : Array Bool).setIfInBounds 10 true = (#[true, true, true, true, true, true, true, true, true, true, true, false, false] : Array Bool) by kernel_rfl).symm ▸ h)
theorem tA6_0123456789_10_11 {Q : Exit → Act → World → Prop} {S : World → Prop} {a : Act} {w : World} (v : Value) (hQ : ∀ c a w, Q (.panic c) (a.put (some 13) v) w → Q (.panic c) a w) (hy : YieldsIf Tryz.prog opsA6 S qA6_11 v a) (hS : S w)
    (h : wpAnyH Tryz.prog .any opsA6 Q S 1 (#[true, true, true, true, true, true, true, true, true, true, true, true, false] : Array Bool) (a.put (some 13) v) w) : wpAnyH Tryz.prog .any opsA6 Q S 2 (#[true, true, true, true, true, true, true, true, true, true, true, false, false] : Array Bool) a w :=
  wpAnyH_take (i := 11) hA6_11 noselA6 (by kernel_rfl) (by kernel_rfl) hQ hy hS ((show (#[true, true, true, true, true, true, true, true, true, true, true, false, false] : Array Bool).setIfInBounds 11 true = (#[true, true, true, true, true, true, true, true, true, true, true, true, false] : Array Bool) by kernel_rfl).symm ▸ h)
theorem tA6_0123456789_10_11_12 {Q : Exit → Act → World → Prop} {S : World → Prop} {a : Act} {w : World} (v : Value) (hQ : ∀ c a w, Q (.panic c) (a.put (some 14) v) w → Q (.panic c) a w) (hy : YieldsIf Tryz.prog opsA6 S qA6_12 v a) (hS : S w)
    (h : wpAnyH Tryz.prog .any opsA6 Q S 0 (#[true, true, true, true, true, true, true, true, true, true, true, true, true] : Array Bool) (a.put (some 14) v) w) : wpAnyH Tryz.prog .any opsA6 Q S 1 (#[true, true, true, true, true, true, true, true, true, true, true, true, false] : Array Bool) a w :=
  wpAnyH_take (i := 12) hA6_12 noselA6 (by kernel_rfl) (by kernel_rfl) hQ hy hS ((show (#[true, true, true, true, true, true, true, true, true, true, true, true, false] : Array Bool).setIfInBounds 12 true = (#[true, true, true, true, true, true, true, true, true, true, true, true, true] : Array Bool) by kernel_rfl).symm ▸ h)
set_option maxRecDepth 100000 in
theorem cA6_01234_5 {Q : Exit → Act → World → Prop} {S : World → Prop} {a : Act} {w : World}
    (h5 : ∀ K' : Act → World → Prop, Shut (∀ a w, S w → (S w → wpAnyH Tryz.prog .any opsA6 Q S 7 (#[true, true, true, true, true, true, false, false, false, false, false, false, false] : Array Bool) a w) → K' a w) → if Region.wanted qA6_5 (yielded opsA6 a.tmps) = true then Oper.wp Tryz.prog qA6_5 a w K' Q else K' (a.put (some 37) undef) w) :
    wpAnyH Tryz.prog .any opsA6 Q S 8 (#[true, true, true, true, true, false, false, false, false, false, false, false, false] : Array Bool) a w :=
  wpAnyH_ready (rs := [5]) (by kernel_rfl) (by simp) (AllReadyH.cons hA6_5 (fun K' hK => h5 K' ((show (#[true, true, true, true, true, false, false, false, false, false, false, false, false] : Array Bool).setIfInBounds 5 true = (#[true, true, true, true, true, true, false, false, false, false, false, false, false] : Array Bool) by kernel_rfl) ▸ hK)) AllReadyH.nil)
end Go.Proofs.YtlanmkimaambgaaGreat.hexes

