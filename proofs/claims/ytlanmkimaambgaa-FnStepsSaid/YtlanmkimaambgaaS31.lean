/-
  What FnSteps asks of a step, on lists.
  The program's Brought: the contract of impl.Brought.
  The reference's Brought.
  How StepAll ends.
  The tail of a list of records.
  A statement of spec.StepAll: its operations, and a theorem a step.
-/
import Derived.Test.YtlanmkimaambgaaS7
import Derived.Test.YtlanmkimaambgaaS0
import Derived.Test.YtlanmkimaambgaaS8
import Derived.Laws.AppendOwnNone
import Derived.Deep.AppendLies
import Derived.Lib.SliceRun
import Derived.Test.YtlanmkimaambgaaS11

namespace Go.Proofs.Ytlanmkimaambgaa.hexes
open Go.RowKit

theorem chg_range {k a b d key val : Int} {zs : List Int} (hk : 0 ≤ key ∧ key ≤ 99) (hv : 0 ≤ val ∧ val ≤ 999) : (0 ≤ chgK (okC k a b d key val zs) k a key ∧ chgK (okC k a b d key val zs) k a key ≤ 99) ∧ 0 ≤ chgV (okC k a b d key val zs) k a val ∧ chgV (okC k a b d key val zs) k a val ≤ 999 := by
  cases hc : okC k a b d key val zs with
  | false => simp [chgK, chgV]; omega
  | true =>
    unfold okC at hc
    simp only [Bool.and_eq_true] at hc
    obtain ⟨h2, _, h4⟩ := okNd_a hc.1.1
    unfold chgK chgV
    constructor
    · split
      · omega
      · exact hk
    · split
      · rename_i h
        have := h2 h.2
        split <;> omega
      · exact hv
theorem emit_at {zs : List Int} {s : Int × Int} {ky vy : Int} {i : Nat} (h : i < zs.length) (hm : i < (emitL zs s ky vy).length) : (emitL zs s ky vy)[i] = (zs[i], s, ky, vy) :=
  List.getElem_map (fun z => (z, s, ky, vy))
theorem stepNd_made {x : Nd} {key val : Int} {goes : Bool} {cs us : List Ce} {r : Rc} {out : List Rc} {ok : Bool} (h : stepNd x key val goes cs r = ((us, out), ok)) (hne : out ≠ []) :
    (x.1 = 7 ∧ hasNext r.2.1.1 r.2.1.2 = true ∧ out = emitL x.2.2.2 (r.2.1.1, r.2.1.2 + 1) key val) ∨ (x.1 ≠ 7 ∧ out = emitL x.2.2.2 r.2.1 key val) := by
  unfold stepNd at h
  dsimp only at h
  obtain ⟨m, hm⟩ : ∃ m, (if remB x.1 = true then recC x.1 cs (r.1, r.2.1.1, r.2.2.1, r.2.2.2) else (cs, true)) = m := ⟨_, rfl⟩
  rw [hm] at h
  split at h
  · cases h; exact absurd rfl hne
  · split at h
    · cases h; exact absurd rfl hne
    · split at h
      · rename_i h7
        split at h
        · rename_i hn
          cases h
          exact .inl ⟨h7, hn, rfl⟩
        · cases h; exact absurd rfl hne
      · rename_i h7
        cases h
        exact .inr ⟨h7, rfl⟩
theorem okGr_outs2 {gs : List Nd} {d : Int → Int} {wk cp : Int} (h : okGr gs d wk cp = true) {j : Nat} (hj : j < gs.length) : ∀ z ∈ gs[j].2.2.2, 0 ≤ z ∧ z ≤ 7 := by
  unfold okGr at h
  simp only [Bool.and_eq_true] at h
  have h3 := allB_at h.2 hj
  unfold nodeB at h3
  simp only [Bool.and_eq_true] at h3
  have h4 := h3.1.1
  unfold okN okNd at h4
  simp only [Bool.and_eq_true] at h4
  have h5 := h4.2
  unfold outsB at h5
  simp only [decide_eq_true_eq] at h5
  exact h5.2.2.1
/-- What one record makes. -/
theorem step_made {gs : List Nd} {wk cp : Int} {cs us : List Ce} {r : Rc} {out : List Rc} {ok : Bool} (h : stepGr gs wk cp cs r = ((us, out), ok)) {i : Nat} (hi : i < out.length) :
    hasB gs r.1 = true ∧ okRc r = true ∧ out[i].2.1 = (r.2.1.1, if (nodeAt gs r.1).1 = 7 then r.2.1.2 + 1 else r.2.1.2) ∧ okRc out[i] = true := by
  have hne : out ≠ [] := fun e => by rw [e] at hi; simp at hi
  unfold stepGr at h
  split at h
  · cases h; exact absurd rfl hne
  · rename_i hc
    rw [Bool.not_eq_false, Bool.and_eq_true, Bool.and_eq_true] at hc
    obtain ⟨⟨h1, h2⟩, h3⟩ := hc
    have hb := h1
    unfold hasB at hb
    simp only [decide_eq_true_eq] at hb
    obtain ⟨j, hj⟩ : ∃ j : Nat, r.1 = (j : Int) := ⟨r.1.toNat, by omega⟩
    have hl : j < gs.length := by omega
    have hz := okGr_outs2 h2 hl
    rw [← nodeAt_of hl, ← hj] at hz
    have hr := h3
    unfold okRc okSt at hr
    simp only [Bool.and_eq_true, decide_eq_true_eq] at hr
    obtain ⟨⟨⟨_, hs⟩, hk⟩, hv⟩ := hr
    obtain ⟨rk, rv⟩ := chg_range (k := (nodeAt gs r.1).1) (a := (nodeAt gs r.1).2.1) (b := (nodeAt gs r.1).2.2.1) (d := dec1 (nodeAt gs r.1).2.1) (zs := (nodeAt gs r.1).2.2.2) hk hv
    refine ⟨h1, h3, ?_⟩
    unfold okX at h
    generalize chgK _ _ _ _ = ky at h rk
    generalize chgV _ _ _ _ = vy at h rv
    rcases stepNd_made h hne with ⟨h7, hn, ho⟩ | ⟨h7, ho⟩
    · subst ho
      have hm : i < (nodeAt gs r.1).2.2.2.length := by rw [emit_len] at hi; exact hi
      rw [if_pos h7, emit_at hm hi]
      refine ⟨rfl, ?_⟩
      have := hz _ (List.getElem_mem hm)
      unfold hasNext at hn
      simp only [decide_eq_true_eq] at hn
      unfold okRc okSt
      simp only [Bool.and_eq_true, decide_eq_true_eq]
      exact ⟨⟨⟨this, by omega⟩, rk⟩, rv⟩
    · subst ho
      have hm : i < (nodeAt gs r.1).2.2.2.length := by rw [emit_len] at hi; exact hi
      rw [if_neg h7, emit_at hm hi]
      refine ⟨rfl, ?_⟩
      have := hz _ (List.getElem_mem hm)
      unfold okRc okSt
      simp only [Bool.and_eq_true, decide_eq_true_eq]
      exact ⟨⟨⟨this, hs⟩, rk⟩, rv⟩
/-- A capped record makes nothing. -/
theorem cap_none {gs : List Nd} {wk cp : Int} {cs us : List Ce} {r : Rc} {out : List Rc} {ok : Bool} (h : stepGr gs wk cp cs r = ((us, out), ok)) (hc : capG gs wk cp r = true) : out = [] := by
  unfold capG at hc
  simp only [Bool.and_eq_true, Bool.not_eq_true', decide_eq_true_eq] at hc
  obtain ⟨⟨⟨_, h7⟩, _⟩, hn⟩ := hc
  apply Classical.byContradiction
  intro hne
  unfold stepGr at h
  split at h
  · cases h; exact hne rfl
  · rcases stepNd_made h hne with ⟨_, h2, _⟩ | ⟨h2, _⟩
    · rw [hn] at h2; cases h2
    · exact h2 h7
/-- The law's own example. -/
theorem step_two : stepGr [(1, 0, 0, [1]), (8, 0, 0, [])] 1 1 [] (0, (0, 0), 5, 0) = (([], [(1, (0, 0), 5, 0)]), true) := by rfl
end Go.Proofs.Ytlanmkimaambgaa.hexes

namespace Go.Proofs.Ytlanmkimaambgaa.hexes
open Go.RowKit

def brought (n least most : Int) : Int := if most < least ∨ n < least then least else if most < n then most else n

theorem ret_int {a b : Int} (h : b = a) : Ending.returned (.int .i64 a) = .returned (.int .i64 b) := by rw [h]

theorem brought_any (n least most : Int) (w : World) :
    Calls Try.prog 54 #[.int .i64 n, .int .i64 least, .int .i64 most] w fun e w' => e = .returned (.int .i64 (brought n least most)) ∧ w = w' := by
  by_cases h1 : most < least
  · have E := Lib.hid (show brought n least most = least from if_pos (.inl h1))
    by_cases h2 : n < least
    all_goals
      go_enter Try.func54, Try.ntmps54
      go_wp2
      go_ret
      exact ⟨ret_int E.out, rfl⟩
  · by_cases h2 : n < least
    · have E := Lib.hid (show brought n least most = least from if_pos (.inr h2))
      go_enter Try.func54, Try.ntmps54
      go_wp2
      go_ret
      exact ⟨ret_int E.out, rfl⟩
    · by_cases h3 : most < n
      · have E := Lib.hid (show brought n least most = most by unfold brought; rw [if_neg (by omega), if_pos h3])
        go_enter Try.func54, Try.ntmps54
        go_wp2
        go_ret
        exact ⟨ret_int E.out, rfl⟩
      · have E := Lib.hid (show brought n least most = n by unfold brought; rw [if_neg (by omega), if_neg h3])
        go_enter Try.func54, Try.ntmps54
        go_wp2
        go_ret
        exact ⟨ret_int E.out, rfl⟩

theorem brought_bd (n least most : Int) (h : least ≤ most) : least ≤ brought n least most ∧ brought n least most ≤ most ∧ brought (brought n least most) least most = brought n least most := by
  have key : ∀ m, least ≤ m → m ≤ most → brought m least most = m := fun m h1 h2 => by unfold brought; rw [if_neg (by omega), if_neg (by omega)]
  by_cases h2 : n < least
  · have e : brought n least most = least := if_pos (.inr h2)
    rw [e]
    exact ⟨by omega, h, key _ (by omega) h⟩
  · by_cases h3 : most < n
    · have e : brought n least most = most := by unfold brought; rw [if_neg (by omega), if_pos h3]
      rw [e]
      exact ⟨h, by omega, key _ h (by omega)⟩
    · have e : brought n least most = n := by unfold brought; rw [if_neg (by omega), if_neg h3]
      rw [e]
      exact ⟨by omega, by omega, e⟩
end Go.Proofs.Ytlanmkimaambgaa.hexes

namespace Go.Proofs.Ytlanmkimaambgaa.hexes
open Go.RowKit

theorem specBrought_any (n least most : Int) (w : World) :
    Calls Try.prog 55 #[.int .i64 n, .int .i64 least, .int .i64 most] w fun e w' => e = .returned (.int .i64 (brought n least most)) ∧ w = w' := by
  by_cases h1 : most < least
  · have E := Lib.hid (show brought n least most = least from if_pos (.inl h1))
    by_cases h2 : n < least
    all_goals
      go_enter Try.func55, Try.ntmps55
      go_wp2
      go_ret
      exact ⟨ret_int E.out, rfl⟩
  · by_cases h2 : n < least
    · have E := Lib.hid (show brought n least most = least from if_pos (.inr h2))
      go_enter Try.func55, Try.ntmps55
      go_wp2
      go_ret
      exact ⟨ret_int E.out, rfl⟩
    · by_cases h3 : most < n
      · have E := Lib.hid (show brought n least most = most by unfold brought; rw [if_neg (by omega), if_pos h3])
        go_enter Try.func55, Try.ntmps55
        go_wp2
        go_ret
        exact ⟨ret_int E.out, rfl⟩
      · have E := Lib.hid (show brought n least most = n by unfold brought; rw [if_neg (by omega), if_neg h3])
        go_enter Try.func55, Try.ntmps55
        go_wp2
        go_ret
        exact ⟨ret_int E.out, rfl⟩
end Go.Proofs.Ytlanmkimaambgaa.hexes

namespace Go.Proofs.Ytlanmkimaambgaa.hexes
open Go.RowKit

/-- What StepAll answers. -/
def allG (gs : List Nd) (wk cp : Int) (cs : List Ce) (rs : List Rc) (mo : Int) : (List Ce × List Rc) × Nat := stepsG gs wk cp (brought mo 0 100000).toNat (cs, rs)
/-- How StepAll ends. -/
def AllEnd (w : World) (q : (List Ce × List Rc) × Nat) (e : Ending) (w' : World) : Prop :=
  ∃ (A3 : Option Addr) (c3 m3 : Nat) (A4 : Option Addr) (c4 m4 : Nat), q.1.1.length = m3 ∧ q.1.2.length = m4 ∧ e = .returned (.tuple #[.slice A3 m3 c3, .slice A4 m4 c4, .int .i64 (q.2 : Int)]) ∧ w'.ownsRow w.heap.size 75 4 (.slice A3 m3 c3) m3 (ceCells q.1.1) ∧ w'.ownsRow w.heap.size 31 5 (.slice A4 m4 c4) m4 (rcCells q.1.2) ∧ Below w.heap.size w w'
theorem all_len (gs : List Nd) (wk cp : Int) (cs : List Ce) (rs : List Rc) (mo : Int) : (allG gs wk cp cs rs mo).1.1.length ≤ cs.length + 100000 ∧ (allG gs wk cp cs rs mo).1.2.length ≤ rs.length + 200000 := by
  have h := steps_len gs wk cp (brought mo 0 100000).toNat cs rs
  have hb := brought_bd mo 0 100000 (by omega)
  unfold allG
  exact ⟨Nat.le_trans h.1 (by omega), Nat.le_trans h.2 (by omega)⟩
theorem AllEnd.rows {w w' : World} {q : (List Ce × List Rc) × Nat} {e : Ending} (h : AllEnd w q e w') {us : List Ce} {out : List Rc} {nn : Nat} {m3 m4 : Nat} (hq : q = ((us, out), nn)) (h3 : us.length = m3) (h4 : out.length = m4) :
    ∃ A3 c3 A4 c4, e = .returned (.tuple #[.slice A3 m3 c3, .slice A4 m4 c4, .int .i64 (nn : Int)]) ∧ Row w' w.heap.size w'.heap.size 75 4 A3 m3 c3 (ceCells us) ∧ Row w' w.heap.size w'.heap.size 31 5 A4 m4 c4 (rcCells out) ∧ Below w.heap.size w w' := by
  subst hq
  obtain ⟨A3, c3, n3, A4, c4, n4, l3, l4, rfl, o3, o4, hb⟩ := h
  have e3 : n3 = m3 := l3.symm.trans h3
  have e4 : n4 = m4 := l4.symm.trans h4
  subst e3 e4
  obtain ⟨B3, d3, q3, r3⟩ := row_of o3
  obtain ⟨B4, d4, q4, r4⟩ := row_of o4
  simp only [Value.slice.injEq, true_and] at q3 q4
  obtain ⟨rfl, rfl⟩ := q3
  obtain ⟨rfl, rfl⟩ := q4
  exact ⟨A3, c3, A4, c4, rfl, r3, r4, hb⟩
end Go.Proofs.Ytlanmkimaambgaa.hexes

namespace Go.Proofs.Ytlanmkimaambgaa.hexes
open Go.RowKit

theorem Rcs.drop {w : World} {A : Option Addr} {zs : List Rc} (h : Rcs w A zs) {k : Nat} {A' : Option Addr} (hA' : ∀ b off, k < zs.length → A = some ⟨b, off, none⟩ → A' = some ⟨b, off + k * 5, none⟩) : Rcs w A' (zs.drop k) := fun hl => by
  rw [List.length_drop] at hl
  obtain ⟨b, off, hA, hb, hz⟩ := h (by omega)
  refine ⟨b, off + k * 5, hA' b off (by omega) hA, hb, fun j hj => ?_⟩
  rw [List.length_drop] at hj
  have := hz (k + j) (by omega)
  rw [List.getElem_drop, show off + k * 5 + j * 5 = off + (k + j) * 5 by omega]
  exact this

set_option maxRecDepth 100000 in
theorem slice_fromR (A : Option Addr) (n c k : Nat) (h : k ≤ n) (hc : n ≤ c) (hA : A = none → c = 0) : ∃ T, (∀ w, (Instr.slice 34 (.slice A n c) (some (.int .i64 (k : Int))) none none).run Try.prog w = .ok (.slice T (n - k) (c - k)) w) ∧ (T = none → c - k = 0) ∧ ∀ w zs, zs.length = n → Rcs w A zs → Rcs w T (zs.drop k) := by
  refine ⟨if c = k then A else A.map (·.add (k * 5)), fun w => ?_, ?_, fun w zs hl hz => ?_⟩
  · have hs : (sizeOf (Try.prog.elem 34)).run Try.prog w = .ok 5 w := rfl
    rw [run_slice_l (P := Try.prog) w 34 A n c Try.underlying34 .i64 (k : Int) (by omega) (by omega), hs]
    simp [Result.andThen, sliced]
  · intro hT
    by_cases h0 : c = k
    · omega
    · rw [if_neg h0] at hT
      cases A with
      | none => have := hA rfl; omega
      | some ad => simp at hT
  · refine hz.drop fun b off hk hA' => ?_
    rw [hA', if_neg (by omega)]
    simp only [Option.map_some]; rw [addr_add1]
end Go.Proofs.Ytlanmkimaambgaa.hexes

namespace Go.Proofs.Ytlanmkimaambgaa.hexes
open Go.RowKit

def findA6 (n : Nat) : Code → Option Code
  | .region id ops d => if id = n then some (.region id ops d) else none
  | .seq a b => match findA6 n a with
    | some c => some c
    | none => findA6 n b
  | .block _ c => findA6 n c
  | .scope c => findA6 n c
  | .loop c => findA6 n c
  | .cond _ a b => match findA6 n a with
    | some c => some c
    | none => findA6 n b
  | _ => none
def opsOfA6 : Option Code → Array Oper
  | some (.region _ ops _) => ops
  | _ => #[]
noncomputable def opsA6 : Array Oper := opsOfA6 (Try.f17.body.bind (findA6 6))
theorem noselA6 : Region.noSelect opsA6 = true := by kernel_rfl
def qA6_0 : Oper := { dst := some 32, op := Op.load 26 (Operand.tmp 4), type := 26, pos := "l10_steps.go:49", after := #[], guard := none }
theorem hA6_0 : opsA6[0]? = some qA6_0 := by kernel_rfl
def qA6_1 : Oper := { dst := some 33, op := Op.move (Operand.tmp 1), type := 27, pos := "l10_steps.go:49", after := #[], guard := none }
theorem hA6_1 : opsA6[1]? = some qA6_1 := by kernel_rfl
def qA6_2 : Oper := { dst := some 34, op := Op.move (Operand.tmp 2), type := 34, pos := "l10_steps.go:49", after := #[], guard := none }
theorem hA6_2 : opsA6[2]? = some qA6_2 := by kernel_rfl
def qA6_3 : Oper := { dst := some 35, op := Op.indexAddr 34 (Operand.tmp 34) (Operand.const (Value.int IntKind.i64 0)), type := 0, pos := "l10_steps.go:49", after := #[{ on := 2, ground := Ground.data }], guard := none }
theorem hA6_3 : opsA6[3]? = some qA6_3 := by kernel_rfl
def qA6_4 : Oper := { dst := some 36, op := Op.load 31 (Operand.tmp 35), type := 31, pos := "l10_steps.go:49", after := #[{ on := 3, ground := Ground.data }], guard := none }
theorem hA6_4 : opsA6[4]? = some qA6_4 := by kernel_rfl
def qA6_5 : Oper := { dst := some 37, op := Op.call { callee := Callee.value (Operand.func 9), args := #[Operand.tmp 32, Operand.tmp 33, Operand.tmp 36], argTypes := #[26, 27, 31] }, type := 35, pos := "l10_steps.go:49", after := #[{ on := 0, ground := Ground.data }, { on := 1, ground := Ground.data }, { on := 4, ground := Ground.data }], guard := none }
theorem hA6_5 : opsA6[5]? = some qA6_5 := by kernel_rfl
def qA6_6 : Oper := { dst := some 31, op := Op.move (Operand.tmp 37), type := 35, pos := "l10_steps.go:49", after := #[{ on := 5, ground := Ground.data }], guard := none }
theorem hA6_6 : opsA6[6]? = some qA6_6 := by kernel_rfl
def qA6_7 : Oper := { dst := some 38, op := Op.extract (Operand.tmp 31) 0, type := 27, pos := "l10_steps.go:49", after := #[{ on := 6, ground := Ground.data }], guard := none }
theorem hA6_7 : opsA6[7]? = some qA6_7 := by kernel_rfl
def qA6_8 : Oper := { dst := some 39, op := Op.extract (Operand.tmp 31) 1, type := 34, pos := "l10_steps.go:49", after := #[{ on := 6, ground := Ground.data }, { on := 10, ground := Ground.gcOnly Departure.lateStores }], guard := none }
theorem hA6_8 : opsA6[8]? = some qA6_8 := by kernel_rfl
def qA6_9 : Oper := { dst := some 40, op := Op.extract (Operand.tmp 31) 2, type := 4, pos := "l10_steps.go:49", after := #[{ on := 6, ground := Ground.data }, { on := 11, ground := Ground.gcOnly Departure.lateStores }], guard := none }
theorem hA6_9 : opsA6[9]? = some qA6_9 := by kernel_rfl
def qA6_10 : Oper := { dst := some 12, op := Op.assign (Operand.tmp 38), type := 27, pos := "l10_steps.go:49", after := #[{ on := 7, ground := Ground.data }, { on := 5, ground := Ground.chain }, { on := 0, ground := Ground.phase }, { on := 1, ground := Ground.phase }, { on := 2, ground := Ground.phase }, { on := 3, ground := Ground.phase }, { on := 4, ground := Ground.phase }, { on := 5, ground := Ground.phase }, { on := 6, ground := Ground.phase }, { on := 7, ground := Ground.phase }, { on := 8, ground := Ground.textOnly Departure.lateStores }, { on := 9, ground := Ground.textOnly Departure.lateStores }], guard := none }
theorem hA6_10 : opsA6[10]? = some qA6_10 := by kernel_rfl
def qA6_11 : Oper := { dst := some 13, op := Op.assign (Operand.tmp 39), type := 34, pos := "l10_steps.go:49", after := #[{ on := 8, ground := Ground.data }, { on := 10, ground := Ground.chain }, { on := 0, ground := Ground.phase }, { on := 1, ground := Ground.phase }, { on := 2, ground := Ground.phase }, { on := 3, ground := Ground.phase }, { on := 4, ground := Ground.phase }, { on := 5, ground := Ground.phase }, { on := 6, ground := Ground.phase }, { on := 7, ground := Ground.phase }, { on := 8, ground := Ground.phase }, { on := 9, ground := Ground.textOnly Departure.lateStores }, { on := 10, ground := Ground.phase }], guard := none }
theorem hA6_11 : opsA6[11]? = some qA6_11 := by kernel_rfl
def qA6_12 : Oper := { dst := some 14, op := Op.assign (Operand.tmp 40), type := 4, pos := "l10_steps.go:49", after := #[{ on := 9, ground := Ground.data }, { on := 11, ground := Ground.chain }, { on := 0, ground := Ground.phase }, { on := 1, ground := Ground.phase }, { on := 2, ground := Ground.phase }, { on := 3, ground := Ground.phase }, { on := 4, ground := Ground.phase }, { on := 5, ground := Ground.phase }, { on := 6, ground := Ground.phase }, { on := 7, ground := Ground.phase }, { on := 8, ground := Ground.phase }, { on := 9, ground := Ground.phase }, { on := 10, ground := Ground.phase }, { on := 11, ground := Ground.phase }], guard := none }
theorem hA6_12 : opsA6[12]? = some qA6_12 := by kernel_rfl
theorem tA6_e_0 : RegT Try.prog opsA6 qA6_0 (some 32) 12 (#[false, false, false, false, false, false, false, false, false, false, false, false, false] : Array Bool) (#[true, false, false, false, false, false, false, false, false, false, false, false, false] : Array Bool) := regT hA6_0 rfl noselA6 (by kernel_rfl) (by kernel_rfl) (by kernel_rfl)
theorem tA6_0_1 : RegT Try.prog opsA6 qA6_1 (some 33) 11 (#[true, false, false, false, false, false, false, false, false, false, false, false, false] : Array Bool) (#[true, true, false, false, false, false, false, false, false, false, false, false, false] : Array Bool) := regT hA6_1 rfl noselA6 (by kernel_rfl) (by kernel_rfl) (by kernel_rfl)
theorem tA6_01_2 : RegT Try.prog opsA6 qA6_2 (some 34) 10 (#[true, true, false, false, false, false, false, false, false, false, false, false, false] : Array Bool) (#[true, true, true, false, false, false, false, false, false, false, false, false, false] : Array Bool) := regT hA6_2 rfl noselA6 (by kernel_rfl) (by kernel_rfl) (by kernel_rfl)
theorem tA6_012_3 : RegT Try.prog opsA6 qA6_3 (some 35) 9 (#[true, true, true, false, false, false, false, false, false, false, false, false, false] : Array Bool) (#[true, true, true, true, false, false, false, false, false, false, false, false, false] : Array Bool) := regT hA6_3 rfl noselA6 (by kernel_rfl) (by kernel_rfl) (by kernel_rfl)
theorem tA6_0123_4 : RegT Try.prog opsA6 qA6_4 (some 36) 8 (#[true, true, true, true, false, false, false, false, false, false, false, false, false] : Array Bool) (#[true, true, true, true, true, false, false, false, false, false, false, false, false] : Array Bool) := regT hA6_4 rfl noselA6 (by kernel_rfl) (by kernel_rfl) (by kernel_rfl)
theorem tA6_012345_6 : RegT Try.prog opsA6 qA6_6 (some 31) 6 (#[true, true, true, true, true, true, false, false, false, false, false, false, false] : Array Bool) (#[true, true, true, true, true, true, true, false, false, false, false, false, false] : Array Bool) := regT hA6_6 rfl noselA6 (by kernel_rfl) (by kernel_rfl) (by kernel_rfl)
theorem tA6_0123456_7 : RegT Try.prog opsA6 qA6_7 (some 38) 5 (#[true, true, true, true, true, true, true, false, false, false, false, false, false] : Array Bool) (#[true, true, true, true, true, true, true, true, false, false, false, false, false] : Array Bool) := regT hA6_7 rfl noselA6 (by kernel_rfl) (by kernel_rfl) (by kernel_rfl)
theorem tA6_01234567_8 : RegT Try.prog opsA6 qA6_8 (some 39) 4 (#[true, true, true, true, true, true, true, true, false, false, false, false, false] : Array Bool) (#[true, true, true, true, true, true, true, true, true, false, false, false, false] : Array Bool) := regT hA6_8 rfl noselA6 (by kernel_rfl) (by kernel_rfl) (by kernel_rfl)
theorem tA6_012345678_9 : RegT Try.prog opsA6 qA6_9 (some 40) 3 (#[true, true, true, true, true, true, true, true, true, false, false, false, false] : Array Bool) (#[true, true, true, true, true, true, true, true, true, true, false, false, false] : Array Bool) := regT hA6_9 rfl noselA6 (by kernel_rfl) (by kernel_rfl) (by kernel_rfl)
theorem tA6_0123456789_10 : RegT Try.prog opsA6 qA6_10 (some 12) 2 (#[true, true, true, true, true, true, true, true, true, true, false, false, false] : Array Bool) (#[true, true, true, true, true, true, true, true, true, true, true, false, false] : Array Bool) := regT hA6_10 rfl noselA6 (by kernel_rfl) (by kernel_rfl) (by kernel_rfl)
theorem tA6_0123456789_10_11 : RegT Try.prog opsA6 qA6_11 (some 13) 1 (#[true, true, true, true, true, true, true, true, true, true, true, false, false] : Array Bool) (#[true, true, true, true, true, true, true, true, true, true, true, true, false] : Array Bool) := regT hA6_11 rfl noselA6 (by kernel_rfl) (by kernel_rfl) (by kernel_rfl)
theorem tA6_0123456789_10_11_12 : RegT Try.prog opsA6 qA6_12 (some 14) 0 (#[true, true, true, true, true, true, true, true, true, true, true, true, false] : Array Bool) (#[true, true, true, true, true, true, true, true, true, true, true, true, true] : Array Bool) := regT hA6_12 rfl noselA6 (by kernel_rfl) (by kernel_rfl) (by kernel_rfl)
theorem cA6_01234_5 : RegC Try.prog opsA6 qA6_5 (some 37) 7 (#[true, true, true, true, true, false, false, false, false, false, false, false, false] : Array Bool) (#[true, true, true, true, true, true, false, false, false, false, false, false, false] : Array Bool) := regC hA6_5 rfl (by kernel_rfl) (by kernel_rfl)
end Go.Proofs.Ytlanmkimaambgaa.hexes

