/-
  FnExactUnhex answers true at every string: Unhex of the program answers as its model. No condition.
-/
import Derived.Test.YteebkaajalelaaaRows
import Derived.Test.YteebkaajalelaaaUnhexC
import Derived.WalkKit
import Derived.ProofKit
import Derived.OpenShut
import Derived.ShutString
namespace Go.Proofs.Yteebkaajalelaaa.fnExactUnhex
open Go.ChangeShapes Go.WideShapes Go.ChangeAt Go.RowKit
open Go.ChangeMaps (open_string shut_string)
open Go.Proofs.Yteebkaajalelaaa.hexes

theorem own : ownKnob Try.prog.godebug = none := by kernel_rfl

theorem specUnhex_other (s : ByteArray) (w : World) (hs : s.size ≤ 1048576) (h : 40000 < s.size ∨ s.size % 2 = 1) :
    Calls Try.prog 8 #[.string s] w fun e w' => e = .returned (.tuple #[.string ⟨#[]⟩, .bool false]) ∧ Below w.heap.size w w' := by
  by_cases hb : 40000 < s.size
  · have hd : decide (40000 < (s.size : Int)) = true := by simp; omega
    by_cases ho : s.size % 2 = 1
    · have hd2 : ((s.size : Int) % 2 != 0) = true := by simp; omega
      clear h ho
      go_enter Try.func8, Try.ntmps8
      go_wp2
      go_ret2
      exact ⟨rfl, Below.refl _ _⟩
    · have hd2 : ((s.size : Int) % 2 != 0) = false := by simp; omega
      clear h ho
      go_enter Try.func8, Try.ntmps8
      go_wp2
      go_ret2
      exact ⟨rfl, Below.refl _ _⟩
  · have hd : decide (40000 < (s.size : Int)) = false := by simp; omega
    have hd2 : ((s.size : Int) % 2 != 0) = true := by simp; omega
    clear h
    go_enter Try.func8, Try.ntmps8
    go_wp2
    go_ret2
    exact ⟨rfl, Below.refl _ _⟩
theorem implUnhex_other (s : ByteArray) (w : World) (hs : s.size ≤ 1048576) (h : 40000 < s.size ∨ s.size % 2 = 1) :
    Calls Try.prog 9 #[.string s] w fun e w' => e = .returned (.tuple #[.string ⟨#[]⟩, .bool false]) ∧ Below w.heap.size w w' := by
  by_cases hb : 40000 < s.size
  · have hd : decide (40000 < (s.size : Int)) = true := by simp; omega
    by_cases ho : s.size % 2 = 1
    · have hd2 : ((s.size : Int) % 2 != 0) = true := by simp; omega
      clear h ho
      go_enter Try.func9, Try.ntmps9
      go_wp2
      go_ret2
      exact ⟨rfl, Below.refl _ _⟩
    · have hd2 : ((s.size : Int) % 2 != 0) = false := by simp; omega
      clear h ho
      go_enter Try.func9, Try.ntmps9
      go_wp2
      go_ret2
      exact ⟨rfl, Below.refl _ _⟩
  · have hd : decide (40000 < (s.size : Int)) = false := by simp; omega
    have hd2 : ((s.size : Int) % 2 != 0) = true := by simp; omega
    clear h
    go_enter Try.func9, Try.ntmps9
    go_wp2
    go_ret2
    exact ⟨rfl, Below.refl _ _⟩

theorem specUnhex_at (s : ByteArray) (w : World) (hs : s.size ≤ 40000) (he : s.size % 2 = 0) (hg : hexes.Good s) :
    Calls Try.prog 8 #[.string s] w fun e w' => e = .returned (.tuple #[.string ⟨(outB s (s.size / 2)).toArray⟩, .bool true]) ∧ Below w.heap.size w w' :=
  (specUnhex_short s w hs he).mono fun _ _ h => ⟨h.1.1 hg, h.2⟩
theorem specUnhex_not (s : ByteArray) (w : World) (hs : s.size ≤ 40000) (he : s.size % 2 = 0) (hg : ¬ hexes.Good s) :
    Calls Try.prog 8 #[.string s] w fun e w' => e = .returned (.tuple #[.string ⟨#[]⟩, .bool false]) ∧ Below w.heap.size w w' :=
  (specUnhex_short s w hs he).mono fun _ _ h => ⟨h.1.2 hg, h.2⟩
theorem implUnhex_at (s : ByteArray) (w : World) (hs : s.size ≤ 40000) (he : s.size % 2 = 0) (hg : hexes.Good s) :
    Calls Try.prog 9 #[.string s] w fun e w' => e = .returned (.tuple #[.string ⟨(outB s (s.size / 2)).toArray⟩, .bool true]) ∧ Below w.heap.size w w' :=
  (implUnhex_short s w hs he).mono fun _ _ h => ⟨h.1.1 hg, h.2⟩
theorem implUnhex_not (s : ByteArray) (w : World) (hs : s.size ≤ 40000) (he : s.size % 2 = 0) (hg : ¬ hexes.Good s) :
    Calls Try.prog 9 #[.string s] w fun e w' => e = .returned (.tuple #[.string ⟨#[]⟩, .bool false]) ∧ Below w.heap.size w w' :=
  (implUnhex_short s w hs he).mono fun _ _ h => ⟨h.1.2 hg, h.2⟩

theorem walk (s : ByteArray) (w : World) :
    Calls Try.prog 4 #[.string s] w fun e w' => e = .returned (.bool true) ∧ Below w.heap.size w w' := by
  by_cases h1 : 1048576 < s.size
  · have hd : decide (1048576 < (s.size : Int)) = true := by simp; omega
    go_enter Try.func4, Try.ntmps4
    go_wp2
    go_ret
    exact ⟨rfl, Below.refl _ _⟩
  · have hd : decide (1048576 < (s.size : Int)) = false := by simp; omega
    by_cases h2 : 40000 < s.size ∨ s.size % 2 = 1
    · have A := fun W => specUnhex_other s W (by omega) h2
      have B := fun W => implUnhex_other s W (by omega) h2
      have HA := Lib.hid A
      have HB := Lib.hid B
      clear A B h2
      go_enter Try.func4, Try.ntmps4
      go_wp2_with (first | (go_at_call 8; refine (HA.out _).mono ?_; rintro e w1 ⟨rfl, hb1⟩) | (go_at_call 9; refine (HB.out _).mono ?_; rintro e w2 ⟨rfl, hb2⟩))
      go_ret
      exact ⟨rfl, hb1.trans (hb2.mono hb1.size)⟩
    · by_cases hg : hexes.Good s
      · have A := fun W => specUnhex_at s W (by omega) (by omega) hg
        have B := fun W => implUnhex_at s W (by omega) (by omega) hg
        have HA := Lib.hid A
        have HB := Lib.hid B
        clear A B h2 hg
        go_enter Try.func4, Try.ntmps4
        go_wp2_with (first | (go_at_call 8; refine (HA.out _).mono ?_; rintro e w1 ⟨rfl, hb1⟩) | (go_at_call 9; refine (HB.out _).mono ?_; rintro e w2 ⟨rfl, hb2⟩))
        go_ret
        exact ⟨rfl, hb1.trans (hb2.mono hb1.size)⟩
      · have A := fun W => specUnhex_not s W (by omega) (by omega) hg
        have B := fun W => implUnhex_not s W (by omega) (by omega) hg
        have HA := Lib.hid A
        have HB := Lib.hid B
        clear A B h2 hg
        go_enter Try.func4, Try.ntmps4
        go_wp2_with (first | (go_at_call 8; refine (HA.out _).mono ?_; rintro e w1 ⟨rfl, hb1⟩) | (go_at_call 9; refine (HB.out _).mono ?_; rintro e w2 ⟨rfl, hb2⟩))
        go_ret
        exact ⟨rfl, hb1.trans (hb2.mono hb1.size)⟩

/-! ### THE ROW's STEP: WRITTEN OUT: LEAVE IT -/
set_option maxRecDepth 100000 in
theorem lifted (os : Os) (started : os.Started) (H : Type) (enc : TypeId × Value → H) :
    ReturnsInHanded {} Try.checked os 4 .any (Rows.fnExactUnhexSpec.pre6 enc Try.prog Try.f4 Rows.fnExactUnhexRow.domain false) (Rows.fnExactUnhexSpec.post enc Try.prog Try.f4 false true false false) := by
  refine returnsInHanded_of_change (C := Try.checked) own started (by kernel_rfl) Try.func4
    (ChangeSpec.witness6 (enc := enc) (C := Try.checked) false ⟨#[], #[.string ByteArray.empty], []⟩ 8 (by kernel_rfl) (by kernel_rfl) (by kernel_rfl) (by kernel_rfl)) ?_
  intro W base args ds gs before hval0 hW hcnd _
  have hval : ∀ (j : Nat) t v, Try.f4.params[j]? = some t → args[j]? = some v → Value.okWide Try.prog W .any base t v := hval0
  have hW' := hW
  obtain ⟨p, q, hA0, hV, rfl, hfz, hnd⟩ := hW
  have hA : DataW.TrodAll enc Try.prog W 0 (fun _ => true) true Try.f4.params.toList args.toList ds p := hA0
  rw [Try.params4] at hA hval
  obtain ⟨v0, vs0, d0, ds0, p0, q0, hargs, rfl, rfl, h0, r0⟩ := trodAll_cons hA
  obtain ⟨rfl, rfl, rfl⟩ := trodAll_nil r0
  obtain rfl : args = #[v0] := by cases args; simp_all
  obtain ⟨rfl, rfl⟩ := trodVars_none hV
  obtain ⟨a0, rfl, rfl, rfl, w0⟩ := open_string Try.underlying9 (hval 0 9 v0 rfl rfl) h0
  clear hA0 hval0
  simp only [List.append_nil] at hW'
  refine (walk a0 W).mono fun e W' ⟨he, bel⟩ => ?_
  subst he
  exact ⟨_, rfl, _, _, _, [], _, [], hW', trodAll_mk1 (shut_bool Try.underlying4 _), (trodAll_cons_mk (shut_string Try.underlying9 w0) trodAll_mk0), rfl, bel.frame _, fun h => by cases h⟩

theorem over : Rows.fnExactUnhexRow.holds Try.pinned (OpenSpec.ofChange Rows.fnExactUnhexSpec) :=
  OpenClaim.holds_of_wide 4 Try.f4 rfl rfl rfl rfl rfl rfl rfl ⟨rfl, rfl, rfl, rfl, rfl⟩ rfl rfl rfl rfl rfl (by kernel_rfl) Try.func4 (by kernel_rfl)
    (of_decide_eq_true (by kernel_rfl)) (by unfold Func.isWrapper; first | (rw [if_pos (by decide +kernel)]; kernel_rfl) | (rw [if_neg (by decide +kernel)]; exact ⟨rfl, rfl⟩))
    (fun os started H enc _ => lifted os started H enc)

/-- ████ THE STATEMENT ████ -/
theorem proved : Rows.FnExactUnhexSaid :=
  over
#print axioms proved
end Go.Proofs.Yteebkaajalelaaa.fnExactUnhex
