/-
  The program's PartsOf: the contracts of impl.validBytes and impl.PartsOf.
-/
import Derived.Test.YteebkaajalelaaaDoorParts
import Derived.Test.YteebkaajalelaaaDoorShelf
import Derived.Test.YteebkaajalelaaaDoorTabs
import Derived.WalkSpells
import Derived.WalkMore
namespace Go.Proofs.YteebkaajalelaaaDoor.hexes
open Go.RowKit

theorem valid_all {s : ByteArray} (h : ∀ j (hj : j < s.size), ValidB s[j]) : ValidL s := fun b hb => by
  obtain ⟨j, hj, rfl⟩ := List.getElem_of_mem hb
  exact h j (by simpa using hj)

set_option maxRecDepth 100000 in
theorem validBytes_any (s : ByteArray) (hs : s.size ≤ 600) (w : World) (k0 : Nat) (hk0 : k0 ≤ s.size) (hall : ∀ j (hj : j < s.size), j < k0 → ValidB s[j]) (hend : ∀ hj : k0 < s.size, ¬ ValidB s[k0]) :
    Calls Tryd.prog 27 #[.string s] w fun e w' => e = .returned (.int .i64 (k0 : Int)) ∧ w = w' := by
  have HA := Lib.hid hall
  have HE := Lib.hid hend
  clear hall hend
  go_enter Tryd.func27, Tryd.ntmps27
  go_wp2
  go_step3
  go_wp2
  go_step3
  go_wp2
  go_loop [3] (fun i => ∃ k : Nat, k ≤ k0 ∧ i = .int .i64 (k : Int)) (fun i => s.size - (intOf i).toNat)
  case atStart => exact ⟨0, Nat.zero_le _, rfl⟩
  case round =>
    obtain ⟨k, hk, rfl⟩ := hrel
    by_cases hlt : k < k0
    · have hl : k < s.size := by omega
      have hv := HA.out k hl hlt
      have g0 : ¬ (s[k].toNat : Int) < 32 := by have := hv.1; omega
      have g1 : ¬ (126 : Int) < (s[k].toNat : Int) := by have := hv.2; omega
      clear hv
      go_wp2
      go_round
      case rel => exact ⟨k + 1, by omega, by go_num⟩
      case measure => simp [intOf]; omega
    · have hkk : k = k0 := by omega
      subst hkk
      by_cases hl : k < s.size
      · have hv := HE.out hl
        by_cases g0 : (s[k].toNat : Int) < 32
        · clear hv
          go_wp2
          go_ret
          exact ⟨rfl, rfl⟩
        · have g1 : (126 : Int) < (s[k].toNat : Int) := by
            have : ¬ (32 ≤ s[k].toNat ∧ s[k].toNat ≤ 126) := hv
            omega
          clear hv
          go_wp2
          go_ret
          exact ⟨rfl, rfl⟩
      · go_wp2
        go_ret
        exact ⟨rfl, rfl⟩
theorem first_bad (s : ByteArray) (h : ¬ ValidL s) : ∃ k, k < s.size ∧ (∀ j (hj : j < s.size), j < k → ValidB s[j]) ∧ (∀ hj : k < s.size, ¬ ValidB s[k]) := by
  have aux : ∀ n, n ≤ s.size → (∀ j (hj : j < s.size), j < n → ValidB s[j]) ∨ ∃ k, k < s.size ∧ (∀ j (hj : j < s.size), j < k → ValidB s[j]) ∧ (∀ hj : k < s.size, ¬ ValidB s[k]) := by
    intro n
    induction n with
    | zero => intro _; exact .inl fun j _ h => absurd h (by omega)
    | succ n ih =>
      intro hn
      rcases ih (by omega) with h1 | h1
      · by_cases hv : ValidB (s[n]'(by omega))
        · refine .inl fun j hj hlt => ?_
          by_cases hjn : j = n
          · subst hjn; exact hv
          · exact h1 j hj (by omega)
        · exact .inr ⟨n, by omega, h1, fun _ => hv⟩
      · exact .inr h1
  rcases aux s.size (Nat.le_refl _) with h1 | h1
  · exact absurd (valid_all fun j hj => h1 j hj hj) h
  · exact h1

theorem fields_world (w : World) (fl : List (List UInt8)) (hn : fl.length ≤ 1048576) :
    (w.alloc (.cells (fl.map fun l => Value.string ⟨l.toArray⟩).toArray 9)).ownsRow w.heap.size 9 1 (.slice (some ⟨w.heap.size, 0, none⟩) fl.length fl.length) fl.length (texts (fl.map mk)) := by
  have := World.ownsRow_lit (base := w.heap.size) (e := 9) (size := 1) w (fl.map fun l => Value.string ⟨l.toArray⟩).toArray fl.length (Nat.le_refl _) (by unfold maxLen; omega) (by simp)
  have e : (fl.map fun l => Value.string ⟨l.toArray⟩).toArray.toList = texts (fl.map mk) := by simp [texts, mk]
  rw [e] at this
  exact this

theorem fieldsGo_le : ∀ (l cur : List UInt8), (Lib.fieldsGo cur l).length ≤ l.length + 1
  | [], cur => by
    rw [Lib.fieldsGo]
    split <;> simp
  | b :: l, cur => by
    rw [Lib.fieldsGo]
    split
    · split
      · have := fieldsGo_le l []; simp; omega
      · have := fieldsGo_le l []; simp; omega
    · have := fieldsGo_le l (cur ++ [b]); simp; omega

set_option maxRecDepth 100000 in
theorem implParts_any (s : ByteArray) (hs : s.size ≤ 1048576) (w : World) (htab : Lib.TabIs Tryd.prog w "strings.asciiSpace" .u8 Lib.asciiSpaceTab) : Calls Tryd.prog 17 #[.string s] w (PartsEnd s w) := by
  by_cases hlong : 600 < s.size
  · have hd : decide (600 < (s.size : Int)) = true := by simp; omega
    have HP := Lib.hid (partsOf_long hlong)
    clear htab
    go_enter Tryd.func17, Tryd.ntmps17
    go_wp2
    go_ret2
    exact partsEnd_none HP.out (World.ownsRow_nil _ _ _ _) (Below.refl _ _)
  · have hd : decide (600 < (s.size : Int)) = false := by simp; omega
    by_cases hv : ValidL s
    · have hfl : (Lib.fields s.data.toList).length ≤ 601 := by
        have := fieldsGo_le s.data.toList []
        have hl : s.data.toList.length = s.size := by simp
        unfold Lib.fields
        omega
      have V := validBytes_any s (by omega) w s.size (Nat.le_refl _) (fun j hj _ => hv _ (List.getElem_mem (l := s.data.toList) (by simpa using hj))) (fun hj => absurd hj (by omega))
      have F := Tryd.strings_Fields s w (by omega) (fun j b hb => by
        have := hv b (List.mem_of_getElem? hb)
        have := this.2
        omega) htab
      have HV := Lib.hid V
      have HF := Lib.hid F
      clear V F htab
      by_cases h12 : 12 < (Lib.fields s.data.toList).length
      · have HP := Lib.hid (partsOf_many h12)
        have q : decide ((12 : Int) < ((Lib.fields s.data.toList).length : Int)) = true := by simp; omega
        clear hv
        go_enter Tryd.func17, Tryd.ntmps17
        go_wp2_with (first | (go_at_call 27; refine HV.out.mono ?_; rintro e w1 ⟨rfl, rfl⟩) | (go_at_call 28; refine HF.out.mono ?_; rintro e w1 ⟨rfl, rfl⟩))
        go_ret2
        exact partsEnd_none HP.out (World.ownsRow_nil _ _ _ _) ((Below.refl _ _).alloc (Nat.le_refl _) _)
      · have HP := Lib.hid (partsOf_good (by omega) hv (by omega))
        have q : decide ((12 : Int) < ((Lib.fields s.data.toList).length : Int)) = false := by simp; omega
        clear hv
        go_enter Tryd.func17, Tryd.ntmps17
        go_wp2_with (first | (go_at_call 27; refine HV.out.mono ?_; rintro e w1 ⟨rfl, rfl⟩) | (go_at_call 28; refine HF.out.mono ?_; rintro e w1 ⟨rfl, rfl⟩))
        go_ret2
        exact partsEnd_some HP.out (fields_world w _ (by omega)) ((Below.refl _ _).alloc (Nat.le_refl _) _)
    · obtain ⟨k, hk, h1, h2⟩ := first_bad s hv
      have HP := Lib.hid (partsOf_bad hv)
      have HV := Lib.hid (validBytes_any s (by omega) w k (by omega) h1 h2)
      have q : decide ((k : Int) < (s.size : Int)) = true := by simp; omega
      have q2 : decide (k < s.size) = true := by simp; omega
      clear htab hv h1 h2
      go_enter Tryd.func17, Tryd.ntmps17
      go_wp2_with (first | (go_at_call 27; refine HV.out.mono ?_; rintro e w1 ⟨rfl, rfl⟩))
      go_ret2
      exact partsEnd_none HP.out (World.ownsRow_nil _ _ _ _) (Below.refl _ _)
end Go.Proofs.YteebkaajalelaaaDoor.hexes
