/-
  The fields of a line, as plain functions on bytes, and what PartsOf answers.
-/
import Derived.Test.YteebkaajalelaaaDoorStrings
import Derived.Lib.Fields
import Derived.Lib.Strings
namespace Go.Proofs.YteebkaajalelaaaDoor.hexes
open Go.RowKit

def ValidB (b : UInt8) : Prop := 32 ≤ b.toNat ∧ b.toNat ≤ 126
instance (b : UInt8) : Decidable (ValidB b) := by unfold ValidB; infer_instance
def ValidL (s : ByteArray) : Prop := ∀ b ∈ s.data.toList, ValidB b
instance (s : ByteArray) : Decidable (ValidL s) := by unfold ValidL; infer_instance

theorem isSp_valid {b : UInt8} (h : ValidB b) : Lib.isSp b = (b == 32) := by
  have : ∀ n : Fin 256, 32 ≤ n.val → n.val ≤ 126 → Lib.isSp (UInt8.ofNat n.val) = (UInt8.ofNat n.val == 32) := by decide +kernel
  have hb := this ⟨b.toNat, b.toNat_lt⟩ h.1 h.2
  simpa using hb

/-- The fields and the flag. -/
def partsOf (s : ByteArray) : List (List UInt8) × Bool :=
  if s.size ≤ 600 ∧ ValidL s ∧ (Lib.fields s.data.toList).length ≤ 12 then (Lib.fields s.data.toList, true) else ([], false)

def mk (l : List UInt8) : ByteArray := ⟨l.toArray⟩

/-- How a call of PartsOf ends: the fields in new memory, and the flag. -/
def PartsEnd (s : ByteArray) (w : World) (e : Ending) (w' : World) : Prop :=
  ∃ v, e = .returned (.tuple #[v, .bool (partsOf s).2]) ∧ w'.ownsRow w.heap.size 9 1 v (partsOf s).1.length (texts ((partsOf s).1.map mk)) ∧ Below w.heap.size w w'

theorem partsOf_long {s : ByteArray} (h : 600 < s.size) : partsOf s = ([], false) := if_neg fun hh => by omega
theorem partsOf_bad {s : ByteArray} (h : ¬ ValidL s) : partsOf s = ([], false) := if_neg fun hh => h hh.2.1
theorem partsOf_many {s : ByteArray} (h : 12 < (Lib.fields s.data.toList).length) : partsOf s = ([], false) := if_neg fun hh => by omega
theorem partsOf_good {s : ByteArray} (h1 : s.size ≤ 600) (h2 : ValidL s) (h3 : (Lib.fields s.data.toList).length ≤ 12) : partsOf s = (Lib.fields s.data.toList, true) := if_pos ⟨h1, h2, h3⟩

theorem partsEnd_none {s : ByteArray} {w w' : World} {v : Value} (h : partsOf s = ([], false)) (ho : w'.ownsRow w.heap.size 9 1 v 0 []) (hb : Below w.heap.size w w') :
    PartsEnd s w (.returned (.tuple #[v, .bool false])) w' := by
  unfold PartsEnd
  rw [h]
  exact ⟨v, rfl, ho, hb⟩
theorem partsEnd_some {s : ByteArray} {w w' : World} {v : Value} (h : partsOf s = (Lib.fields s.data.toList, true)) (ho : w'.ownsRow w.heap.size 9 1 v (Lib.fields s.data.toList).length (texts ((Lib.fields s.data.toList).map mk))) (hb : Below w.heap.size w w') :
    PartsEnd s w (.returned (.tuple #[v, .bool true])) w' := by
  unfold PartsEnd
  rw [h]
  exact ⟨v, rfl, ho, hb⟩

theorem invalid_at {s : ByteArray} {k : Nat} (hk : k < s.size) (h : ¬ ValidB s[k]) : ¬ ValidL s := fun hv => h (hv _ (by
  have : s[k] = s.data.toList[k]'(by simpa using hk) := rfl
  rw [this]
  exact List.getElem_mem _))

/-- The loop over the bytes: before place i, begun at b, with the fields 'out'. -/
def Scan (s : ByteArray) (i b : Nat) (out : List (List UInt8)) : Prop :=
  out.length ≤ i ∧ (∀ j (hj : j < s.size), j < i → ValidB s[j]) ∧
  ((i ≤ s.size ∧ b ≤ i ∧ Lib.fields s.data.toList = out ++ Lib.fieldsGo ((s.data.toList.drop b).take (i - b)) (s.data.toList.drop i)) ∨ (i = s.size + 1 ∧ Lib.fields s.data.toList = out))

theorem scan_start (s : ByteArray) : Scan s 0 0 [] := ⟨Nat.le_refl _, fun _ _ h => absurd h (by omega), .inl ⟨Nat.zero_le _, Nat.le_refl _, by simp [Lib.fields]⟩⟩

theorem drop_at (s : ByteArray) (i : Nat) (h : i < s.size) : s.data.toList.drop i = s[i] :: s.data.toList.drop (i + 1) := by
  have hl : i < s.data.toList.length := by simpa using h
  rw [List.drop_eq_getElem_cons hl]
  rfl

theorem take_more (l : List UInt8) (b i : Nat) (hb : b ≤ i) (hi : i < l.length) : (l.drop b).take (i + 1 - b) = (l.drop b).take (i - b) ++ [l[i]] := by
  have e : i + 1 - b = (i - b) + 1 := by omega
  rw [e, List.take_succ_eq_append_getElem (by simp; omega)]
  congr 1
  simp [show b + (i - b) = i by omega]

/-- a byte that is no space -/
theorem scan_more {s : ByteArray} {i b : Nat} {out : List (List UInt8)} (h : Scan s i b out) (hi : i < s.size) (hv : ValidB s[i]) (hne : (s[i] == 32) = false) : Scan s (i + 1) b out := by
  obtain ⟨hl, hall, h | h⟩ := h
  · refine ⟨by omega, fun j hj hlt => ?_, .inl ⟨by omega, by omega, ?_⟩⟩
    · by_cases hji : j = i
      · subst hji; exact hv
      · exact hall j hj (by omega)
    · rw [h.2.2, drop_at s i hi, Lib.fieldsGo_more _ _ _ (by rw [isSp_valid hv, hne])]
      have := take_more s.data.toList b i h.2.1 (by simpa using hi)
      rw [this]
      rfl
  · omega

theorem take_empty (l : List UInt8) (i : Nat) : (l.drop (i + 1)).take (i + 1 - (i + 1)) = [] := by simp

theorem take_ne {s : ByteArray} {i b : Nat} (hi : i ≤ s.size) (hb : b < i) : (s.data.toList.drop b).take (i - b) ≠ [] := by
  intro e
  have := congrArg List.length e
  simp at this
  omega

/-- a space, behind a field -/
theorem scan_cut {s : ByteArray} {i b : Nat} {out : List (List UInt8)} (h : Scan s i b out) (hi : i < s.size) (hv : ValidB s[i]) (hsp : (s[i] == 32) = true) (hb : b < i) : Scan s (i + 1) (i + 1) (out ++ [(s.data.toList.drop b).take (i - b)]) := by
  obtain ⟨hl, hall, h | h⟩ := h
  · refine ⟨by simp; omega, fun j hj hlt => ?_, .inl ⟨by omega, by omega, ?_⟩⟩
    · by_cases hji : j = i
      · subst hji; exact hv
      · exact hall j hj (by omega)
    · rw [h.2.2, drop_at s i hi, Lib.fieldsGo_end _ _ _ (by rw [isSp_valid hv, hsp]) (take_ne (by omega) hb), take_empty]
      simp
  · omega

/-- a space, behind no field -/
theorem scan_skip {s : ByteArray} {i b : Nat} {out : List (List UInt8)} (h : Scan s i b out) (hi : i < s.size) (hv : ValidB s[i]) (hsp : (s[i] == 32) = true) (hb : ¬ b < i) : Scan s (i + 1) (i + 1) out := by
  obtain ⟨hl, hall, h | h⟩ := h
  · refine ⟨by omega, fun j hj hlt => ?_, .inl ⟨by omega, by omega, ?_⟩⟩
    · by_cases hji : j = i
      · subst hji; exact hv
      · exact hall j hj (by omega)
    · have hbi : i - b = 0 := by omega
      rw [h.2.2, drop_at s i hi, hbi, List.take_zero, Lib.fieldsGo_sp _ _ (by rw [isSp_valid hv, hsp]), take_empty]
  · omega

/-- the line's end, behind a field -/
theorem scan_last {s : ByteArray} {i b : Nat} {out : List (List UInt8)} (h : Scan s i b out) (hi : i = s.size) (hb : b < i) : Scan s (i + 1) (i + 1) (out ++ [(s.data.toList.drop b).take (i - b)]) := by
  obtain ⟨hl, hall, h | h⟩ := h
  · refine ⟨by simp; omega, fun j hj hlt => hall j hj (by omega), .inr ⟨by omega, ?_⟩⟩
    have hd : s.data.toList.drop i = [] := List.drop_of_length_le (by simp; omega)
    have hne := take_ne (s := s) (by omega) hb
    rw [h.2.2, hd, Lib.fieldsGo]
    simp only [List.isEmpty_iff, hne, if_false]
  · omega

/-- the line's end, behind no field -/
theorem scan_done {s : ByteArray} {i b : Nat} {out : List (List UInt8)} (h : Scan s i b out) (hi : i = s.size) (hb : ¬ b < i) : Scan s (i + 1) (i + 1) out := by
  obtain ⟨hl, hall, h | h⟩ := h
  · refine ⟨by omega, fun j hj hlt => hall j hj (by omega), .inr ⟨by omega, ?_⟩⟩
    have hd : s.data.toList.drop i = [] := List.drop_of_length_le (by simp; omega)
    have hbi : i - b = 0 := by omega
    rw [h.2.2, hd, hbi, List.take_zero, Lib.fieldsGo]
    simp
  · omega

theorem scan_end {s : ByteArray} {i b : Nat} {out : List (List UInt8)} (h : Scan s i b out) (hi : s.size < i) : out = Lib.fields s.data.toList ∧ ValidL s := by
  obtain ⟨_, hall, h | h⟩ := h
  · omega
  · refine ⟨h.2.symm, fun b hb => ?_⟩
    obtain ⟨j, hj, rfl⟩ := List.getElem_of_mem hb
    exact hall j (by simpa using hj) (by simp at hj; omega)

theorem scan_le {s : ByteArray} {i b : Nat} {out : List (List UInt8)} (h : Scan s i b out) (hi : i ≤ s.size) : b ≤ i := by
  obtain ⟨_, _, h | h⟩ := h
  · exact h.2.1
  · omega

theorem cut_text (s : ByteArray) (b i : Nat) : s.extract b i = mk ((s.data.toList.drop b).take (i - b)) := by
  apply ByteArray.ext
  apply Array.toList_inj.1
  simp [mk, List.take_drop]
end Go.Proofs.YteebkaajalelaaaDoor.hexes
