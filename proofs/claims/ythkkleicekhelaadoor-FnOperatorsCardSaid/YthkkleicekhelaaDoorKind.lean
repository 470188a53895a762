/-
  Remembers and KindName on both sides.
-/
import Derived.Test.YthkkleicekhelaaDoorStamps
namespace Go.Proofs.YthkkleicekhelaaDoor.hexes
open Go.RowKit

def remB (k : Int) : Bool := decide (k = 5 ∨ k = 6 ∨ k = 8)
def nameB (k : Int) : ByteArray := if k = 1 then ⟨#[105, 110]⟩ else if k = 2 then ⟨#[97, 100, 100]⟩ else if k = 3 then ⟨#[107, 101, 101, 112]⟩ else if k = 4 then ⟨#[109, 111, 118, 101]⟩ else if k = 5 then ⟨#[109, 105, 110]⟩ else if k = 6 then ⟨#[110, 101, 119]⟩ else if k = 7 then ⟨#[98, 97, 99, 107]⟩ else if k = 8 then ⟨#[111, 117, 116]⟩ else ⟨#[63]⟩

set_option maxRecDepth 100000 in
theorem specRem_any (k : Int) (w : World) :
    Calls Tryd.prog 17 #[.int .i64 k] w fun e w' => e = .returned (.bool (remB k)) ∧ Below w.heap.size w w' := by
  by_cases h5 : k = 5
  · subst h5
    go_enter Tryd.func17, Tryd.ntmps17
    go_wp2
    go_ret
    exact ⟨rfl, Below.refl _ _⟩
  by_cases h6 : k = 6
  · subst h6
    go_enter Tryd.func17, Tryd.ntmps17
    go_wp2
    go_ret
    exact ⟨rfl, Below.refl _ _⟩
  by_cases h8 : k = 8
  · subst h8
    go_enter Tryd.func17, Tryd.ntmps17
    go_wp2
    go_ret
    exact ⟨rfl, Below.refl _ _⟩
  have hr : remB k = false := by simp [remB, h5, h6, h8]
  have d5 : (k == 5) = false := by simpa using h5
  have d6 : (k == 6) = false := by simpa using h6
  have d8 : (k == 8) = false := by simpa using h8
  rw [hr]
  clear hr h5 h6 h8
  go_enter Tryd.func17, Tryd.ntmps17
  go_wp2
  go_ret
  exact ⟨rfl, Below.refl _ _⟩

set_option maxRecDepth 100000 in
theorem implRem_any (k : Int) (w : World) :
    Calls Tryd.prog 16 #[.int .i64 k] w fun e w' => e = .returned (.bool (remB k)) ∧ Below w.heap.size w w' := by
  by_cases h5 : k = 5
  · subst h5
    go_enter Tryd.func16, Tryd.ntmps16
    go_wp2
    go_ret
    exact ⟨rfl, Below.refl _ _⟩
  by_cases h6 : k = 6
  · subst h6
    go_enter Tryd.func16, Tryd.ntmps16
    go_wp2
    go_ret
    exact ⟨rfl, Below.refl _ _⟩
  by_cases h8 : k = 8
  · subst h8
    go_enter Tryd.func16, Tryd.ntmps16
    go_wp2
    go_ret
    exact ⟨rfl, Below.refl _ _⟩
  have hr : remB k = false := by simp [remB, h5, h6, h8]
  have d5 : (k == 5) = false := by simpa using h5
  have d6 : (k == 6) = false := by simpa using h6
  have d8 : (k == 8) = false := by simpa using h8
  rw [hr]
  clear hr h5 h6 h8
  go_enter Tryd.func16, Tryd.ntmps16
  go_wp2
  go_ret
  exact ⟨rfl, Below.refl _ _⟩

set_option maxRecDepth 100000 in
theorem nameOf_any (k : Int) (w : World) :
    Calls Tryd.prog 34 #[.int .i64 k] w fun e w' => e = .returned (.string (nameB k)) ∧ Below w.heap.size w w' := by
  by_cases h1 : k = 1
  · subst h1
    go_enter Tryd.func34, Tryd.ntmps34
    go_wp2
    go_ret
    exact ⟨rfl, Below.refl _ _⟩
  by_cases h2 : k = 2
  · subst h2
    go_enter Tryd.func34, Tryd.ntmps34
    go_wp2
    go_ret
    exact ⟨rfl, Below.refl _ _⟩
  by_cases h3 : k = 3
  · subst h3
    go_enter Tryd.func34, Tryd.ntmps34
    go_wp2
    go_ret
    exact ⟨rfl, Below.refl _ _⟩
  by_cases h4 : k = 4
  · subst h4
    go_enter Tryd.func34, Tryd.ntmps34
    go_wp2
    go_ret
    exact ⟨rfl, Below.refl _ _⟩
  by_cases h5 : k = 5
  · subst h5
    go_enter Tryd.func34, Tryd.ntmps34
    go_wp2
    go_ret
    exact ⟨rfl, Below.refl _ _⟩
  by_cases h6 : k = 6
  · subst h6
    go_enter Tryd.func34, Tryd.ntmps34
    go_wp2
    go_ret
    exact ⟨rfl, Below.refl _ _⟩
  by_cases h7 : k = 7
  · subst h7
    go_enter Tryd.func34, Tryd.ntmps34
    go_wp2
    go_ret
    exact ⟨rfl, Below.refl _ _⟩
  by_cases h8 : k = 8
  · subst h8
    go_enter Tryd.func34, Tryd.ntmps34
    go_wp2
    go_ret
    exact ⟨rfl, Below.refl _ _⟩
  have hr : nameB k = ⟨#[63]⟩ := by simp [nameB, h1, h2, h3, h4, h5, h6, h7, h8]
  rw [hr]
  have d1 : (k == 1) = false := by simpa using h1
  have d2 : (k == 2) = false := by simpa using h2
  have d3 : (k == 3) = false := by simpa using h3
  have d4 : (k == 4) = false := by simpa using h4
  have d5 : (k == 5) = false := by simpa using h5
  have d6 : (k == 6) = false := by simpa using h6
  have d7 : (k == 7) = false := by simpa using h7
  have d8 : (k == 8) = false := by simpa using h8
  clear hr h1 h2 h3 h4 h5 h6 h7 h8
  go_enter Tryd.func34, Tryd.ntmps34
  go_wp2
  go_ret
  exact ⟨rfl, Below.refl _ _⟩

theorem implName_any (k : Int) (w : World) :
    Calls Tryd.prog 14 #[.int .i64 k] w fun e w' => e = .returned (.string (nameB k)) ∧ Below w.heap.size w w' := by
  go_enter Tryd.func14, Tryd.ntmps14
  go_wp2_with fail
  refine (nameOf_any k _).mono ?_
  rintro e w1 ⟨rfl, hb⟩
  go_wp2
  go_ret
  exact ⟨rfl, hb⟩

set_option maxRecDepth 100000 in
set_option maxHeartbeats 2000000 in
theorem specName_any (k : Int) (w : World) :
    Calls Tryd.prog 15 #[.int .i64 k] w fun e w' => e = .returned (.string (nameB k)) ∧ Below w.heap.size w w' := by
  by_cases h1 : k = 1
  · subst h1
    go_enter Tryd.func15, Tryd.ntmps15
    go_wp2_with fail
    refine (specIn_any 1 1 8 _).mono ?_
    rintro e w1 ⟨rfl, rfl⟩
    have e1 : decide ((1 : Int) ≤ 1 ∧ (1 : Int) ≤ 8) = true := by decide
    go_wp2
    go_ret
    exact ⟨rfl, (Below.refl _ _).alloc (Nat.le_refl _) _⟩
  by_cases h2 : k = 2
  · subst h2
    go_enter Tryd.func15, Tryd.ntmps15
    go_wp2_with fail
    refine (specIn_any 2 1 8 _).mono ?_
    rintro e w1 ⟨rfl, rfl⟩
    have e1 : decide ((1 : Int) ≤ 2 ∧ (2 : Int) ≤ 8) = true := by decide
    go_wp2
    go_ret
    exact ⟨rfl, (Below.refl _ _).alloc (Nat.le_refl _) _⟩
  by_cases h3 : k = 3
  · subst h3
    go_enter Tryd.func15, Tryd.ntmps15
    go_wp2_with fail
    refine (specIn_any 3 1 8 _).mono ?_
    rintro e w1 ⟨rfl, rfl⟩
    have e1 : decide ((1 : Int) ≤ 3 ∧ (3 : Int) ≤ 8) = true := by decide
    go_wp2
    go_ret
    exact ⟨rfl, (Below.refl _ _).alloc (Nat.le_refl _) _⟩
  by_cases h4 : k = 4
  · subst h4
    go_enter Tryd.func15, Tryd.ntmps15
    go_wp2_with fail
    refine (specIn_any 4 1 8 _).mono ?_
    rintro e w1 ⟨rfl, rfl⟩
    have e1 : decide ((1 : Int) ≤ 4 ∧ (4 : Int) ≤ 8) = true := by decide
    go_wp2
    go_ret
    exact ⟨rfl, (Below.refl _ _).alloc (Nat.le_refl _) _⟩
  by_cases h5 : k = 5
  · subst h5
    go_enter Tryd.func15, Tryd.ntmps15
    go_wp2_with fail
    refine (specIn_any 5 1 8 _).mono ?_
    rintro e w1 ⟨rfl, rfl⟩
    have e1 : decide ((1 : Int) ≤ 5 ∧ (5 : Int) ≤ 8) = true := by decide
    go_wp2
    go_ret
    exact ⟨rfl, (Below.refl _ _).alloc (Nat.le_refl _) _⟩
  by_cases h6 : k = 6
  · subst h6
    go_enter Tryd.func15, Tryd.ntmps15
    go_wp2_with fail
    refine (specIn_any 6 1 8 _).mono ?_
    rintro e w1 ⟨rfl, rfl⟩
    have e1 : decide ((1 : Int) ≤ 6 ∧ (6 : Int) ≤ 8) = true := by decide
    go_wp2
    go_ret
    exact ⟨rfl, (Below.refl _ _).alloc (Nat.le_refl _) _⟩
  by_cases h7 : k = 7
  · subst h7
    go_enter Tryd.func15, Tryd.ntmps15
    go_wp2_with fail
    refine (specIn_any 7 1 8 _).mono ?_
    rintro e w1 ⟨rfl, rfl⟩
    have e1 : decide ((1 : Int) ≤ 7 ∧ (7 : Int) ≤ 8) = true := by decide
    go_wp2
    go_ret
    exact ⟨rfl, (Below.refl _ _).alloc (Nat.le_refl _) _⟩
  by_cases h8 : k = 8
  · subst h8
    go_enter Tryd.func15, Tryd.ntmps15
    go_wp2_with fail
    refine (specIn_any 8 1 8 _).mono ?_
    rintro e w1 ⟨rfl, rfl⟩
    have e1 : decide ((1 : Int) ≤ 8 ∧ (8 : Int) ≤ 8) = true := by decide
    go_wp2
    go_ret
    exact ⟨rfl, (Below.refl _ _).alloc (Nat.le_refl _) _⟩
  have hr : nameB k = ⟨#[63]⟩ := by simp [nameB, h1, h2, h3, h4, h5, h6, h7, h8]
  have e1 : decide ((1 : Int) ≤ k ∧ k ≤ 8) = false := by simp; omega
  rw [hr]
  clear hr
  go_enter Tryd.func15, Tryd.ntmps15
  go_wp2_with fail
  refine (specIn_any k 1 8 _).mono ?_
  rintro e w1 ⟨rfl, rfl⟩
  go_wp2
  go_ret
  exact ⟨rfl, Below.refl _ _⟩

end Go.Proofs.YthkkleicekhelaaDoor.hexes
