/-
  Nodes as plain data: when one is right, what it makes of a record.
-/
import Derived.Lib.Hide
namespace Go.Proofs.Ytjplkoglibagkaa.hexes

def kB (k : Int) : Bool := decide (1 ≤ k ∧ k ≤ 8)
def aB (k a : Int) : Bool := if k = 2 then decide (0 ≤ a ∧ a ≤ 999) else if k = 3 then decide (1 ≤ a ∧ a ≤ 10) else if k = 4 then decide (0 ≤ a ∧ a ≤ 99) else a == 0
/-- d: what A less 1 comes to. -/
def bB (k b d : Int) : Bool := if k = 3 then decide (0 ≤ b ∧ b ≤ d) else b == 0
def setB (k a b d : Int) : Bool := kB k && aB k a && bB k b d
def outsB (k : Int) (zs : List Int) : Bool := decide (zs.length ≤ 2 ∧ (k = 8 → zs = []) ∧ (∀ z ∈ zs, 0 ≤ z ∧ z ≤ 7) ∧ zs.Nodup)
def okNd (k a b d : Int) (zs : List Int) : Bool := setB k a b d && outsB k zs

theorem aB_2 (a : Int) : decide (0 ≤ a ∧ a ≤ 999) = aB 2 a := by simp [aB]
theorem aB_3 (a : Int) : decide (1 ≤ a ∧ a ≤ 10) = aB 3 a := by simp [aB]
theorem aB_4 (a : Int) : decide (0 ≤ a ∧ a ≤ 99) = aB 4 a := by simp [aB]
theorem aB_o {k : Int} (a : Int) (h2 : k ≠ 2) (h3 : k ≠ 3) (h4 : k ≠ 4) : (a == 0) = aB k a := by simp [aB, h2, h3, h4]
theorem bB_3 (b d : Int) : decide (0 ≤ b ∧ b ≤ d) = bB 3 b d := by simp [bB]
theorem bB_o {k : Int} (b d : Int) (h3 : k ≠ 3) : (b == 0) = bB k b d := by simp [bB, h3]

/-- The first j successors are right. -/
def Scan (zs : List Int) (j : Nat) : Prop := (∀ z ∈ zs.take j, 0 ≤ z ∧ z ≤ 7) ∧ (zs.take j).Nodup

theorem scan_zero (zs : List Int) : Scan zs 0 := ⟨fun z hz => by simp at hz, by simp⟩
theorem nodup_snoc {l : List Int} {p : Int} (h : l.Nodup) (hp : p ∉ l) : (l ++ [p]).Nodup := by
  rw [List.nodup_append]
  refine ⟨h, by simp, fun a ha b hb => ?_⟩
  obtain rfl : b = p := by simpa using hb
  rintro rfl
  exact hp ha
theorem scan_succ {zs : List Int} {j : Nat} {p : Int} (hj : j < zs.length) (hp : zs[j] = p) (h : Scan zs j) (h7 : 0 ≤ p ∧ p ≤ 7) (hn : p ∉ zs.take j) : Scan zs (j + 1) := by
  have e := List.take_succ_eq_append_getElem hj
  rw [hp] at e
  unfold Scan
  rw [e]
  refine ⟨fun z hz => ?_, nodup_snoc h.2 hn⟩
  rcases List.mem_append.1 hz with hz | hz
  · exact h.1 z hz
  · obtain rfl : z = p := by simpa using hz
    exact h7
theorem outs_yes {k : Int} {zs : List Int} (hl : zs.length ≤ 2) (hk : k = 8 → zs = []) (h : Scan zs zs.length) : outsB k zs = true := by
  unfold Scan at h
  rw [List.take_length] at h
  exact decide_eq_true ⟨hl, hk, h.1, h.2⟩
theorem outs_bad {k : Int} {zs : List Int} {j : Nat} {p : Int} (hj : j < zs.length) (hp : zs[j] = p) (h7 : ¬(0 ≤ p ∧ p ≤ 7)) : outsB k zs = false :=
  decide_eq_false fun h => h7 (h.2.2.1 p (hp ▸ List.getElem_mem hj))
theorem outs_twice {k : Int} {zs : List Int} {j : Nat} {p : Int} (hj : j < zs.length) (hp : zs[j] = p) (hm : p ∈ zs.take j) : outsB k zs = false :=
  decide_eq_false fun h => by
    have hn := h.2.2.2
    rw [← List.take_append_drop j zs, List.drop_eq_getElem_cons hj, hp, List.nodup_append] at hn
    exact hn.2.2 p hm p (by simp) rfl
theorem outs_long {k : Int} {zs : List Int} (h : 2 < zs.length) : outsB k zs = false := decide_eq_false fun x => by have := x.1; omega
theorem outs_out {zs : List Int} (h : 0 < zs.length) : outsB 8 zs = false := decide_eq_false fun x => by have := x.2.1 rfl; subst this; simp at h
theorem outs_nil (k : Int) : outsB k [] = true := outs_yes (by simp) (fun _ => rfl) (scan_zero [])

end Go.Proofs.Ytjplkoglibagkaa.hexes
