/-
  The reference's worklist: what can be reached from a node.
-/
import Derived.Test.YtjplkoglibagkaaGrOkS
import Derived.Test.YtjplkoglibagkaaLawGr
import Derived.Test.YtjplkoglibagkaaGrCycle
namespace Go.Proofs.Ytjplkoglibagkaa.hexes
open Go.RowKit

set_option maxRecDepth 100000 in
theorem l08Has_is {n : Nat} {zs : List Int} (hz : zs.length = n) {q : Int} {r : Bool} (hr : decide (q ∈ zs) = r) (A : Option Addr) (c : Nat) (w : World) (h1 : Ints w A zs) (hn : n ≤ 1048576) :
    Calls Try.prog 55 #[.slice A n c, .int .i64 q] w fun e w' => e = .returned (.bool r) ∧ w = w' := by
  have H1 := Lib.hid h1
  have HZ := Lib.hid hz
  have HR := Lib.hid hr
  clear h1 hz hr
  go_enter Try.func55, Try.ntmps55
  go_wp2
  go_loop [5] (fun i => ∃ k : Nat, k ≤ n ∧ i = .int .i64 k ∧ q ∉ zs.take k) (fun i => n - (intOf i).toNat)
  case atStart => exact ⟨0, Nat.zero_le _, rfl, by simp⟩
  case round =>
    obtain ⟨k, hk, rfl, ht⟩ := hrel
    have HT := Lib.hid ht
    clear ht
    by_cases hlt : k < n
    · have l1 : k < zs.length := by rw [HZ.out]; exact hlt
      obtain ⟨b1, o1, p, rfl, x1, e1⟩ := H1.out.at l1
      have X1 := Lib.hid x1
      have i0 : (0 : Int) ≤ (k : Int) := by omega
      have i1 : (k : Int) < (n : Int) := by omega
      clear x1
      by_cases he : q = p
      · have hne : (p == q) = true := by simpa using he.symm
        have HM := Lib.hid (show r = true by
          rw [← HR.out]
          have : q ∈ zs := by rw [he, ← X1.out]; exact List.getElem_mem l1
          simp [this])
        clear he HT X1 l1
        go_wp2
        go_ret
        exact ⟨congrArg (fun b => Ending.returned (Value.bool b)) HM.out.symm, rfl⟩
      · have hne : (p == q) = false := by simpa using fun e => he e.symm
        have HT2 := Lib.hid (not_take_succ l1 X1.out he HT.out)
        clear he HT X1 l1
        go_wp2
        go_round
        case rel => exact ⟨k + 1, by omega, by go_num, HT2.out⟩
        case measure => simp [intOf]; omega
    · have HM := Lib.hid (show r = false by
        rw [← HR.out]
        have h3 := HT.out
        rw [List.take_of_length_le (by rw [HZ.out]; omega)] at h3
        simp [h3])
      clear HT
      go_wp2
      go_ret
      exact ⟨congrArg (fun b => Ending.returned (Value.bool b)) HM.out.symm, rfl⟩

/-- Every edge leads to the number of a node. -/
def Edges (gs : List Nd) : Prop := ∀ a x, x ∈ outsAt gs a → 0 ≤ x ∧ x < (gs.length : Int)

theorem edges_of {gs : List Nd} {d : Int → Int} {wk cp : Int} (h : okGr gs d wk cp = true) : Edges gs := by
  intro a t ht
  obtain ⟨j, hj, rfl, hm⟩ := outsAt_mem ht
  have hn := okGr_node h j hj
  unfold nodeB at hn
  simp only [Bool.and_eq_true] at hn
  have he := List.all_eq_true.1 hn.2 t hm
  have h0 := okN_outs hn.1.1 t hm
  unfold edgeB at he
  simp only [Bool.and_eq_true] at he
  exact ⟨h0.1, of_decide_eq_true he.1⟩
theorem okGr_len {gs : List Nd} {d : Int → Int} {wk cp : Int} (h : okGr gs d wk cp = true) : 1 ≤ gs.length ∧ gs.length ≤ 8 := by
  unfold okGr at h
  simp only [Bool.and_eq_true] at h
  exact of_decide_eq_true h.1.1.1
theorem okGr_outs {gs : List Nd} {d : Int → Int} {wk cp : Int} (h : okGr gs d wk cp = true) : ∀ j (hj : j < gs.length), gs[j].2.2.2.length ≤ 2 ∧ gs[j].2.2.2.Nodup := by
  intro j hj
  have hn := okGr_node h j hj
  unfold nodeB at hn
  simp only [Bool.and_eq_true] at hn
  have := hn.1.1
  unfold okN okNd at this
  simp only [Bool.and_eq_true] at this
  have := this.2
  unfold outsB at this
  have := of_decide_eq_true this
  exact ⟨this.1, this.2.2.2⟩

/-- What the worklist holds: reached nodes, each once. -/
structure Work (gs : List Nd) (a : Int) (i : Nat) (S : List Int) : Prop where
  re : Reached gs a i S
  nd : S.Nodup
  bd : ∀ x ∈ S, 0 ≤ x ∧ x < (gs.length : Int)
  le : i ≤ S.length

theorem Work.len {gs : List Nd} {a : Int} {i : Nat} {S : List Int} (h : Work gs a i S) : S.length ≤ gs.length := nodup_bound _ _ h.nd h.bd

theorem path_bd {gs : List Nd} (he : Edges gs) {a t : Int} (h : Path gs a t) : 0 ≤ t ∧ t < (gs.length : Int) := by
  cases h with
  | edge h => exact he _ _ h
  | step _ h => exact he _ _ h

theorem Work.put {gs : List Nd} (he : Edges gs) {a : Int} {i : Nat} {S : List Int} {x : Int} (h : Work gs a i S) (hp : Path gs a x) (hx : x ∉ S) : Work gs a i (S ++ [x]) :=
  ⟨reached_put h.re h.le hp, nodup_snoc h.nd hx, fun y hy => by
    rcases List.mem_append.1 hy with hy | hy
    · exact h.bd y hy
    · obtain rfl : y = x := by simpa using hy
      exact path_bd he hp, by have := h.le; simp; omega⟩

end Go.Proofs.Ytjplkoglibagkaa.hexes
