/-
  HasLoop on both sides.
  What FnGraphs asks of a graph: every loop has a gate, and goes by a way back.
-/
import Derived.Test.YtjplkoglibagkaaJ25

namespace Go.Proofs.Ytjplkoglibagkaa.hexes
open Go.RowKit

/-- Whether some node reaches itself. -/
noncomputable def loopG (gs : List Nd) (wk cp : Int) : Bool := (List.range gs.length).any fun i => reachG gs wk cp (i : Int) (i : Int)
theorem loopG_yes {gs : List Nd} {wk cp : Int} {i : Nat} (hi : i < gs.length) (h : reachG gs wk cp (i : Int) (i : Int) = true) : loopG gs wk cp = true := by
  unfold loopG
  rw [List.any_eq_true]
  exact ⟨i, by simpa using hi, h⟩
theorem loopG_no {gs : List Nd} {wk cp : Int} (h : ∀ i, i < gs.length → reachG gs wk cp (i : Int) (i : Int) = false) : loopG gs wk cp = false := by
  unfold loopG
  rw [List.any_eq_false]
  intro i hi
  rw [h i (by simpa using hi)]
  decide

set_option maxRecDepth 100000 in
set_option maxHeartbeats 2000000 in
theorem specLoop_is {gs : List Nd} {wk cp : Int} {r : Bool} (hr : loopG gs wk cp = r) {n : Nat} (hl : gs.length = n) (hs : ∀ x ∈ gs, x.2.2.2.length ≤ 1048576) (hn : n ≤ 1048576) (A : Option Addr) (c : Nat) (w : World) (h : Nds w A gs) :
    Calls Try.prog 18 #[.agg #[.slice A n c, .int .i64 wk, .int .i64 cp]] w fun e w' => e = .returned (.bool r) ∧ Below w.heap.size w w' := by
  obtain ⟨W, hW⟩ : ∃ W, w.alloc (.cells #[.slice A n c, .int .i64 wk, .int .i64 cp] 26) = W := ⟨_, rfl⟩
  have BW := Lib.hid (show Below w.heap.size w W by rw [← hW]; exact (Below.refl w.heap.size w).alloc (Nat.le_refl _) _)
  have KW := Lib.hid (show Blk W w.heap.size 26 #[.slice A n c, .int .i64 wk, .int .i64 cp] by rw [← hW]; exact Blk.new _ _ _)
  have H1 := Lib.hid (h.below BW.out)
  have E := Lib.hid (fun (i : Nat) (b : Bool) (hb : reachG gs wk cp (i : Int) (i : Int) = b) W (hW : Nds W A gs) => specReach_is hb hl hs hn A c W hW)
  have HR := Lib.hid hr
  have HL := Lib.hid hl
  have x0 : W.cell? ⟨w.heap.size, 0, none⟩ = some (.slice A n c) := by rw [KW.out.cell]; rfl
  clear hr h hs hl
  go_enter Try.func18, Try.ntmps18
  go_wp2
  clear x0 hW
  go_loopw [3] (fun i wr => ∃ k : Nat, k ≤ n ∧ i = .int .i64 (k : Int) ∧ (∀ j, j < k → reachG gs wk cp (j : Int) (j : Int) = false) ∧ Below W.heap.size W wr) (fun i _ => n - (intOf i).toNat)
  case atStart => exact ⟨0, Nat.zero_le _, rfl, fun j hj => absurd hj (Nat.not_lt_zero _), Below.refl _ _⟩
  case round =>
    obtain ⟨k, hk, rfl, ht, hb⟩ := hrel
    have HT := Lib.hid ht
    have HB := Lib.hid hb
    have NR := Lib.hid (H1.out.below hb)
    have KR := Lib.hid (KW.out.below hb)
    have x0 : wr.cell? ⟨w.heap.size, 0, none⟩ = some (.slice A n c) := by rw [KR.out.cell]; rfl
    have x1 : wr.cell? ⟨w.heap.size, 1, none⟩ = some (.int .i64 wk) := by rw [KR.out.cell]; rfl
    have x2 : wr.cell? ⟨w.heap.size, 2, none⟩ = some (.int .i64 cp) := by rw [KR.out.cell]; rfl
    clear ht hb
    by_cases hlt : k < n
    · have i0 : (0 : Int) ≤ (k : Int) := by omega
      have i1 : (k : Int) < (n : Int) := by omega
      cases hq : reachG gs wk cp (k : Int) (k : Int) with
      | true =>
        have C := Lib.hid (E.out k true hq wr NR.out)
        have HE := Lib.hid (show r = true by rw [← HR.out]; exact loopG_yes (by rw [HL.out]; exact hlt) hq)
        clear hq
        go_wp2_with fail
        refine C.out.mono ?_
        rintro e w2 ⟨rfl, hb⟩
        have B2 := Lib.hid (below_chain HB.out hb)
        clear hb x0 x1 x2
        go_wp2
        go_ret
        exact ⟨congrArg (fun b => Ending.returned (Value.bool b)) HE.out.symm, below_chain BW.out B2.out⟩
      | false =>
        have C := Lib.hid (E.out k false hq wr NR.out)
        have HT2 := Lib.hid (show ∀ j, j < k + 1 → reachG gs wk cp (j : Int) (j : Int) = false from fun j hj => by
          by_cases e : j = k
          · subst e; exact hq
          · exact HT.out j (by omega))
        clear hq
        go_wp2_with fail
        refine C.out.mono ?_
        rintro e w2 ⟨rfl, hb⟩
        have B2 := Lib.hid (below_chain HB.out hb)
        clear hb x0 x1 x2
        go_wp2
        go_roundw
        case rel => exact ⟨k + 1, by omega, by go_num, HT2.out, B2.out⟩
        case measure => simp [intOf]; omega
    · have HE := Lib.hid (show r = false by rw [← HR.out]; exact loopG_no (fun j hj => HT.out j (by have := HL.out; omega)))
      go_wp2
      go_ret
      exact ⟨congrArg (fun b => Ending.returned (Value.bool b)) HE.out.symm, below_chain BW.out HB.out⟩

set_option maxRecDepth 100000 in
set_option maxHeartbeats 2000000 in
theorem implLoop_is {gs : List Nd} {wk cp : Int} {r : Bool} (hr : loopG gs wk cp = r) {n : Nat} (hl : gs.length = n) (hs : ∀ x ∈ gs, x.2.2.2.length ≤ 1048576) (hn : n ≤ 1048576) (A : Option Addr) (c : Nat) (w : World) (h : Nds w A gs) :
    Calls Try.prog 17 #[.agg #[.slice A n c, .int .i64 wk, .int .i64 cp]] w fun e w' => e = .returned (.bool r) ∧ Below w.heap.size w w' := by
  obtain ⟨W, hW⟩ : ∃ W, w.alloc (.cells #[.slice A n c, .int .i64 wk, .int .i64 cp] 26) = W := ⟨_, rfl⟩
  have BW := Lib.hid (show Below w.heap.size w W by rw [← hW]; exact (Below.refl w.heap.size w).alloc (Nat.le_refl _) _)
  have KW := Lib.hid (show Blk W w.heap.size 26 #[.slice A n c, .int .i64 wk, .int .i64 cp] by rw [← hW]; exact Blk.new _ _ _)
  have H1 := Lib.hid (h.below BW.out)
  have E := Lib.hid (fun (i : Nat) (b : Bool) (hb : reachG gs wk cp (i : Int) (i : Int) = b) W (hW : Nds W A gs) => implReach_is hb hl hs hn A c W hW)
  have HR := Lib.hid hr
  have HL := Lib.hid hl
  have x0 : W.cell? ⟨w.heap.size, 0, none⟩ = some (.slice A n c) := by rw [KW.out.cell]; rfl
  clear hr h hs hl
  go_enter Try.func17, Try.ntmps17
  go_wp2
  clear x0 hW
  go_loopw [7] (fun i wr => ∃ k : Nat, k ≤ n ∧ i = .int .i64 (k : Int) ∧ (∀ j, j < k → reachG gs wk cp (j : Int) (j : Int) = false) ∧ Below W.heap.size W wr) (fun i _ => n - (intOf i).toNat)
  case atStart => exact ⟨0, Nat.zero_le _, rfl, fun j hj => absurd hj (Nat.not_lt_zero _), Below.refl _ _⟩
  case round =>
    obtain ⟨k, hk, rfl, ht, hb⟩ := hrel
    have HT := Lib.hid ht
    have HB := Lib.hid hb
    have NR := Lib.hid (H1.out.below hb)
    have KR := Lib.hid (KW.out.below hb)
    have x0 : wr.cell? ⟨w.heap.size, 0, none⟩ = some (.slice A n c) := by rw [KR.out.cell]; rfl
    have x1 : wr.cell? ⟨w.heap.size, 1, none⟩ = some (.int .i64 wk) := by rw [KR.out.cell]; rfl
    have x2 : wr.cell? ⟨w.heap.size, 2, none⟩ = some (.int .i64 cp) := by rw [KR.out.cell]; rfl
    clear ht hb
    by_cases hlt : k < n
    · have i0 : (0 : Int) ≤ (k : Int) := by omega
      have i1 : (k : Int) < (n : Int) := by omega
      cases hq : reachG gs wk cp (k : Int) (k : Int) with
      | true =>
        have C := Lib.hid (E.out k true hq wr NR.out)
        have HE := Lib.hid (show r = true by rw [← HR.out]; exact loopG_yes (by rw [HL.out]; exact hlt) hq)
        clear hq
        go_wp2_with fail
        refine C.out.mono ?_
        rintro e w2 ⟨rfl, hb⟩
        have B2 := Lib.hid (below_chain HB.out hb)
        clear hb x0 x1 x2
        go_wp2
        go_ret
        exact ⟨congrArg (fun b => Ending.returned (Value.bool b)) HE.out.symm, below_chain BW.out B2.out⟩
      | false =>
        have C := Lib.hid (E.out k false hq wr NR.out)
        have HT2 := Lib.hid (show ∀ j, j < k + 1 → reachG gs wk cp (j : Int) (j : Int) = false from fun j hj => by
          by_cases e : j = k
          · subst e; exact hq
          · exact HT.out j (by omega))
        clear hq
        go_wp2_with fail
        refine C.out.mono ?_
        rintro e w2 ⟨rfl, hb⟩
        have B2 := Lib.hid (below_chain HB.out hb)
        clear hb x0 x1 x2
        go_wp2
        go_roundw
        case rel => exact ⟨k + 1, by omega, by go_num, HT2.out, B2.out⟩
        case measure => simp [intOf]; omega
    · have HE := Lib.hid (show r = false by rw [← HR.out]; exact loopG_no (fun j hj => HT.out j (by have := HL.out; omega)))
      go_wp2
      go_ret
      exact ⟨congrArg (fun b => Ending.returned (Value.bool b)) HE.out.symm, below_chain BW.out HB.out⟩

end Go.Proofs.Ytjplkoglibagkaa.hexes

namespace Go.Proofs.Ytjplkoglibagkaa.hexes
open Go.RowKit

/-- Whether one of the first j nodes is OpBack with a successor. -/
def backsTo (gs : List Nd) (j : Nat) : Bool := (List.range j).any fun i => kindAt gs (i : Int) == 7 && decide (0 < (outsAt gs (i : Int)).length)
theorem backsTo_zero (gs : List Nd) : backsTo gs 0 = false := rfl
theorem backsTo_succ (gs : List Nd) (j : Nat) : backsTo gs (j + 1) = (backsTo gs j || (kindAt gs (j : Int) == 7 && decide (0 < (outsAt gs (j : Int)).length))) := by
  unfold backsTo
  rw [List.range_succ, List.any_append]
  simp

/-- Whether one of the first j nodes is a gate on node k's loop. -/
noncomputable def gateTo (gs : List Nd) (wk cp : Int) (k j : Nat) : Bool := (List.range j).any fun m => (kindAt gs (m : Int) == 5 || kindAt gs (m : Int) == 6) && ((m == k) || (reachG gs wk cp (k : Int) (m : Int) && reachG gs wk cp (m : Int) (k : Int)))
theorem gateTo_zero (gs : List Nd) (wk cp : Int) (k : Nat) : gateTo gs wk cp k 0 = false := rfl
theorem gateTo_succ (gs : List Nd) (wk cp : Int) (k j : Nat) : gateTo gs wk cp k (j + 1) = (gateTo gs wk cp k j || ((kindAt gs (j : Int) == 5 || kindAt gs (j : Int) == 6) && ((j == k) || (reachG gs wk cp (k : Int) (j : Int) && reachG gs wk cp (j : Int) (k : Int))))) := by
  unfold gateTo
  rw [List.range_succ, List.any_append]
  simp

theorem reachG_path {gs : List Nd} {wk cp f t : Int} (h : reachG gs wk cp f t = true) : okGr gs dec1 wk cp = true ∧ Path gs f t := by
  unfold reachG at h
  simp only [Bool.and_eq_true] at h
  exact ⟨h.1.1, reachB_iff.1 h.2⟩
theorem reachG_of {gs : List Nd} {wk cp f t : Int} (hok : okGr gs dec1 wk cp = true) (h0 : 0 ≤ f ∧ f < (gs.length : Int)) (h : Path gs f t) : reachG gs wk cp f t = true := by
  unfold reachG
  rw [hok, decide_eq_true (show 0 ≤ f ∧ f ≤ (gs.length : Int) - 1 by omega), reachB_iff.2 h]
  rfl

/-- The cycle of a node that reaches itself comes to a gate. -/
theorem gate_on {gs : List Nd} {wk cp : Int} {k : Nat} (h : reachG gs wk cp (k : Int) (k : Int) = true) : gateTo gs wk cp k gs.length = true := by
  obtain ⟨hok, hp⟩ := reachG_path h
  obtain ⟨m, x, _, hx, hg, hxk⟩ := cycle_gate (rises_of hok) hp
  have hb := edges_of hok m x hx
  have hkb := path_bd (edges_of hok) hp
  obtain ⟨j, rfl⟩ : ∃ j : Nat, x = (j : Int) := ⟨x.toNat, by omega⟩
  unfold gateTo
  rw [List.any_eq_true]
  refine ⟨j, by simp; omega, ?_⟩
  simp only [Bool.and_eq_true, Bool.or_eq_true, beq_iff_eq]
  refine ⟨hg, ?_⟩
  rcases hxk with e | ⟨h1, h2⟩
  · exact .inl (by omega)
  · exact .inr ⟨reachG_of hok hkb h1, reachG_of hok hb h2⟩

/-- A graph with a loop has an OpBack node with a successor. -/
theorem backs_of {gs : List Nd} {wk cp : Int} (h : loopG gs wk cp = true) : backsTo gs gs.length = true := by
  unfold loopG at h
  rw [List.any_eq_true] at h
  obtain ⟨k, _, hk⟩ := h
  obtain ⟨hok, hp⟩ := reachG_path hk
  obtain ⟨m, x, hm, hx, _, _⟩ := cycle_gate (rises_of hok) hp
  obtain ⟨j, hj, rfl, hmem⟩ := outsAt_mem hx
  unfold backsTo
  rw [List.any_eq_true]
  refine ⟨j, by simpa using hj, ?_⟩
  simp only [Bool.and_eq_true, beq_iff_eq, decide_eq_true_eq]
  exact ⟨hm, List.length_pos_of_mem hx⟩
theorem loop_bad {gs : List Nd} {wk cp : Int} (h : okGr gs dec1 wk cp = false) : loopG gs wk cp = false := by
  unfold loopG
  rw [List.any_eq_false]
  intro i _
  unfold reachG
  rw [h]
  simp

/-- The law's own graph with a loop. -/
def gs0 : List Nd := [(1, 0, 0, [1]), (5, 0, 0, [2]), (7, 0, 0, [1])]

theorem gs0_ok : okGr gs0 dec1 1 1 = true := by
  unfold okGr allB nodeB okN okNd setB outsB kB aB bB edgeB kindAt gs0
  decide
theorem gs0_out1 : outsAt gs0 1 = [2] := rfl
theorem gs0_out2 : outsAt gs0 2 = [1] := rfl
theorem gs0_loop : loopG gs0 1 1 = true := by
  have h12 : Path gs0 1 2 := .edge (by rw [gs0_out1]; simp)
  have h11 : Path gs0 1 1 := .step h12 (by rw [gs0_out2]; simp)
  exact loopG_yes (i := 1) (by decide) (reachG_of gs0_ok (by decide) h11)
theorem gs0_no : reachG gs0 1 1 1 0 = false := by
  have : ¬ Path gs0 1 0 := fun h => by
    have q := path_in (S := [2, 1]) (by rw [gs0_out1]; simp) (by
      intro m hm x hx
      simp only [List.mem_cons, List.not_mem_nil, or_false] at hm
      rcases hm with rfl | rfl
      · rw [gs0_out2] at hx; simp at hx; simp [hx]
      · rw [gs0_out1] at hx; simp at hx; simp [hx]) h
    simp at q
  unfold reachG
  rw [reachB_is (b := false) ⟨(fun h => by cases h), (fun h => absurd h this)⟩]
  simp

end Go.Proofs.Ytjplkoglibagkaa.hexes

