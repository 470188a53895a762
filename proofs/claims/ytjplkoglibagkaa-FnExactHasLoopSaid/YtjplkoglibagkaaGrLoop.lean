/-
  HasLoop on both sides.
-/
import Derived.Test.YtjplkoglibagkaaGrReachI
namespace Go.Proofs.Ytjplkoglibagkaa.hexes
open Go.RowKit

/-- Whether some node reaches itself. -/
noncomputable def loopG (gs : List Nd) (wk cp : Int) : Bool := (List.range gs.length).any fun i => reachG gs wk cp (i : Int) (i : Int)
theorem loopG_yes {gs : List Nd} {wk cp : Int} {i : Nat} (hi : i < gs.length) (h : reachG gs wk cp (i : Int) (i : Int) = true) : loopG gs wk cp = true := by
  unfold loopG
  rw [List.any_eq_true]
  exact ⟨i, by simpa using hi, h⟩
theorem loopG_no {gs : List Nd} {wk cp : Int} (h : ∀ i, i < gs.length → reachG gs wk cp (i : Int) (i : Int) = false) : loopG gs wk cp = false := by
  unfold loopG
  rw [List.any_eq_false]
  intro i hi
  rw [h i (by simpa using hi)]
  decide

set_option maxRecDepth 100000 in
set_option maxHeartbeats 2000000 in
theorem specLoop_is {gs : List Nd} {wk cp : Int} {r : Bool} (hr : loopG gs wk cp = r) {n : Nat} (hl : gs.length = n) (hs : ∀ x ∈ gs, x.2.2.2.length ≤ 1048576) (hn : n ≤ 1048576) (A : Option Addr) (c : Nat) (w : World) (h : Nds w A gs) :
    Calls Try.prog 18 #[.agg #[.slice A n c, .int .i64 wk, .int .i64 cp]] w fun e w' => e = .returned (.bool r) ∧ Below w.heap.size w w' := by
  obtain ⟨W, hW⟩ : ∃ W, w.alloc (.cells #[.slice A n c, .int .i64 wk, .int .i64 cp] 26) = W := ⟨_, rfl⟩
  have BW := Lib.hid (show Below w.heap.size w W by rw [← hW]; exact (Below.refl w.heap.size w).alloc (Nat.le_refl _) _)
  have KW := Lib.hid (show Blk W w.heap.size 26 #[.slice A n c, .int .i64 wk, .int .i64 cp] by rw [← hW]; exact Blk.new _ _ _)
  have H1 := Lib.hid (h.below BW.out)
  have E := Lib.hid (fun (i : Nat) (b : Bool) (hb : reachG gs wk cp (i : Int) (i : Int) = b) W (hW : Nds W A gs) => specReach_is hb hl hs hn A c W hW)
  have HR := Lib.hid hr
  have HL := Lib.hid hl
  have x0 : W.cell? ⟨w.heap.size, 0, none⟩ = some (.slice A n c) := by rw [KW.out.cell]; rfl
  clear hr h hs hl
  go_enter Try.func18, Try.ntmps18
  go_wp2
  clear x0 hW
  go_loopw [3] (fun i wr => ∃ k : Nat, k ≤ n ∧ i = .int .i64 (k : Int) ∧ (∀ j, j < k → reachG gs wk cp (j : Int) (j : Int) = false) ∧ Below W.heap.size W wr) (fun i _ => n - (intOf i).toNat)
  case atStart => exact ⟨0, Nat.zero_le _, rfl, fun j hj => absurd hj (Nat.not_lt_zero _), Below.refl _ _⟩
  case round =>
    obtain ⟨k, hk, rfl, ht, hb⟩ := hrel
    have HT := Lib.hid ht
    have HB := Lib.hid hb
    have NR := Lib.hid (H1.out.below hb)
    have KR := Lib.hid (KW.out.below hb)
    have x0 : wr.cell? ⟨w.heap.size, 0, none⟩ = some (.slice A n c) := by rw [KR.out.cell]; rfl
    have x1 : wr.cell? ⟨w.heap.size, 1, none⟩ = some (.int .i64 wk) := by rw [KR.out.cell]; rfl
    have x2 : wr.cell? ⟨w.heap.size, 2, none⟩ = some (.int .i64 cp) := by rw [KR.out.cell]; rfl
    clear ht hb
    by_cases hlt : k < n
    · have i0 : (0 : Int) ≤ (k : Int) := by omega
      have i1 : (k : Int) < (n : Int) := by omega
      cases hq : reachG gs wk cp (k : Int) (k : Int) with
      | true =>
        have C := Lib.hid (E.out k true hq wr NR.out)
        have HE := Lib.hid (show r = true by rw [← HR.out]; exact loopG_yes (by rw [HL.out]; exact hlt) hq)
        clear hq
        go_wp2_with fail
        refine C.out.mono ?_
        rintro e w2 ⟨rfl, hb⟩
        have B2 := Lib.hid (below_chain HB.out hb)
        clear hb x0 x1 x2
        go_wp2
        go_ret
        exact ⟨congrArg (fun b => Ending.returned (Value.bool b)) HE.out.symm, below_chain BW.out B2.out⟩
      | false =>
        have C := Lib.hid (E.out k false hq wr NR.out)
        have HT2 := Lib.hid (show ∀ j, j < k + 1 → reachG gs wk cp (j : Int) (j : Int) = false from fun j hj => by
          by_cases e : j = k
          · subst e; exact hq
          · exact HT.out j (by omega))
        clear hq
        go_wp2_with fail
        refine C.out.mono ?_
        rintro e w2 ⟨rfl, hb⟩
        have B2 := Lib.hid (below_chain HB.out hb)
        clear hb x0 x1 x2
        go_wp2
        go_roundw
        case rel => exact ⟨k + 1, by omega, by go_num, HT2.out, B2.out⟩
        case measure => simp [intOf]; omega
    · have HE := Lib.hid (show r = false by rw [← HR.out]; exact loopG_no (fun j hj => HT.out j (by have := HL.out; omega)))
      go_wp2
      go_ret
      exact ⟨congrArg (fun b => Ending.returned (Value.bool b)) HE.out.symm, below_chain BW.out HB.out⟩

set_option maxRecDepth 100000 in
set_option maxHeartbeats 2000000 in
theorem implLoop_is {gs : List Nd} {wk cp : Int} {r : Bool} (hr : loopG gs wk cp = r) {n : Nat} (hl : gs.length = n) (hs : ∀ x ∈ gs, x.2.2.2.length ≤ 1048576) (hn : n ≤ 1048576) (A : Option Addr) (c : Nat) (w : World) (h : Nds w A gs) :
    Calls Try.prog 17 #[.agg #[.slice A n c, .int .i64 wk, .int .i64 cp]] w fun e w' => e = .returned (.bool r) ∧ Below w.heap.size w w' := by
  obtain ⟨W, hW⟩ : ∃ W, w.alloc (.cells #[.slice A n c, .int .i64 wk, .int .i64 cp] 26) = W := ⟨_, rfl⟩
  have BW := Lib.hid (show Below w.heap.size w W by rw [← hW]; exact (Below.refl w.heap.size w).alloc (Nat.le_refl _) _)
  have KW := Lib.hid (show Blk W w.heap.size 26 #[.slice A n c, .int .i64 wk, .int .i64 cp] by rw [← hW]; exact Blk.new _ _ _)
  have H1 := Lib.hid (h.below BW.out)
  have E := Lib.hid (fun (i : Nat) (b : Bool) (hb : reachG gs wk cp (i : Int) (i : Int) = b) W (hW : Nds W A gs) => implReach_is hb hl hs hn A c W hW)
  have HR := Lib.hid hr
  have HL := Lib.hid hl
  have x0 : W.cell? ⟨w.heap.size, 0, none⟩ = some (.slice A n c) := by rw [KW.out.cell]; rfl
  clear hr h hs hl
  go_enter Try.func17, Try.ntmps17
  go_wp2
  clear x0 hW
  go_loopw [7] (fun i wr => ∃ k : Nat, k ≤ n ∧ i = .int .i64 (k : Int) ∧ (∀ j, j < k → reachG gs wk cp (j : Int) (j : Int) = false) ∧ Below W.heap.size W wr) (fun i _ => n - (intOf i).toNat)
  case atStart => exact ⟨0, Nat.zero_le _, rfl, fun j hj => absurd hj (Nat.not_lt_zero _), Below.refl _ _⟩
  case round =>
    obtain ⟨k, hk, rfl, ht, hb⟩ := hrel
    have HT := Lib.hid ht
    have HB := Lib.hid hb
    have NR := Lib.hid (H1.out.below hb)
    have KR := Lib.hid (KW.out.below hb)
    have x0 : wr.cell? ⟨w.heap.size, 0, none⟩ = some (.slice A n c) := by rw [KR.out.cell]; rfl
    have x1 : wr.cell? ⟨w.heap.size, 1, none⟩ = some (.int .i64 wk) := by rw [KR.out.cell]; rfl
    have x2 : wr.cell? ⟨w.heap.size, 2, none⟩ = some (.int .i64 cp) := by rw [KR.out.cell]; rfl
    clear ht hb
    by_cases hlt : k < n
    · have i0 : (0 : Int) ≤ (k : Int) := by omega
      have i1 : (k : Int) < (n : Int) := by omega
      cases hq : reachG gs wk cp (k : Int) (k : Int) with
      | true =>
        have C := Lib.hid (E.out k true hq wr NR.out)
        have HE := Lib.hid (show r = true by rw [← HR.out]; exact loopG_yes (by rw [HL.out]; exact hlt) hq)
        clear hq
        go_wp2_with fail
        refine C.out.mono ?_
        rintro e w2 ⟨rfl, hb⟩
        have B2 := Lib.hid (below_chain HB.out hb)
        clear hb x0 x1 x2
        go_wp2
        go_ret
        exact ⟨congrArg (fun b => Ending.returned (Value.bool b)) HE.out.symm, below_chain BW.out B2.out⟩
      | false =>
        have C := Lib.hid (E.out k false hq wr NR.out)
        have HT2 := Lib.hid (show ∀ j, j < k + 1 → reachG gs wk cp (j : Int) (j : Int) = false from fun j hj => by
          by_cases e : j = k
          · subst e; exact hq
          · exact HT.out j (by omega))
        clear hq
        go_wp2_with fail
        refine C.out.mono ?_
        rintro e w2 ⟨rfl, hb⟩
        have B2 := Lib.hid (below_chain HB.out hb)
        clear hb x0 x1 x2
        go_wp2
        go_roundw
        case rel => exact ⟨k + 1, by omega, by go_num, HT2.out, B2.out⟩
        case measure => simp [intOf]; omega
    · have HE := Lib.hid (show r = false by rw [← HR.out]; exact loopG_no (fun j hj => HT.out j (by have := HL.out; omega)))
      go_wp2
      go_ret
      exact ⟨congrArg (fun b => Ending.returned (Value.bool b)) HE.out.symm, below_chain BW.out HB.out⟩

end Go.Proofs.Ytjplkoglibagkaa.hexes
