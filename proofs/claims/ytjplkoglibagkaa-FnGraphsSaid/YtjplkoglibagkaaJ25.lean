/-
  impl.Reaches; HasLoop on both sides.
-/
import Derived.Test.YtjplkoglibagkaaJ22
import Derived.Test.YtjplkoglibagkaaJ23
import Derived.Test.YtjplkoglibagkaaJ24

namespace Go.Proofs.Ytjplkoglibagkaa.hexes
open Go.RowKit

def PN (gs : List Nd) (a t : Nat) : Prop := Path gs (a : Int) (t : Int)

theorem outsN_path {gs : List Nd} (he : Edges gs) (a x : Nat) (h : x ∈ outsN gs a) : PN gs a x := by
  unfold outsN at h
  obtain ⟨z, hz, rfl⟩ := List.mem_map.1 h
  have := he _ _ hz
  unfold PN
  rw [Int.toNat_of_nonneg this.1]
  exact .edge hz
theorem dfs_path {gs : List Nd} (he : Edges gs) {f : Nat} {r' : Nat → Bool} (h : Dfs (outsN gs) (PN gs) (fun _ => false) f (outsN gs f).length r') (t : Nat) : r' t = true ↔ Path gs (f : Int) (t : Int) := by
  refine ⟨fun ht => ?_, fun hp => ?_⟩
  · rcases h.only t ht with h1 | h1
    · cases h1
    · exact h1
  · have key : ∀ x, Path gs (f : Int) x → r' x.toNat = true := by
      intro x hx
      induction hx with
      | edge h1 => exact h.here _ (by rw [List.take_length]; exact List.mem_map.2 ⟨_, h1, rfl⟩)
      | step hm h1 ih =>
        have b := path_bd he hm
        refine h.new _ ih rfl _ ?_
        unfold outsN
        rw [Int.toNat_of_nonneg b.1]
        exact List.mem_map.2 ⟨_, h1, rfl⟩
    simpa using key _ hp

set_option maxRecDepth 100000 in
set_option maxHeartbeats 4000000 in
theorem implReach_is {gs : List Nd} {wk cp f t : Int} {r : Bool} (hr : reachG gs wk cp f t = r) {n : Nat} (hl : gs.length = n) (hs : ∀ x ∈ gs, x.2.2.2.length ≤ 1048576) (hn : n ≤ 1048576) (A : Option Addr) (c : Nat) (w : World) (h : Nds w A gs) :
    Calls Try.prog 24 #[.agg #[.slice A n c, .int .i64 wk, .int .i64 cp], .int .i64 f, .int .i64 t] w fun e w' => e = .returned (.bool r) ∧ Below w.heap.size w w' := by
  obtain ⟨W, hW⟩ : ∃ W, w.alloc (.cells #[.slice A n c, .int .i64 wk, .int .i64 cp] 26) = W := ⟨_, rfl⟩
  have BW := Lib.hid (show Below w.heap.size w W by rw [← hW]; exact (Below.refl w.heap.size w).alloc (Nat.le_refl _) _)
  have KW := Lib.hid (show Blk W w.heap.size 26 #[.slice A n c, .int .i64 wk, .int .i64 cp] by rw [← hW]; exact Blk.new _ _ _)
  have H1 := Lib.hid (h.below BW.out)
  have x0 : W.cell? ⟨w.heap.size, 0, none⟩ = some (.slice A n c) := by rw [KW.out.cell]; rfl
  have x1 : W.cell? ⟨w.heap.size, 1, none⟩ = some (.int .i64 wk) := by rw [KW.out.cell]; rfl
  have x2 : W.cell? ⟨w.heap.size, 2, none⟩ = some (.int .i64 cp) := by rw [KW.out.cell]; rfl
  obtain ⟨o, ho⟩ : ∃ o, okGr gs dec1 wk cp = o := ⟨_, rfl⟩
  obtain ⟨q, hq⟩ : ∃ q, decide (0 ≤ f ∧ f ≤ (n : Int) - 1) = q := ⟨_, rfl⟩
  obtain ⟨q2, hq2⟩ : ∃ q, decide (0 ≤ t ∧ t ≤ (n : Int) - 1) = q := ⟨_, rfl⟩
  have EO := Lib.hid (implGrOk_any gs wk cp A n c hl hs hn ho W H1.out)
  have EQ := Lib.hid (fun W => hasNode_is hq A c hn W)
  have EQ2 := Lib.hid (fun W => hasNode_is hq2 A c hn W)
  have HR := Lib.hid (show r = (o && q && reachB gs f t) by rw [← hr]; unfold reachG; rw [ho, hl, hq])
  have HO := Lib.hid ho
  have HQ := Lib.hid hq
  have HQ2 := Lib.hid hq2
  have HL := Lib.hid hl
  have HS := Lib.hid hs
  clear hr h hs hq hq2 ho hl
  cases o with
  | false =>
    have HE := Lib.hid (show r = false by rw [HR.out]; rfl)
    go_enter Try.func24, Try.ntmps24
    go_wp2_with fail
    refine EO.out.mono ?_
    rintro e w1 ⟨rfl, hb⟩
    have B1 := Lib.hid (below_chain BW.out hb)
    clear hb x0 x1 x2 hW
    go_wp2
    go_ret
    exact ⟨congrArg (fun b => Ending.returned (Value.bool b)) HE.out.symm, B1.out⟩
  | true =>
  go_enter Try.func24, Try.ntmps24
  go_wp2_with fail
  refine EO.out.mono ?_
  rintro e w1 ⟨rfl, hb⟩
  have B1 := Lib.hid (below_chain BW.out hb)
  have K1 := Lib.hid (KW.out.below hb)
  have N1 := Lib.hid (H1.out.below hb)
  clear hb x0 x1 x2 hW
  have x0 : w1.cell? ⟨w.heap.size, 0, none⟩ = some (.slice A n c) := by rw [K1.out.cell]; rfl
  cases q with
  | false =>
    have HE := Lib.hid (show r = false by rw [HR.out]; rfl)
    go_wp2_with fail
    refine (EQ.out _).mono ?_
    rintro e w2 ⟨rfl, rfl⟩
    go_wp2
    go_ret
    exact ⟨congrArg (fun b => Ending.returned (Value.bool b)) HE.out.symm, B1.out⟩
  | true =>
  have ED := Lib.hid (edges_of HO.out)
  cases q2 with
  | false =>
    have NP : ¬ Path gs f t := fun hp => by
      have h1 := path_bd ED.out hp
      have h2 := of_decide_eq_false HQ2.out
      have h3 := HL.out
      omega
    have HE := Lib.hid (show r = false by
      have e := reachB_is (gs := gs) (a := f) (t := t) (b := false) ⟨(fun h => by cases h), (fun hp => absurd hp NP)⟩
      rw [HR.out, e]
      rfl)
    clear NP
    go_wp2_with fail
    refine (EQ.out _).mono ?_
    rintro e w2 ⟨rfl, rfl⟩
    go_wp2_with fail
    refine (EQ2.out _).mono ?_
    rintro e w2 ⟨rfl, rfl⟩
    go_wp2
    go_ret
    exact ⟨congrArg (fun b => Ending.returned (Value.bool b)) HE.out.symm, B1.out⟩
  | true =>
    obtain ⟨i, rfl⟩ : ∃ i : Nat, f = (i : Int) := ⟨f.toNat, by have := of_decide_eq_true HQ.out; omega⟩
    obtain ⟨j, rfl⟩ : ∃ j : Nat, t = (j : Int) := ⟨t.toNat, by have := of_decide_eq_true HQ2.out; omega⟩
    have hi : i < n := by have := of_decide_eq_true HQ.out; omega
    have hj : j < n := by have := of_decide_eq_true HQ2.out; omega
    have EV := Lib.hid (vertices_any ED.out HL.out hn HS.out A c w1 N1.out)
    go_wp2_with fail
    refine (EQ.out _).mono ?_
    rintro e w2 ⟨rfl, rfl⟩
    go_wp2_with fail
    refine (EQ2.out _).mono ?_
    rintro e w2 ⟨rfl, rfl⟩
    go_wp2_with fail
    refine EV.out.mono ?_
    rintro e w3 ⟨rfl, T, nx, hL, hb⟩
    have B3 := Lib.hid (below_chain B1.out hb)
    have L3 := Lib.hid hL
    have SZ := Lib.hid hb.size
    have t0 : w3.cell? ⟨w1.heap.size, i, none⟩ = some (.pointer (some ⟨T + i, 0, none⟩)) := by
      rw [hL.top.cellAt i (by omega), ptrs_at _ _ i (by simpa using hi)]
      simp
    have lenN : ∀ a, (outsN gs a).length ≤ 1048576 := fun a => by
      by_cases ha : a < gs.length
      · have := HS.out _ (List.getElem_mem ha)
        unfold outsN
        rw [List.length_map, outsAt_of rfl ha]
        exact this
      · rw [outsN_out (by omega)]
        exact Nat.zero_le _
    have EG := Lib.hid (reachOn_any (P := PN gs) (fun a x h => outsN_path ED.out a x h) (fun a m t h1 h2 => path_trans h1 h2) lenN _ (fun _ => false) w3 i rfl hi (by have := hL.sz; omega) hL.vx)
    have i0 : (0 : Int) ≤ (i : Int) := by omega
    have i1 : (i : Int) < (n : Int) := by omega
    have j0 : (0 : Int) ≤ (j : Int) := by omega
    have j1 : (j : Int) < (n : Int) := by omega
    clear hL hb x0 lenN
    go_wp2_with fail
    refine EG.out.mono ?_
    rintro e w4 ⟨rfl, r', hv, hd, hb, hs4⟩
    have u0 : w4.cell? ⟨w1.heap.size, j, none⟩ = some (.pointer (some ⟨T + j, 0, none⟩)) := by
      have st := L3.out.st
      have lt := own_lt L3.out.top
      have e : w4.cell? ⟨w1.heap.size, j, none⟩ = w3.cell? ⟨w1.heap.size, j, none⟩ := hb.cell (p := ⟨w1.heap.size, j, none⟩) st
      rw [e, L3.out.top.cellAt j (by omega), ptrs_at _ _ j (by simpa using hj)]
      simp
    have u1 : w4.cell? ⟨T + j, 1, none⟩ = some (.bool (r' j)) := by rw [(hv.blk j hj).cell]; rfl
    have HE := Lib.hid (show r = r' j by
      rw [HR.out, reachB_is (b := r' j) (dfs_path ED.out hd j)]
      rfl)
    have B4 := Lib.hid (show Below w.heap.size w w4 from B3.out.trans (hb.mono (by have := B1.out.size; have := L3.out.st; omega)))
    clear hv hd hb hs4 t0
    go_wp2
    go_ret
    exact ⟨congrArg (fun b => Ending.returned (Value.bool b)) HE.out.symm, B4.out⟩

end Go.Proofs.Ytjplkoglibagkaa.hexes

