/-
  slices.DeleteFunc at cells, for a predicate that reads no memory; the builtin clear on a list of cells.
  The program's LeastOf and CellsOf: the contracts of (impl.Cell).sharesKey, impl.LeastOf and impl.CellsOf.
  A statement of impl.recallLeast: its operations, and a theorem a step.
-/
import Derived.Test.YtbbagpnjjjohpaaJ27
import Derived.Laws.CopyRow
import Derived.Test.YtbbagpnjjjohpaaJ10
import Derived.Test.YtbbagpnjjjohpaaJ14
import Derived.Test.YtbbagpnjjjohpaaJ12

namespace Go.Proofs.Ytbbagpnjjjohpaa.hexes
open Go.RowKit

theorem mem_zeroCells {z : Array Value} {n : Nat} {u : Value} (h : u ∈ (Builtin.zeroCells z n).toList) (hz : 0 < z.size) (h1 : ∀ v ∈ z.toList, v.oneCell' = true) : u.oneCell' = true := by
  simp only [Builtin.zeroCells, Array.toList_map, List.mem_map] at h
  obtain ⟨i, _, rfl⟩ := h
  have hi : i % z.size < z.size := Nat.mod_lt _ hz
  rw [getElem!_pos z _ hi]
  exact h1 _ (by rw [← Array.getElem_toList]; exact List.getElem_mem _)

set_option maxRecDepth 100000 in
/-- clear(s[i:]) on a list of cells that the call owns. -/
theorem clear_ce {w : World} {B g n cap i : Nat} {us : List Ce} (ho : w.ownsRow B 38 4 (.slice (some ⟨g, 0, none⟩) n cap) n (ceCells us)) (hi : i < n) :
    ∃ w', (∀ ty, (Builtin.clear_ #[30] ty #[.slice (some ⟨g, i * 4, none⟩) (n - i) (cap - i)]).run Try.prog w = .ok (.tuple #[]) w') ∧ w'.ownsRow B 38 4 (.slice (some ⟨g, 0, none⟩) i cap) i (ceCells (us.take i)) ∧ w.grownBy w' (some g) := by
  obtain ⟨i0, hinfo, hz0, hz1, hz2⟩ := info_parts ceinfo
  rcases ho.2 with ⟨h0, _⟩ | ⟨g', cap', cur, hv, hb, hg, hnc, hml, hcs, htk⟩
  · simp at h0
  simp only [Value.slice.injEq, Option.some.injEq, Addr.mk.injEq, and_true, true_and] at hv
  obtain ⟨rfl, rfl⟩ := hv
  have hl : us.length = n := by have := ho.1; rw [ceCells_length] at this; omega
  obtain ⟨vs, hvs⟩ : ∃ vs, (Builtin.zeroCells (Value.agg #[.int .i64 0, .int .i64 0, .int .i64 0, .int .i64 0]).cells (n - i)).toList = vs := ⟨_, rfl⟩
  have hvl : vs.length = (n - i) * 4 := by
    rw [← hvs, Array.length_toList, size_zeroCells]
    rfl
  have hv1 : ∀ v ∈ vs, v.oneCell' = true := fun v h => by
    rw [← hvs] at h
    exact mem_zeroCells h (by decide) (by intro v hv; simp [Value.cells] at hv; subst hv; rfl)
  have hst := run_storeCells_at (P := Try.prog) g (i * 4) 38 vs 0 cur w hg (by rw [hcs, hvl]; omega) hv1
  rw [Nat.add_zero] at hst
  obtain ⟨nr, hnr⟩ : ∃ nr, (cur.toList.take (i * 4) ++ vs ++ cur.toList.drop (i * 4 + vs.length)) = nr := ⟨_, rfl⟩
  rw [hnr] at hst
  have e1 : ceCells us = ceCells (us.take i) ++ ceCells (us.drop i) := by rw [← ceCells_append, List.take_append_drop]
  have l1 : (ceCells (us.take i)).length = i * 4 := by rw [ceCells_length, List.length_take]; omega
  have l2 : (cur.toList.take (i * 4)).length = i * 4 := by rw [List.length_take, Array.length_toList]; omega
  have e2 : cur.toList.take (i * 4) = ceCells (us.take i) := by
    have : cur.toList.take (i * 4) = (cur.toList.take (n * 4)).take (i * 4) := by rw [List.take_take, Nat.min_eq_left (by omega)]
    rw [this, htk, e1, List.take_append_of_le_length (by omega), List.take_of_length_le (by omega)]
  have hs1 : nr.length = cap * 4 := by
    rw [← hnr, List.length_append, List.length_append, l2, hvl, List.length_drop, Array.length_toList, hcs]
    omega
  have ht1 : nr.take (i * 4) = ceCells (us.take i) := by
    rw [← hnr, List.append_assoc, List.take_append_of_le_length (by omega), e2, List.take_of_length_le (by omega)]
  refine ⟨w.setRow g nr.toArray, fun ty => ?_, ⟨l1, .inr ⟨g, cap, nr.toArray, rfl, hb, setRow_heap w g cur nr.toArray 38 (0, 0) hg, by omega, hml, by simpa using hs1, by simpa using ht1⟩⟩, ⟨rfl, rfl, rfl, by simp, fun k hk hkg => setRow_other w g k _ (fun e => hkg (by rw [e]))⟩⟩
  obtain ⟨m, hm⟩ : ∃ m, n - i = m + 1 := ⟨n - i - 1, by omega⟩
  have hzv : (zeroValue 38).run Try.prog w = .ok (.agg #[.int .i64 0, .int .i64 0, .int .i64 0, .int .i64 0]) w := rfl
  rw [hm] at hvs ⊢
  simp [Builtin.clear_, run_underlying (Try.underlying30), hzv, hvs, hst]

set_option maxRecDepth 100000 in
theorem slice_at (g n c k : Nat) (hk : k < n) (hc : n ≤ c) (w : World) : (Instr.slice 30 (.slice (some ⟨g, 0, none⟩) n c) (some (.int .i64 (k : Int))) none none).run Try.prog w = .ok (.slice (some ⟨g, k * 4, none⟩) (n - k) (c - k)) w := by
  have hs : (sizeOf (Try.prog.elem 30)).run Try.prog w = .ok 4 w := rfl
  rw [run_slice_l (P := Try.prog) w 30 (some ⟨g, 0, none⟩) n c Try.underlying30 .i64 (k : Int) (by omega) (by omega), hs]
  have h0 : ¬c = k := by omega
  simp [Result.andThen, sliced, h0, addr_add0]
set_option maxRecDepth 100000 in
theorem slice_cut (g n c k : Nat) (hk : k ≤ c) (w : World) : (Instr.slice 30 (.slice (some ⟨g, 0, none⟩) n c) none (some (.int .i64 (k : Int))) none).run Try.prog w = .ok (.slice (some ⟨g, 0, none⟩) k c) w := by
  have hs : (sizeOf (Try.prog.elem 30)).run Try.prog w = .ok 4 w := rfl
  rw [run_slice_h (P := Try.prog) w 30 (some ⟨g, 0, none⟩) n c Try.underlying30 .i64 (k : Int) (by omega) (by omega), hs]
  simp [Result.andThen, sliced, addr_add0]

/-- A predicate that reads no memory. -/
def PredAll (g : Nat) (bs lb : Array Value) (p : Ce → Bool) : Prop :=
  ∀ (W : World) (z0 z1 z2 z3 : Int), Calls Try.prog g (bs.push (.agg #[.int .i64 z0, .int .i64 z1, .int .i64 z2, .int .i64 z3]) ++ lb) W fun e w' => e = .returned (.bool (p (z0, z1, z2, z3))) ∧ Below W.heap.size W w'
theorem PredAll.pred {g : Nat} {bs lb : Array Value} {p : Ce → Bool} (h : PredAll g bs lb p) (w : World) : PredCe g bs lb p w := fun W z0 z1 z2 z3 hb =>
  (h W z0 z1 z2 z3).mono fun _ _ ⟨he, hb'⟩ => ⟨he, below_chain hb hb'⟩

/-- How the row stands when j have been looked at. -/
structure DelAt (p : Ce → Bool) (zs : List Ce) (j i : Nat) (us : List Ce) : Prop where
  len : us.length = zs.length
  kept : us.take i = (zs.take j).filter fun z => !p z
  num : i = ((zs.take j).filter fun z => !p z).length
  rest : us.drop j = zs.drop j
  lt : i < j
  le : j ≤ zs.length
theorem DelAt.start {p : Ce → Bool} {zs : List Ce} {k : Nat} (hk : k < zs.length) (ht : p zs[k] = true) (hf : ∀ z ∈ zs.take k, p z = false) : DelAt p zs (k + 1) k zs := by
  have e1 : (zs.take (k + 1)).filter (fun z => !p z) = zs.take k := by
    rw [List.take_succ_eq_append_getElem hk, List.filter_append, List.filter_eq_self.2 (fun z hz => by rw [hf z hz]; rfl)]
    simp [ht]
  exact ⟨rfl, e1.symm, by rw [e1, List.length_take]; omega, rfl, Nat.lt_succ_self k, hk⟩
theorem DelAt.at {p : Ce → Bool} {zs us : List Ce} {j i : Nat} (h : DelAt p zs j i us) (hj : j < zs.length) : us[j]'(by rw [h.len]; exact hj) = zs[j] := by
  have h1 : (us.drop j)[0]? = (zs.drop j)[0]? := by rw [h.rest]
  rw [List.getElem?_drop, List.getElem?_drop, Nat.add_zero, List.getElem?_eq_getElem (by rw [h.len]; exact hj), List.getElem?_eq_getElem hj] at h1
  exact Option.some.inj h1
theorem DelAt.skip {p : Ce → Bool} {zs us : List Ce} {j i : Nat} (h : DelAt p zs j i us) (hj : j < zs.length) (hp : p zs[j] = true) : DelAt p zs (j + 1) i us := by
  have e1 : (zs.take (j + 1)).filter (fun z => !p z) = (zs.take j).filter fun z => !p z := by rw [List.take_succ_eq_append_getElem hj, List.filter_append]; simp [hp]
  exact ⟨h.len, by rw [e1]; exact h.kept, by rw [e1]; exact h.num, by rw [← List.drop_drop, ← List.drop_drop, h.rest], by have := h.lt; omega, hj⟩
theorem DelAt.keep {p : Ce → Bool} {zs us : List Ce} {j i : Nat} (h : DelAt p zs j i us) (hj : j < zs.length) (hp : p zs[j] = false) : DelAt p zs (j + 1) (i + 1) (us.set i zs[j]) := by
  have e1 : (zs.take (j + 1)).filter (fun z => !p z) = ((zs.take j).filter fun z => !p z) ++ [zs[j]] := by rw [List.take_succ_eq_append_getElem hj, List.filter_append]; simp [hp]
  have hlt := h.lt
  have hi : i < us.length := by rw [h.len]; omega
  refine ⟨by rw [List.length_set, h.len], ?_, by rw [e1, List.length_append, ← h.num]; rfl, ?_, by omega, hj⟩
  · have h2 : i < (us.set i zs[j]).length := by rw [List.length_set]; exact hi
    rw [e1, ← h.kept, List.take_succ_eq_append_getElem h2, List.getElem_set_self, List.take_set, List.set_eq_of_length_le (by rw [List.length_take]; omega)]
  · rw [List.drop_set_of_lt (by omega), ← List.drop_drop, ← List.drop_drop, h.rest]
theorem DelAt.done {p : Ce → Bool} {zs us : List Ce} {i : Nat} (h : DelAt p zs zs.length i us) : us.take i = zs.filter (fun z => !p z) ∧ i = (zs.filter fun z => !p z).length := by
  have h1 := h.kept
  have h2 := h.num
  rw [List.take_of_length_le (Nat.le_refl _)] at h1 h2
  exact ⟨h1, h2⟩

set_option maxRecDepth 1000000 in
set_option maxHeartbeats 8000000 in
theorem delFn_any (f : Nat) (bs lb : Array Value) (eg : ∀ args w, (callFunc f args).run Try.prog w = .ok (.enter f args) w) (p : Ce → Bool) (hp : PredAll f bs lb p) (B g n cap : Nat) (zs : List Ce) (w : World)
    (ho : w.ownsRow B 38 4 (.slice (some ⟨g, 0, none⟩) n cap) n (ceCells zs)) (hn : n ≤ 4194304) :
    Calls Try.prog 105 #[.slice (some ⟨g, 0, none⟩) n cap, .func (.func f) bs lb] w fun e w' => ∃ m : Nat, e = .returned (.slice (some ⟨g, 0, none⟩) m cap) ∧ w'.ownsRow B 38 4 (.slice (some ⟨g, 0, none⟩) m cap) m (ceCells (zs.filter fun z => !p z)) ∧ w.grownBy w' (some g) := by
  have hl : zs.length = n := by have := ho.1; rw [ceCells_length] at this; omega
  obtain ⟨A', c', he, _, hs⟩ := Ces.of_own ho
  simp only [Value.slice.injEq, true_and] at he
  obtain ⟨rfl, rfl⟩ := he
  have hcap : n ≤ cap := own_capS ho
  have HO := Lib.hid ho
  have HL := Lib.hid hl
  have HP := Lib.hid hp
  have C := Lib.hid (idxFn_any f bs lb eg p n zs hl (some ⟨g, 0, none⟩) cap w hs (hp.pred w) hn)
  clear ho hl hs hp
  go_enter Try.func105, Try.ntmps105
  go_wp2_with fail
  refine C.out.mono ?_
  rintro e w1 ⟨r, rfl, hr, b1⟩
  have O1 := Lib.hid (own_below HO.out b1)
  have G1 := Lib.hid (grown_below (grown_refl w (some g)) b1)
  clear b1 C
  rcases hr.hit with ⟨k, hk, rfl, ht, hf⟩ | ⟨rfl, hf⟩
  · have D0 := Lib.hid (DelAt.start hk ht hf)
    have kn : k < n := by rw [← HL.out]; exact hk
    have d0 : ((k : Int) == -1) = false := beq_eq_false_iff_ne.2 (by omega)
    clear hk ht hf hr
    go_wp2
    go_loopw [5, 6] (fun a b wr => ∃ (i j : Nat) (us : List Ce), a = .int .i64 (i : Int) ∧ b = .int .i64 (j : Int) ∧ j ≤ n ∧ DelAt p zs j i us ∧ wr.ownsRow B 38 4 (.slice (some ⟨g, 0, none⟩) n cap) n (ceCells us) ∧ w.grownBy wr (some g)) (fun _ b _ => n - (intOf b).toNat)
    case atStart => exact ⟨k, k + 1, zs, rfl, by go_num, by omega, D0.out, O1.out, G1.out⟩
    case round =>
      obtain ⟨i, j, us, rfl, rfl, hjn, hd, ho, hg⟩ := hrel
      have HD := Lib.hid hd
      have HO2 := Lib.hid ho
      have HG := Lib.hid hg
      have ij : i < j := hd.lt
      clear hd ho hg D0 O1 G1 HO
      by_cases hlt : j < n
      · have l1 : j < zs.length := by rw [HL.out]; exact hlt
        obtain ⟨A', c', he, hul, hs⟩ := Ces.of_own HO2.out
        simp only [Value.slice.injEq, true_and] at he
        obtain ⟨rfl, rfl⟩ := he
        obtain ⟨b1, o1, p0, p1, p2, p3, hA1, xz, e0, e1, e2, e3⟩ := hs.at (show j < us.length by rw [hul]; exact hlt)
        simp only [Option.some.injEq, Addr.mk.injEq, and_true] at hA1
        obtain ⟨rfl, rfl⟩ := hA1
        rw [Nat.zero_add] at e0 e1 e2 e3
        have XZ := Lib.hid ((HD.out.at l1).symm.trans xz)
        have j0 : (0 : Int) ≤ (j : Int) := by omega
        have j1 : (j : Int) < (n : Int) := by omega
        have i0 : (0 : Int) ≤ (i : Int) := by omega
        have i1 : (i : Int) < (n : Int) := by omega
        obtain ⟨W, hW⟩ : ∃ z, wr.alloc (.cells #[.int .i64 p0, .int .i64 p1, .int .i64 p2, .int .i64 p3] 38) = z := ⟨_, rfl⟩
        have OW := Lib.hid (show W.ownsRow B 38 4 (.slice (some ⟨g, 0, none⟩) n cap) n (ceCells us) by rw [← hW]; exact HO2.out.alloc _)
        have GW := Lib.hid (show w.grownBy W (some g) by rw [← hW]; exact grown_below HG.out ((Below.refl _ _).alloc (Nat.le_refl _) _))
        have KW := Lib.hid (show Blk W wr.heap.size 38 #[.int .i64 p0, .int .i64 p1, .int .i64 p2, .int .i64 p3] by rw [← hW]; exact Blk.new _ _ _)
        have k0 : W.cell? ⟨wr.heap.size, 0, none⟩ = some (.int .i64 p0) := by rw [KW.out.cell]; rfl
        have k1 : W.cell? ⟨wr.heap.size, 1, none⟩ = some (.int .i64 p1) := by rw [KW.out.cell]; rfl
        have k2 : W.cell? ⟨wr.heap.size, 2, none⟩ = some (.int .i64 p2) := by rw [KW.out.cell]; rfl
        have k3 : W.cell? ⟨wr.heap.size, 3, none⟩ = some (.int .i64 p3) := by rw [KW.out.cell]; rfl
        have hcall := HP.out W p0 p1 p2 p3
        cases hq : p (p0, p1, p2, p3) with
        | true =>
          rw [hq] at hcall
          have HS := Lib.hid (HD.out.skip l1 (by rw [XZ.out]; exact hq))
          clear xz XZ l1 hq hs hul HD
          go_wp2_with fail
          clear hW e0 e1 e2 e3
          refine hcall.mono ?_
          rintro e w5 ⟨rfl, b5⟩
          have O5 := Lib.hid (own_below OW.out b5)
          have G5 := Lib.hid (grown_below GW.out b5)
          clear b5 hcall k0 k1 k2 k3
          go_wp2
          go_roundw
          case rel => exact ⟨i, j + 1, us, rfl, by go_num, by omega, HS.out, O5.out, G5.out⟩
          case measure => simp [intOf]; omega
        | false =>
          rw [hq] at hcall
          have HS := Lib.hid (HD.out.keep l1 (by rw [XZ.out]; exact hq))
          clear xz hq hs hul HD
          go_wp2_with fail
          clear hW e0 e1 e2 e3
          refine hcall.mono ?_
          rintro e w5 ⟨rfl, b5⟩
          have O5 := Lib.hid (own_below OW.out b5)
          have G5 := Lib.hid (grown_below GW.out b5)
          have K5 := KW.out.below b5
          have m0 : w5.cell? ⟨wr.heap.size, 0, none⟩ = some (.int .i64 p0) := by rw [K5.cell]; rfl
          have m1 : w5.cell? ⟨wr.heap.size, 1, none⟩ = some (.int .i64 p1) := by rw [K5.cell]; rfl
          have m2 : w5.cell? ⟨wr.heap.size, 2, none⟩ = some (.int .i64 p2) := by rw [K5.cell]; rfl
          have m3 : w5.cell? ⟨wr.heap.size, 3, none⟩ = some (.int .i64 p3) := by rw [K5.cell]; rfl
          have st := own_stored_ce O5.out i p0 p1 p2 p3
          rw [show ((p0, p1, p2, p3) : Ce) = _ from XZ.out.symm] at st
          have ST := Lib.hid st.1
          have GT := Lib.hid (grown_trans G5.out st.2)
          obtain ⟨u0, cu0⟩ : ∃ u, w5.cell? ⟨g, i * 4, none⟩ = some u := ⟨_, by rw [O5.out.cellAt (i * 4) (by omega)]; exact List.getElem?_eq_getElem (by rw [O5.out.1]; omega)⟩
          have fr0 := O5.out.frozenAt (i * 4)
          obtain ⟨u1, cu1⟩ : ∃ u, w5.cell? ⟨g, i * 4 + 1, none⟩ = some u := ⟨_, by rw [O5.out.cellAt (i * 4 + 1) (by omega)]; exact List.getElem?_eq_getElem (by rw [O5.out.1]; omega)⟩
          have fr1 := O5.out.frozenAt (i * 4 + 1)
          obtain ⟨u2, cu2⟩ : ∃ u, w5.cell? ⟨g, i * 4 + 2, none⟩ = some u := ⟨_, by rw [O5.out.cellAt (i * 4 + 2) (by omega)]; exact List.getElem?_eq_getElem (by rw [O5.out.1]; omega)⟩
          have fr2 := O5.out.frozenAt (i * 4 + 2)
          obtain ⟨u3, cu3⟩ : ∃ u, w5.cell? ⟨g, i * 4 + 3, none⟩ = some u := ⟨_, by rw [O5.out.cellAt (i * 4 + 3) (by omega)]; exact List.getElem?_eq_getElem (by rw [O5.out.1]; omega)⟩
          have fr3 := O5.out.frozenAt (i * 4 + 3)
          clear b5 hcall k0 k1 k2 k3 K5 st
          go_wp2
          go_roundw
          case rel => exact ⟨i + 1, j + 1, _, by go_num, by go_num, by omega, HS.out, ST.out, GT.out⟩
          case measure => simp [intOf]; omega
      · have hjl : j = zs.length := by rw [HL.out]; omega
        have hin : i < n := by omega
        have hlt2 : decide (j < n) = false := decide_eq_false hlt
        obtain ⟨w9, hcl, o9, g9⟩ := clear_ce HO2.out hin
        have q1 := slice_at g n cap i hin hcap
        have q2 := slice_cut g n cap i (by omega)
        have HF := Lib.hid (show us.take i = zs.filter (fun z => !p z) by have h := HD.out; rw [hjl] at h; exact h.done.1)
        have OF := Lib.hid (show w9.ownsRow B 38 4 (.slice (some ⟨g, 0, none⟩) i cap) i (ceCells (zs.filter fun z => !p z)) by rw [← HF.out]; exact o9)
        have GF := Lib.hid (grown_trans HG.out g9)
        clear hjl o9 g9 hlt
        go_wp2
        go_ret
        exact ⟨i, rfl, OF.out, GF.out⟩
  · have HF := Lib.hid (show zs.filter (fun z => !p z) = zs from List.filter_eq_self.2 (fun z hz => by rw [hf z hz]; rfl))
    clear hf hr
    go_wp2
    go_ret
    exact ⟨n, rfl, by rw [HF.out]; exact O1.out, G1.out⟩
end Go.Proofs.Ytbbagpnjjjohpaa.hexes

namespace Go.Proofs.Ytbbagpnjjjohpaa.hexes
open Go.RowKit

set_option maxRecDepth 100000 in
theorem shares_any (a0 a1 a2 a3 b0 b1 b2 b3 : Int) (w : World) :
    Calls Try.prog 91 #[.agg #[.int .i64 a0, .int .i64 a1, .int .i64 a2, .int .i64 a3], .agg #[.int .i64 b0, .int .i64 b1, .int .i64 b2, .int .i64 b3]] w fun e w' => e = .returned (.bool (decide (a0 = b0 ∧ a1 = b1 ∧ a2 = b2))) ∧ Below w.heap.size w w' := by
  have HB := Lib.hid (show Below w.heap.size w ((w.alloc (.cells #[.int .i64 a0, .int .i64 a1, .int .i64 a2, .int .i64 a3] 38)).alloc (.cells #[.int .i64 b0, .int .i64 b1, .int .i64 b2, .int .i64 b3] 38)) from ((Below.refl _ _).alloc (by simp) _).alloc (by simp) _)
  by_cases h0 : a0 = b0
  rotate_left
  · have d0 : (a0 == b0) = false := by simpa using h0
    have H := Lib.hid (show false = decide (a0 = b0 ∧ a1 = b1 ∧ a2 = b2) by simp [h0])
    clear h0
    go_enter Try.func91, Try.ntmps91
    go_wp2
    go_ret
    exact ⟨congrArg (fun b => Ending.returned (Value.bool b)) H.out, HB.out⟩
  have d0 : (a0 == b0) = true := by simpa using h0
  by_cases h1 : a1 = b1
  rotate_left
  · have d1 : (a1 == b1) = false := by simpa using h1
    have H := Lib.hid (show false = decide (a0 = b0 ∧ a1 = b1 ∧ a2 = b2) by simp [h1])
    clear h0 h1
    go_enter Try.func91, Try.ntmps91
    go_wp2
    go_ret
    exact ⟨congrArg (fun b => Ending.returned (Value.bool b)) H.out, HB.out⟩
  have d1 : (a1 == b1) = true := by simpa using h1
  by_cases h2 : a2 = b2
  · have d2 : (a2 == b2) = true := by simpa using h2
    have H := Lib.hid (show true = decide (a0 = b0 ∧ a1 = b1 ∧ a2 = b2) by simp [h0, h1, h2])
    clear h0 h1 h2
    go_enter Try.func91, Try.ntmps91
    go_wp2
    go_ret
    exact ⟨congrArg (fun b => Ending.returned (Value.bool b)) H.out, HB.out⟩
  · have d2 : (a2 == b2) = false := by simpa using h2
    have H := Lib.hid (show false = decide (a0 = b0 ∧ a1 = b1 ∧ a2 = b2) by simp [h2])
    clear h0 h1 h2
    go_enter Try.func91, Try.ntmps91
    go_wp2
    go_ret
    exact ⟨congrArg (fun b => Ending.returned (Value.bool b)) H.out, HB.out⟩
theorem shares_is {a0 a1 a2 a3 b0 b1 b2 b3 : Int} {r : Bool} (h : decide (a0 = b0 ∧ a1 = b1 ∧ a2 = b2) = r) (W : World) : Calls Try.prog 91 #[.agg #[.int .i64 a0, .int .i64 a1, .int .i64 a2, .int .i64 a3], .agg #[.int .i64 b0, .int .i64 b1, .int .i64 b2, .int .i64 b3]] W fun e w' => e = .returned (.bool r) ∧ Below W.heap.size W w' := by
  subst h; exact shares_any _ _ _ _ _ _ _ _ W

set_option maxRecDepth 100000 in
set_option maxHeartbeats 4000000 in
theorem implLeast_any (n : Nat) (zs : List Ce) (hz : zs.length = n) (A : Option Addr) (c : Nat) (o ep ky : Int) (w : World) (h1 : Ces w A zs) (hn : n ≤ 4194304) :
    Calls Try.prog 61 #[.slice A n c, .int .i64 o, .int .i64 ep, .int .i64 ky] w fun e w' => e = .returned (.tuple #[.int .i64 (leastC zs o ep ky).1, .bool (leastC zs o ep ky).2]) ∧ Below w.heap.size w w' := by
  have H1 := Lib.hid h1
  have HZ := Lib.hid hz
  clear h1 hz
  go_enter Try.func61, Try.ntmps61
  go_wp2
  go_loopw [11, 12, 21] (fun a b i wr => ∃ (k : Nat) (m : Int) (sm : Bool), k ≤ n ∧ i = .int .i64 k ∧ a = .int .i64 m ∧ b = .bool sm ∧ leastC (zs.take k) o ep ky = (m, sm) ∧ Below w.heap.size w wr ∧ XB w.heap.size o ep ky 0 wr) (fun _ _ i _ => n - (intOf i).toNat)
  case atStart => exact ⟨0, 0, false, Nat.zero_le _, rfl, rfl, rfl, rfl, (Below.refl _ _).alloc (Nat.le_refl _) _, ⟨by simp, by simp, by simp, by simp⟩⟩
  case round =>
    obtain ⟨k, m, sm, hk, rfl, rfl, rfl, ht, hb, hx⟩ := hrel
    have HT := Lib.hid ht
    have HB := Lib.hid hb
    have HX := Lib.hid hx
    clear ht hx
    by_cases hlt : k < n
    · have l1 : k < zs.length := by rw [HZ.out]; exact hlt
      obtain ⟨b1, o1, p0, p1, p2, p3, rfl, x1, e0, e1, e2, e3⟩ := (H1.out.below hb).at l1
      have i0 : (0 : Int) ≤ (k : Int) := by omega
      have i1 : (k : Int) < (n : Int) := by omega
      obtain ⟨W, hW⟩ : ∃ z, wr.alloc (.cells #[.int .i64 p0, .int .i64 p1, .int .i64 p2, .int .i64 p3] 38) = z := ⟨_, rfl⟩
      have BW := Lib.hid (show Below w.heap.size w W by rw [← hW]; exact hb.alloc hb.size _)
      have XW := Lib.hid (show XB w.heap.size o ep ky 0 W by rw [← hW]; exact HX.out.below ((Below.refl _ _).alloc (Nat.le_refl _) _))
      have KW := Lib.hid (show Blk W wr.heap.size 38 #[.int .i64 p0, .int .i64 p1, .int .i64 p2, .int .i64 p3] by rw [← hW]; exact Blk.new _ _ _)
      have k0 : W.cell? ⟨wr.heap.size, 0, none⟩ = some (.int .i64 p0) := by rw [KW.out.cell]; rfl
      have k1 : W.cell? ⟨wr.heap.size, 1, none⟩ = some (.int .i64 p1) := by rw [KW.out.cell]; rfl
      have k2 : W.cell? ⟨wr.heap.size, 2, none⟩ = some (.int .i64 p2) := by rw [KW.out.cell]; rfl
      have k3 : W.cell? ⟨wr.heap.size, 3, none⟩ = some (.int .i64 p3) := by rw [KW.out.cell]; rfl
      have c0 := XW.out.c0
      have c1 := XW.out.c1
      have c2 := XW.out.c2
      have c3 := XW.out.c3
      have ST := Lib.hid (show leastC (zs.take (k + 1)) o ep ky = leastStep o ep ky (m, sm) (p0, p1, p2, p3) by rw [least_step l1, HT.out, x1])
      clear hb x1 HT l1
      by_cases hs : p0 = o ∧ p1 = ep ∧ p2 = ky
      rotate_left
      · have HS := Lib.hid (show leastC (zs.take (k + 1)) o ep ky = (m, sm) by rw [ST.out]; simp [leastStep, keyC, hs])
        have E := Lib.hid (fun W => shares_is (a0 := p0) (a1 := p1) (a2 := p2) (a3 := p3) (b0 := o) (b1 := ep) (b2 := ky) (b3 := 0) (r := false) (decide_eq_false hs) W)
        clear ST hs
        go_wp2_with fail
        clear hW
        refine (E.out _).mono ?_
        rintro e w5 ⟨rfl, b5⟩
        have B5 := Lib.hid (below_chain BW.out b5)
        have X5 := Lib.hid (XW.out.below b5)
        have K5 := KW.out.below b5
        have m3 : w5.cell? ⟨wr.heap.size, 3, none⟩ = some (.int .i64 p3) := by rw [K5.cell]; rfl
        clear b5 E K5 k0 k1 k2 k3 c0 c1 c2 c3 e0 e1 e2 e3 BW XW KW HB HX W
        go_wp2
        go_roundw
        case rel => exact ⟨k + 1, m, sm, by omega, by go_num, rfl, rfl, HS.out, B5.out, X5.out⟩
        case measure => simp [intOf]; omega
      have E := Lib.hid (fun W => shares_is (a0 := p0) (a1 := p1) (a2 := p2) (a3 := p3) (b0 := o) (b1 := ep) (b2 := ky) (b3 := 0) (r := true) (decide_eq_true hs) W)
      cases sm with
      | false =>
        have HS := Lib.hid (show leastC (zs.take (k + 1)) o ep ky = (p3, true) by rw [ST.out]; simp [leastStep, keyC, hs])
        clear ST hs
        go_wp2_with fail
        clear hW
        refine (E.out _).mono ?_
        rintro e w5 ⟨rfl, b5⟩
        have B5 := Lib.hid (below_chain BW.out b5)
        have X5 := Lib.hid (XW.out.below b5)
        have K5 := KW.out.below b5
        have m3 : w5.cell? ⟨wr.heap.size, 3, none⟩ = some (.int .i64 p3) := by rw [K5.cell]; rfl
        clear b5 E K5 k0 k1 k2 k3 c0 c1 c2 c3 e0 e1 e2 e3 BW XW KW HB HX W
        go_wp2
        go_roundw
        case rel => exact ⟨k + 1, p3, true, by omega, by go_num, rfl, rfl, HS.out, B5.out, X5.out⟩
        case measure => simp [intOf]; omega
      | true =>
        by_cases h3 : p3 < m
        · have HS := Lib.hid (show leastC (zs.take (k + 1)) o ep ky = (p3, true) by rw [ST.out]; simp [leastStep, keyC, hs, h3])
          have d3 : decide (p3 < m) = true := decide_eq_true h3
          clear ST hs h3
          go_wp2_with fail
          clear hW
          refine (E.out _).mono ?_
          rintro e w5 ⟨rfl, b5⟩
          have B5 := Lib.hid (below_chain BW.out b5)
          have X5 := Lib.hid (XW.out.below b5)
          have K5 := KW.out.below b5
          have m3 : w5.cell? ⟨wr.heap.size, 3, none⟩ = some (.int .i64 p3) := by rw [K5.cell]; rfl
          clear b5 E K5 k0 k1 k2 k3 c0 c1 c2 c3 e0 e1 e2 e3 BW XW KW HB HX W
          go_wp2
          go_roundw
          case rel => exact ⟨k + 1, p3, true, by omega, by go_num, rfl, rfl, HS.out, B5.out, X5.out⟩
          case measure => simp [intOf]; omega
        · have HS := Lib.hid (show leastC (zs.take (k + 1)) o ep ky = (m, true) by rw [ST.out]; simp [leastStep, keyC, hs, h3])
          have d3 : decide (p3 < m) = false := decide_eq_false h3
          clear ST hs h3
          go_wp2_with fail
          clear hW
          refine (E.out _).mono ?_
          rintro e w5 ⟨rfl, b5⟩
          have B5 := Lib.hid (below_chain BW.out b5)
          have X5 := Lib.hid (XW.out.below b5)
          have K5 := KW.out.below b5
          have m3 : w5.cell? ⟨wr.heap.size, 3, none⟩ = some (.int .i64 p3) := by rw [K5.cell]; rfl
          clear b5 E K5 k0 k1 k2 k3 c0 c1 c2 c3 e0 e1 e2 e3 BW XW KW HB HX W
          go_wp2
          go_roundw
          case rel => exact ⟨k + 1, m, true, by omega, by go_num, rfl, rfl, HS.out, B5.out, X5.out⟩
          case measure => simp [intOf]; omega
    · have hfin : leastC zs o ep ky = (m, sm) := by rw [← HT.out, least_all (by rw [HZ.out]; omega)]
      have HF := Lib.hid hfin
      clear hb hfin
      go_wp2
      exact bodyPost_ret (v := .tuple #[.int .i64 m, .bool sm]) (by simp [results, Try.results61, go_sem]) rfl ⟨by rw [HF.out], HB.out⟩
end Go.Proofs.Ytbbagpnjjjohpaa.hexes

namespace Go.Proofs.Ytbbagpnjjjohpaa.hexes
open Go.RowKit

def findJ4 (n : Nat) : Code → Option Code
  | .region id ops d => if id = n then some (.region id ops d) else none
  | .seq a b => match findJ4 n a with
    | some c => some c
    | none => findJ4 n b
  | .block _ c => findJ4 n c
  | .scope c => findJ4 n c
  | .loop c => findJ4 n c
  | .cond _ a b => match findJ4 n a with
    | some c => some c
    | none => findJ4 n b
  | _ => none
def opsOfJ4 : Option Code → Array Oper
  | some (.region _ ops _) => ops
  | _ => #[]
noncomputable def opsJ4 : Array Oper := opsOfJ4 (Try.f79.body.bind (findJ4 4))
def schJ4 : List Nat := [0, 2, 3, 1, 4, 5]
def LJ4 (k : Nat) : Array Bool := ((List.range 6).map fun i => (schJ4.take k).contains i).toArray
theorem noselJ4 : Region.noSelect opsJ4 = true := by kernel_rfl
def qJ4_0 : Oper := { dst := some 29, op := Op.move (Operand.tmp 0), type := 30, pos := "l09_memory.go:108", after := #[], guard := none }
theorem hJ4_0 : opsJ4[0]? = some qJ4_0 := by kernel_rfl
theorem lJ4_0 : (LJ4 0).setIfInBounds 0 true = LJ4 1 := by kernel_rfl
theorem tJ4_0 : RegT Try.prog opsJ4 qJ4_0 (some 29) 5 (LJ4 0) (LJ4 1) := regT hJ4_0 rfl noselJ4 (by kernel_rfl) (by kernel_rfl) lJ4_0
def qJ4_2 : Oper := { dst := some 31, op := Op.load 38 (Operand.tmp 3), type := 38, pos := "l09_memory.go:108", after := #[], guard := none }
theorem hJ4_2 : opsJ4[2]? = some qJ4_2 := by kernel_rfl
theorem lJ4_1 : (LJ4 1).setIfInBounds 2 true = LJ4 2 := by kernel_rfl
theorem tJ4_1 : RegT Try.prog opsJ4 qJ4_2 (some 31) 4 (LJ4 1) (LJ4 2) := regT hJ4_2 rfl noselJ4 (by kernel_rfl) (by kernel_rfl) lJ4_1
def qJ4_3 : Oper := { dst := some 32, op := Op.makeFunc (Fn.func 91) #[Operand.tmp 31] #[], type := 125, pos := "l09_memory.go:108", after := #[{ on := 2, ground := Ground.data }], guard := none }
theorem hJ4_3 : opsJ4[3]? = some qJ4_3 := by kernel_rfl
theorem lJ4_2 : (LJ4 2).setIfInBounds 3 true = LJ4 3 := by kernel_rfl
theorem tJ4_2 : RegT Try.prog opsJ4 qJ4_3 (some 32) 3 (LJ4 2) (LJ4 3) := regT hJ4_3 rfl noselJ4 (by kernel_rfl) (by kernel_rfl) lJ4_2
def qJ4_1 : Oper := { dst := some 30, op := Op.call { callee := Callee.value (Operand.func 78), args := #[Operand.tmp 29], argTypes := #[30] }, type := 30, pos := "l09_memory.go:108", after := #[{ on := 0, ground := Ground.data }], guard := none }
theorem hJ4_1 : opsJ4[1]? = some qJ4_1 := by kernel_rfl
theorem lJ4_3 : (LJ4 3).setIfInBounds 1 true = LJ4 4 := by kernel_rfl
theorem cJ4_3 : RegC Try.prog opsJ4 qJ4_1 (some 30) 2 (LJ4 3) (LJ4 4) := regC hJ4_1 rfl (by kernel_rfl) lJ4_3
def qJ4_4 : Oper := { dst := some 33, op := Op.call { callee := Callee.value (Operand.func 105), args := #[Operand.tmp 30, Operand.tmp 32], argTypes := #[30, 125] }, type := 30, pos := "l09_memory.go:108", after := #[{ on := 1, ground := Ground.data }, { on := 3, ground := Ground.data }, { on := 1, ground := Ground.chain }], guard := none }
theorem hJ4_4 : opsJ4[4]? = some qJ4_4 := by kernel_rfl
theorem lJ4_4 : (LJ4 4).setIfInBounds 4 true = LJ4 5 := by kernel_rfl
theorem cJ4_4 : RegC Try.prog opsJ4 qJ4_4 (some 33) 1 (LJ4 4) (LJ4 5) := regC hJ4_4 rfl (by kernel_rfl) lJ4_4
def qJ4_5 : Oper := { dst := some 8, op := Op.assign (Operand.tmp 33), type := 30, pos := "l09_memory.go:108", after := #[{ on := 4, ground := Ground.data }, { on := 4, ground := Ground.chain }, { on := 0, ground := Ground.phase }, { on := 1, ground := Ground.phase }, { on := 2, ground := Ground.phase }, { on := 3, ground := Ground.phase }, { on := 4, ground := Ground.phase }], guard := none }
theorem hJ4_5 : opsJ4[5]? = some qJ4_5 := by kernel_rfl
theorem lJ4_5 : (LJ4 5).setIfInBounds 5 true = LJ4 6 := by kernel_rfl
theorem tJ4_5 : RegT Try.prog opsJ4 qJ4_5 (some 8) 0 (LJ4 5) (LJ4 6) := regT hJ4_5 rfl noselJ4 (by kernel_rfl) (by kernel_rfl) lJ4_5
end Go.Proofs.Ytbbagpnjjjohpaa.hexes

