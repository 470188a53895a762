/-
  What Fixpoint returns is closed, and no worse than what it began with.
  Chapter 11's loops on lists, round by round.
  Records: the contracts of the laws' eqRecord and toRecord.
  Lists of Count in memory: how they lie there, and the contracts of the laws' own functions on them.
-/
import Derived.Test.YtbbagpnjjjohpaaJ12
import Derived.Test.YtbbagpnjjjohpaaJ11
import Derived.Test.YtbbagpnjjjohpaaJ0
import Derived.Test.YtbbagpnjjjohpaaJ2

namespace Go.Proofs.Ytbbagpnjjjohpaa.hexes

def outC (gs : List Nd) (x : Ce) : Bool := hasB gs x.1 && decide ((nodeAt gs x.1).1 = 8)
def outsC (gs : List Nd) (cells : List Ce) : List Ce := cells.filter (outC gs)

end Go.Proofs.Ytbbagpnjjjohpaa.hexes

namespace Go.Proofs.Ytbbagpnjjjohpaa.hexes

theorem take_last {α : Type} {zs : List α} {j : Nat} (h : j < zs.length) : zs.take (j + 1) = zs.take j ++ [zs[j]] := by rw [List.take_succ_eq_append_getElem h]
/-- The cells that Fixpoint begins with. -/
def startB (ep : Int) (r : Rc) : Bool := decide (r.2.1.1 = ep) && okRc r
def startL (ep : Int) (rs : List Rc) : List Ce := (rs.filter (startB ep)).map fun r => (0, ep, r.2.2.1, r.2.2.2)
theorem start_step {ep : Int} {rs : List Rc} {j : Nat} (h : j < rs.length) : startL ep (rs.take (j + 1)) = startL ep (rs.take j) ++ (if startB ep rs[j] = true then [(0, ep, rs[j].2.2.1, rs[j].2.2.2)] else []) := by
  unfold startL
  rw [take_last h, List.filter_append, List.map_append]
  congr 1
  cases hb : startB ep rs[j] <;> simp [hb]
theorem start_len (ep : Int) (rs : List Rc) : (startL ep rs).length ≤ rs.length := by
  unfold startL
  rw [List.length_map]
  exact List.length_filter_le _ _
theorem start_ep {ep : Int} {rs : List Rc} : ∀ x ∈ startL ep rs, x.2.1 = ep := by
  intro x hx
  unfold startL at hx
  rw [List.mem_map] at hx
  obtain ⟨r, _, rfl⟩ := hx
  rfl
theorem fix_start (gs : List Nd) (wk cp ep : Int) (rs : List Rc) : ∃ q, FixTo gs wk cp [] (startL ep rs) q ∧ q.length ≤ 800000 := by
  obtain ⟨q, hq⟩ := fix_is gs wk cp ep _ [] (startL ep rs) (Nat.le_refl _) start_ep
  exact ⟨q, hq, hq.len (FixIn.start start_ep (Nat.le_refl _))⟩

theorem outs_step {gs : List Nd} {zs : List Ce} {j : Nat} (h : j < zs.length) : outsC gs (zs.take (j + 1)) = outsC gs (zs.take j) ++ (if outC gs zs[j] = true then [zs[j]] else []) := by
  unfold outsC
  rw [take_last h, List.filter_append]
  congr 1
  cases hb : outC gs zs[j] <;> simp [hb]
theorem outs_len (gs : List Nd) (zs : List Ce) : (outsC gs zs).length ≤ zs.length := List.length_filter_le _ _

end Go.Proofs.Ytbbagpnjjjohpaa.hexes

namespace Go.Proofs.Ytbbagpnjjjohpaa.hexes
open Go.RowKit

set_option maxRecDepth 100000 in
theorem eqRecord_any (p0 p1 p2 p3 p4 q0 q1 q2 q3 q4 : Int) (w : World) :
    Calls Try.prog 71 #[.agg #[.int .i64 p0, .int .i64 p1, .int .i64 p2, .int .i64 p3, .int .i64 p4], .agg #[.int .i64 q0, .int .i64 q1, .int .i64 q2, .int .i64 q3, .int .i64 q4]] w fun e w' => e = .returned (.bool (decide (p0 = q0 ∧ p1 = q1 ∧ p2 = q2 ∧ p3 = q3 ∧ p4 = q4))) ∧ Below w.heap.size w w' := by
  by_cases h0 : p0 = q0
  · have n0 : (p0 != q0) = false := by simpa using h0
    by_cases h1 : p1 = q1 ∧ p2 = q2
    · have E := Lib.hid (fun W => eqSt_is (decide_eq_true h1) W)
      by_cases h3 : p3 = q3
      · have n3 : (p3 != q3) = false := by simpa using h3
        by_cases h4 : p4 = q4
        · have n4 : (p4 != q4) = false := by simpa using h4
          rw [decide_eq_true (⟨h0, h1.1, h1.2, h3, h4⟩ : p0 = q0 ∧ p1 = q1 ∧ p2 = q2 ∧ p3 = q3 ∧ p4 = q4)]
          clear h0 h1 h3 h4
          go_enter Try.func71, Try.ntmps71
          go_wp2_with fail
          generalize hW : (w.alloc _).alloc _ = W
          have bW : Below w.heap.size w W := by rw [← hW]; exact ((Below.refl _ _).alloc (by simp) _).alloc (by simp) _
          have c3 : W.cell? ⟨w.heap.size, 3, none⟩ = some (.int .i64 p3) := by rw [← hW]; exact alloc_keep (by simp)
          have c4 : W.cell? ⟨w.heap.size, 4, none⟩ = some (.int .i64 p4) := by rw [← hW]; exact alloc_keep (by simp)
          have d3 : W.cell? ⟨w.heap.size + 1, 3, none⟩ = some (.int .i64 q3) := by rw [← hW]; simp
          have d4 : W.cell? ⟨w.heap.size + 1, 4, none⟩ = some (.int .i64 q4) := by rw [← hW]; simp
          clear hW
          refine (E.out _).mono ?_
          rintro e w1 ⟨rfl, hb⟩
          have B1 := Lib.hid (below_chain bW hb)
          replace c3 := below_keep hb c3
          replace c4 := below_keep hb c4
          replace d3 := below_keep hb d3
          replace d4 := below_keep hb d4
          clear hb bW E
          go_wp2
          go_ret
          exact ⟨rfl, B1.out⟩
        · have n4 : (p4 != q4) = true := by simpa using h4
          rw [decide_eq_false (fun h : p0 = q0 ∧ p1 = q1 ∧ p2 = q2 ∧ p3 = q3 ∧ p4 = q4 => h4 h.2.2.2.2)]
          clear h0 h1 h3 h4
          go_enter Try.func71, Try.ntmps71
          go_wp2_with fail
          generalize hW : (w.alloc _).alloc _ = W
          have bW : Below w.heap.size w W := by rw [← hW]; exact ((Below.refl _ _).alloc (by simp) _).alloc (by simp) _
          have c3 : W.cell? ⟨w.heap.size, 3, none⟩ = some (.int .i64 p3) := by rw [← hW]; exact alloc_keep (by simp)
          have c4 : W.cell? ⟨w.heap.size, 4, none⟩ = some (.int .i64 p4) := by rw [← hW]; exact alloc_keep (by simp)
          have d3 : W.cell? ⟨w.heap.size + 1, 3, none⟩ = some (.int .i64 q3) := by rw [← hW]; simp
          have d4 : W.cell? ⟨w.heap.size + 1, 4, none⟩ = some (.int .i64 q4) := by rw [← hW]; simp
          clear hW
          refine (E.out _).mono ?_
          rintro e w1 ⟨rfl, hb⟩
          have B1 := Lib.hid (below_chain bW hb)
          replace c3 := below_keep hb c3
          replace c4 := below_keep hb c4
          replace d3 := below_keep hb d3
          replace d4 := below_keep hb d4
          clear hb bW E
          go_wp2
          go_ret
          exact ⟨rfl, B1.out⟩
      · have n3 : (p3 != q3) = true := by simpa using h3
        rw [decide_eq_false (fun h : p0 = q0 ∧ p1 = q1 ∧ p2 = q2 ∧ p3 = q3 ∧ p4 = q4 => h3 h.2.2.2.1)]
        clear h0 h1 h3
        go_enter Try.func71, Try.ntmps71
        go_wp2_with fail
        generalize hW : (w.alloc _).alloc _ = W
        have bW : Below w.heap.size w W := by rw [← hW]; exact ((Below.refl _ _).alloc (by simp) _).alloc (by simp) _
        have c3 : W.cell? ⟨w.heap.size, 3, none⟩ = some (.int .i64 p3) := by rw [← hW]; exact alloc_keep (by simp)
        have c4 : W.cell? ⟨w.heap.size, 4, none⟩ = some (.int .i64 p4) := by rw [← hW]; exact alloc_keep (by simp)
        have d3 : W.cell? ⟨w.heap.size + 1, 3, none⟩ = some (.int .i64 q3) := by rw [← hW]; simp
        have d4 : W.cell? ⟨w.heap.size + 1, 4, none⟩ = some (.int .i64 q4) := by rw [← hW]; simp
        clear hW
        refine (E.out _).mono ?_
        rintro e w1 ⟨rfl, hb⟩
        have B1 := Lib.hid (below_chain bW hb)
        replace c3 := below_keep hb c3
        replace c4 := below_keep hb c4
        replace d3 := below_keep hb d3
        replace d4 := below_keep hb d4
        clear hb bW E
        go_wp2
        go_ret
        exact ⟨rfl, B1.out⟩
    · have E := Lib.hid (fun W => eqSt_is (decide_eq_false h1) W)
      rw [decide_eq_false (fun h : p0 = q0 ∧ p1 = q1 ∧ p2 = q2 ∧ p3 = q3 ∧ p4 = q4 => h1 ⟨h.2.1, h.2.2.1⟩)]
      clear h0 h1
      go_enter Try.func71, Try.ntmps71
      go_wp2_with fail
      generalize hW : (w.alloc _).alloc _ = W
      have bW : Below w.heap.size w W := by rw [← hW]; exact ((Below.refl _ _).alloc (by simp) _).alloc (by simp) _
      have c3 : W.cell? ⟨w.heap.size, 3, none⟩ = some (.int .i64 p3) := by rw [← hW]; exact alloc_keep (by simp)
      have c4 : W.cell? ⟨w.heap.size, 4, none⟩ = some (.int .i64 p4) := by rw [← hW]; exact alloc_keep (by simp)
      have d3 : W.cell? ⟨w.heap.size + 1, 3, none⟩ = some (.int .i64 q3) := by rw [← hW]; simp
      have d4 : W.cell? ⟨w.heap.size + 1, 4, none⟩ = some (.int .i64 q4) := by rw [← hW]; simp
      clear hW
      refine (E.out _).mono ?_
      rintro e w1 ⟨rfl, hb⟩
      have B1 := Lib.hid (below_chain bW hb)
      replace c3 := below_keep hb c3
      replace c4 := below_keep hb c4
      replace d3 := below_keep hb d3
      replace d4 := below_keep hb d4
      clear hb bW E
      go_wp2
      go_ret
      exact ⟨rfl, B1.out⟩
  · have n0 : (p0 != q0) = true := by simpa using h0
    rw [decide_eq_false (fun h : p0 = q0 ∧ p1 = q1 ∧ p2 = q2 ∧ p3 = q3 ∧ p4 = q4 => h0 h.1)]
    clear h0
    go_enter Try.func71, Try.ntmps71
    go_wp2
    go_ret
    exact ⟨rfl, ((Below.refl _ _).alloc (by simp) _).alloc (by simp) _⟩

set_option maxRecDepth 100000 in
theorem toRecord_any (p0 p1 p2 p3 p4 : Int) (w : World) :
    Calls Try.prog 70 #[.agg #[.int .i64 p0, .int .i64 p1, .int .i64 p2, .int .i64 p3, .int .i64 p4]] w fun e w' => e = .returned (.agg #[.int .i64 p0, .int .i64 p1, .int .i64 p2, .int .i64 p3, .int .i64 p4]) ∧ Below w.heap.size w w' := by
  have E := Lib.hid (fun W => toStamp_any p1 p2 W)
  go_enter Try.func70, Try.ntmps70
  go_wp2_with fail
  generalize hW : ((w.alloc _).alloc _).alloc _ = W
  have bW : Below w.heap.size w W := by rw [← hW]; exact (((Below.refl _ _).alloc (by simp) _).alloc (by simp) _).alloc (by simp; omega) _
  have c3 : W.cell? ⟨w.heap.size, 3, none⟩ = some (.int .i64 p3) := by rw [← hW]; exact alloc_keep (alloc_keep (by simp))
  have c4 : W.cell? ⟨w.heap.size, 4, none⟩ = some (.int .i64 p4) := by rw [← hW]; exact alloc_keep (alloc_keep (by simp))
  have r0 : Blk W (w.heap.size + 1) 51 #[.int .i64 0, .int .i64 0, .int .i64 0, .int .i64 0, .int .i64 0] := by rw [← hW]; exact (Below.heap_alloc _ _ _ (by simp)).trans ((show w.heap.size + 1 = (w.alloc _).heap.size by simp) ▸ Blk.new _ _ _)
  have s0 : Blk W (w.heap.size + 2) 51 #[.int .i64 p0, .int .i64 0, .int .i64 0, .int .i64 0, .int .i64 0] := by rw [← hW]; exact (show w.heap.size + 2 = ((w.alloc _).alloc _).heap.size by simp) ▸ Blk.new _ _ _
  clear hW
  refine (E.out _).mono ?_
  rintro e w1 ⟨rfl, hb⟩
  have B1 := Lib.hid (below_chain bW hb)
  replace c3 := below_keep hb c3
  replace c4 := below_keep hb c4
  have r1 := r0.below hb
  have s1 := s0.below hb
  have d0 : w1.cell? ⟨w.heap.size + 2, 0, none⟩ = some (.int .i64 p0) := by rw [s1.cell]; rfl
  have d1 : w1.cell? ⟨w.heap.size + 2, 1, none⟩ = some (.int .i64 0) := by rw [s1.cell]; rfl
  have d2 : w1.cell? ⟨w.heap.size + 2, 2, none⟩ = some (.int .i64 0) := by rw [s1.cell]; rfl
  have d3 : w1.cell? ⟨w.heap.size + 2, 3, none⟩ = some (.int .i64 0) := by rw [s1.cell]; rfl
  have d4 : w1.cell? ⟨w.heap.size + 2, 4, none⟩ = some (.int .i64 0) := by rw [s1.cell]; rfl
  have k0 : w1.cell? ⟨w.heap.size + 1, 0, none⟩ = some (.int .i64 0) := by rw [r1.cell]; rfl
  have k1 : w1.cell? ⟨w.heap.size + 1, 1, none⟩ = some (.int .i64 0) := by rw [r1.cell]; rfl
  have k2 : w1.cell? ⟨w.heap.size + 1, 2, none⟩ = some (.int .i64 0) := by rw [r1.cell]; rfl
  have k3 : w1.cell? ⟨w.heap.size + 1, 3, none⟩ = some (.int .i64 0) := by rw [r1.cell]; rfl
  have k4 : w1.cell? ⟨w.heap.size + 1, 4, none⟩ = some (.int .i64 0) := by rw [r1.cell]; rfl
  have f0 := s1.frozen 0
  have g0 := r1.frozen 0
  have f1 := s1.frozen 1
  have g1 := r1.frozen 1
  have f2 := s1.frozen 2
  have g2 := r1.frozen 2
  have f3 := s1.frozen 3
  have g3 := r1.frozen 3
  have f4 := s1.frozen 4
  have g4 := r1.frozen 4
  have R1 := Lib.hid r1
  clear hb bW E r0 s0 r1 s1
  go_wp2_with fail
  generalize hWf : ((((((((w1.setCell _ _).setCell _ _).setCell _ _).setCell _ _).setCell _ _).setCell _ _).setCell _ _).setCell _ _).setCell _ _ = Wf
  have bf : Blk Wf (w.heap.size + 1) 51 #[.int .i64 p0, .int .i64 p1, .int .i64 p2, .int .i64 p3, .int .i64 p4] := by
    rw [← hWf]
    exact ((((((((R1.out.other (by simp) _).other (by simp) _).other (by simp) _).other (by simp) _).put 0 _).put 1 _).put 2 _).put 3 _).put 4 _
  have hb : Below w.heap.size w Wf := by
    rw [← hWf]
    exact ((((((((B1.out.setCell (by simp; omega) _).setCell (by simp; omega) _).setCell (by simp; omega) _).setCell (by simp; omega) _).setCell (by simp) _).setCell (by simp) _).setCell (by simp) _).setCell (by simp) _).setCell (by simp) _
  have e0 : Wf.cell? ⟨w.heap.size + 1, 0, none⟩ = some (.int .i64 p0) := by rw [bf.cell]; rfl
  have e1 : Wf.cell? ⟨w.heap.size + 1, 1, none⟩ = some (.int .i64 p1) := by rw [bf.cell]; rfl
  have e2 : Wf.cell? ⟨w.heap.size + 1, 2, none⟩ = some (.int .i64 p2) := by rw [bf.cell]; rfl
  have e3 : Wf.cell? ⟨w.heap.size + 1, 3, none⟩ = some (.int .i64 p3) := by rw [bf.cell]; rfl
  have e4 : Wf.cell? ⟨w.heap.size + 1, 4, none⟩ = some (.int .i64 p4) := by rw [bf.cell]; rfl
  exact bodyPost_ret (v := .agg #[.int .i64 p0, .int .i64 p1, .int .i64 p2, .int .i64 p3, .int .i64 p4]) (by simp [results, Try.results70, go_sem, e0, e1, e2, e3, e4]) rfl ⟨rfl, hb⟩
end Go.Proofs.Ytbbagpnjjjohpaa.hexes

namespace Go.Proofs.Ytbbagpnjjjohpaa.hexes
open Go.RowKit

/-- A list of Count as a row of cells. -/
def ctCells (zs : List Ct) : List Value := zs.flatMap fun z => [.int .i64 z.1.1, .int .i64 z.1.2, .int .i64 z.2]

theorem ctCells_cons (z : Ct) (zs : List Ct) : ctCells (z :: zs) = .int .i64 z.1.1 :: .int .i64 z.1.2 :: .int .i64 z.2 :: ctCells zs := rfl
theorem ctCells_length (zs : List Ct) : (ctCells zs).length = zs.length * 3 := by
  induction zs with
  | nil => rfl
  | cons z zs ih => rw [ctCells_cons]; simp only [List.length_cons, ih]; omega
theorem ctCells_at (zs : List Ct) (j : Nat) (h : j < zs.length) : (ctCells zs)[j * 3]? = some (.int .i64 zs[j].1.1) ∧ (ctCells zs)[j * 3 + 1]? = some (.int .i64 zs[j].1.2) ∧ (ctCells zs)[j * 3 + 2]? = some (.int .i64 zs[j].2) := by
  induction zs generalizing j with
  | nil => simp at h
  | cons z zs ih =>
    rw [ctCells_cons]
    cases j with
    | zero => exact ⟨rfl, rfl, rfl⟩
    | succ j =>
      have := ih j (by simpa using h)
      rw [show (j + 1) * 3 = j * 3 + 1 + 1 + 1 by omega]
      simpa using this

/-- A list of Count that can be read at A. -/
def Cts (w : World) (A : Option Addr) (zs : List Ct) : Prop :=
  0 < zs.length → ∃ b off, A = some ⟨b, off, none⟩ ∧ b < w.heap.size ∧ ∀ j, (h : j < zs.length) → w.cell? ⟨b, off + j * 3, none⟩ = some (.int .i64 zs[j].1.1) ∧ w.cell? ⟨b, off + j * 3 + 1, none⟩ = some (.int .i64 zs[j].1.2) ∧ w.cell? ⟨b, off + j * 3 + 2, none⟩ = some (.int .i64 zs[j].2)

theorem Cts.below {w w' : World} {A : Option Addr} {zs : List Ct} (h : Cts w A zs) (hb : Below w.heap.size w w') : Cts w' A zs := fun hl => by
  obtain ⟨b, off, hA, hlt, hz⟩ := h hl
  refine ⟨b, off, hA, Nat.lt_of_lt_of_le hlt hb.size, fun j hj => ?_⟩
  obtain ⟨h0, h1, h2⟩ := hz j hj
  exact ⟨below_keep hb h0, below_keep hb h1, below_keep hb h2⟩

theorem Cts.of_own {w : World} {B e n : Nat} {v : Value} {zs : List Ct} (h : w.ownsRow B e 3 v n (ctCells zs)) : ∃ A cap, v = .slice A n cap ∧ zs.length = n ∧ Cts w A zs := by
  have hl : zs.length = n := by have := h.1; rw [ctCells_length] at this; omega
  rcases h.2 with ⟨rfl, rfl⟩ | ⟨g, cap, cur, rfl, _, hg, hnc, _, hcs, htk⟩
  · exact ⟨none, 0, rfl, hl, fun h => absurd h (by omega)⟩
  · refine ⟨some ⟨g, 0, none⟩, cap, rfl, hl, fun hp => ⟨g, 0, rfl, ?_, fun j hj => ?_⟩⟩
    · rcases Nat.lt_or_ge g w.heap.size with hlt | hge
      · exact hlt
      · rw [Array.getElem?_eq_none hge] at hg; cases hg
    · have key : ∀ i u, (ctCells zs)[i]? = some u → w.cell? ⟨g, i, none⟩ = some u := fun i u hu => by
        rw [cell_of_row w g i cur e (0, 0) hg]
        rw [← htk, List.getElem?_take] at hu
        split at hu
        · simpa using hu
        · cases hu
      rw [Nat.zero_add]
      obtain ⟨h0, h1, h2⟩ := ctCells_at zs j hj
      exact ⟨key _ _ h0, key _ _ h1, key _ _ h2⟩

/-- The k-th entry of a list that can be read, cell by cell. -/
theorem Cts.at {w : World} {A : Option Addr} {zs : List Ct} (h : Cts w A zs) {k : Nat} (hk : k < zs.length) : ∃ b off p0 p1 p2, A = some ⟨b, off, none⟩ ∧ zs[k] = ((p0, p1), p2) ∧ w.cell? ⟨b, off + k * 3, none⟩ = some (.int .i64 p0) ∧ w.cell? ⟨b, off + k * 3 + 1, none⟩ = some (.int .i64 p1) ∧ w.cell? ⟨b, off + k * 3 + 2, none⟩ = some (.int .i64 p2) := by
  obtain ⟨b, off, hA, _, hz⟩ := h (by omega)
  obtain ⟨h0, h1, h2⟩ := hz k hk
  exact ⟨b, off, zs[k].1.1, zs[k].1.2, zs[k].2, hA, rfl, h0, h1, h2⟩

theorem Cts.news {w : World} {ad : Addr} {ys : List Ct} (h : Cts w (some ad) ys) (j : Nat) (u : Value) (hu : (ctCells ys)[j]? = some u) : w.cell? (ad.add j) = some u := by
  have hj : j < ys.length * 3 := by rw [← ctCells_length]; exact (List.getElem?_eq_some_iff.1 hu).1
  obtain ⟨b, off, hA, _, hz⟩ := h (by omega)
  obtain rfl : ad = ⟨b, off, none⟩ := Option.some.inj hA
  rw [addr_add1]
  have hk : j / 3 < ys.length := by omega
  obtain ⟨e0, e1, e2⟩ := ctCells_at ys (j / 3) hk
  obtain ⟨z0, z1, z2⟩ := hz (j / 3) hk
  have hm : j % 3 = 0 ∨ j % 3 = 1 ∨ j % 3 = 2 := by omega
  rcases hm with h2 | h2 | h2
  · rw [show j / 3 * 3 = j by omega] at e0
    rw [show off + j / 3 * 3 = off + j by omega] at z0
    rw [z0, ← hu, e0]
  · rw [show j / 3 * 3 + 1 = j by omega] at e1
    rw [show off + j / 3 * 3 + 1 = off + j by omega] at z1
    rw [z1, ← hu, e1]
  · rw [show j / 3 * 3 + 2 = j by omega] at e2
    rw [show off + j / 3 * 3 + 2 = off + j by omega] at z2
    rw [z2, ← hu, e2]

end Go.Proofs.Ytbbagpnjjjohpaa.hexes

