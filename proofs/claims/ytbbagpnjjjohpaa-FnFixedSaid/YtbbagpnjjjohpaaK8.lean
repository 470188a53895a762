/-
  Lists of Record in memory: how they lie there, and the contracts of the laws' own functions on them.
  Chapter 5's plain functions as the reference has them: the contracts of spec.OwnerOf, spec.RecordOk, spec.OfEpoch, spec.CountsOfRecords and spec.l05Same.
  FnFixed's facts.
-/
import Derived.Test.YtbbagpnjjjohpaaK6
import Derived.Test.YtbbagpnjjjohpaaK0
import Derived.Test.YtbbagpnjjjohpaaK1
import Derived.Test.YtbbagpnjjjohpaaK7
import Derived.OpenShut

namespace Go.Proofs.Ytbbagpnjjjohpaa.hexes
open Go.RowKit

/-- A list of Record as a row of cells. -/
def rcCells (zs : List Rc) : List Value := zs.flatMap fun z => [.int .i64 z.1, .int .i64 z.2.1.1, .int .i64 z.2.1.2, .int .i64 z.2.2.1, .int .i64 z.2.2.2]

theorem rcCells_cons (z : Rc) (zs : List Rc) : rcCells (z :: zs) = .int .i64 z.1 :: .int .i64 z.2.1.1 :: .int .i64 z.2.1.2 :: .int .i64 z.2.2.1 :: .int .i64 z.2.2.2 :: rcCells zs := rfl
theorem rcCells_append (a b : List Rc) : rcCells (a ++ b) = rcCells a ++ rcCells b := by simp [rcCells]
theorem rcCells_length (zs : List Rc) : (rcCells zs).length = zs.length * 5 := by
  induction zs with
  | nil => rfl
  | cons z zs ih => rw [rcCells_cons]; simp only [List.length_cons, ih]; omega
theorem rcCells_at (zs : List Rc) (j : Nat) (h : j < zs.length) : (rcCells zs)[j * 5]? = some (.int .i64 zs[j].1) ∧ (rcCells zs)[j * 5 + 1]? = some (.int .i64 zs[j].2.1.1) ∧ (rcCells zs)[j * 5 + 2]? = some (.int .i64 zs[j].2.1.2) ∧ (rcCells zs)[j * 5 + 3]? = some (.int .i64 zs[j].2.2.1) ∧ (rcCells zs)[j * 5 + 4]? = some (.int .i64 zs[j].2.2.2) := by
  induction zs generalizing j with
  | nil => simp at h
  | cons z zs ih =>
    rw [rcCells_cons]
    cases j with
    | zero => exact ⟨rfl, rfl, rfl, rfl, rfl⟩
    | succ j =>
      have := ih j (by simpa using h)
      rw [show (j + 1) * 5 = j * 5 + 1 + 1 + 1 + 1 + 1 by omega]
      simpa using this
theorem rcCells_one {zs : List Rc} {u : Value} (h : u ∈ rcCells zs) : u.oneCell' = true := by
  simp only [rcCells, List.mem_flatMap, List.mem_cons, List.not_mem_nil, or_false] at h
  obtain ⟨z, _, rfl | rfl | rfl | rfl | rfl⟩ := h <;> rfl

/-- A list of Record that can be read at A. -/
def Rcs (w : World) (A : Option Addr) (zs : List Rc) : Prop :=
  0 < zs.length → ∃ b off, A = some ⟨b, off, none⟩ ∧ b < w.heap.size ∧ ∀ j, (h : j < zs.length) → w.cell? ⟨b, off + j * 5, none⟩ = some (.int .i64 zs[j].1) ∧ w.cell? ⟨b, off + j * 5 + 1, none⟩ = some (.int .i64 zs[j].2.1.1) ∧ w.cell? ⟨b, off + j * 5 + 2, none⟩ = some (.int .i64 zs[j].2.1.2) ∧ w.cell? ⟨b, off + j * 5 + 3, none⟩ = some (.int .i64 zs[j].2.2.1) ∧ w.cell? ⟨b, off + j * 5 + 4, none⟩ = some (.int .i64 zs[j].2.2.2)

theorem Rcs.below {w w' : World} {A : Option Addr} {zs : List Rc} (h : Rcs w A zs) (hb : Below w.heap.size w w') : Rcs w' A zs := fun hl => by
  obtain ⟨b, off, hA, hlt, hz⟩ := h hl
  refine ⟨b, off, hA, Nat.lt_of_lt_of_le hlt hb.size, fun j hj => ?_⟩
  obtain ⟨h0, h1, h2, h3, h4⟩ := hz j hj
  exact ⟨below_keep hb h0, below_keep hb h1, below_keep hb h2, below_keep hb h3, below_keep hb h4⟩

theorem Rcs.of_own {w : World} {B e n : Nat} {v : Value} {zs : List Rc} (h : w.ownsRow B e 5 v n (rcCells zs)) : ∃ A cap, v = .slice A n cap ∧ zs.length = n ∧ Rcs w A zs := by
  have hl : zs.length = n := by have := h.1; rw [rcCells_length] at this; omega
  rcases h.2 with ⟨rfl, rfl⟩ | ⟨g, cap, cur, rfl, _, hg, hnc, _, hcs, htk⟩
  · exact ⟨none, 0, rfl, hl, fun h => absurd h (by omega)⟩
  · refine ⟨some ⟨g, 0, none⟩, cap, rfl, hl, fun hp => ⟨g, 0, rfl, ?_, fun j hj => ?_⟩⟩
    · rcases Nat.lt_or_ge g w.heap.size with hlt | hge
      · exact hlt
      · rw [Array.getElem?_eq_none hge] at hg; cases hg
    · have key : ∀ i u, (rcCells zs)[i]? = some u → w.cell? ⟨g, i, none⟩ = some u := fun i u hu => by
        rw [cell_of_row w g i cur e (0, 0) hg]
        rw [← htk, List.getElem?_take] at hu
        split at hu
        · simpa using hu
        · cases hu
      rw [Nat.zero_add]
      obtain ⟨h0, h1, h2, h3, h4⟩ := rcCells_at zs j hj
      exact ⟨key _ _ h0, key _ _ h1, key _ _ h2, key _ _ h3, key _ _ h4⟩

/-- The k-th entry of a list that can be read, cell by cell. -/
theorem Rcs.at {w : World} {A : Option Addr} {zs : List Rc} (h : Rcs w A zs) {k : Nat} (hk : k < zs.length) : ∃ b off p0 p1 p2 p3 p4, A = some ⟨b, off, none⟩ ∧ zs[k] = (p0, (p1, p2), p3, p4) ∧ w.cell? ⟨b, off + k * 5, none⟩ = some (.int .i64 p0) ∧ w.cell? ⟨b, off + k * 5 + 1, none⟩ = some (.int .i64 p1) ∧ w.cell? ⟨b, off + k * 5 + 2, none⟩ = some (.int .i64 p2) ∧ w.cell? ⟨b, off + k * 5 + 3, none⟩ = some (.int .i64 p3) ∧ w.cell? ⟨b, off + k * 5 + 4, none⟩ = some (.int .i64 p4) := by
  obtain ⟨b, off, hA, _, hz⟩ := h (by omega)
  obtain ⟨h0, h1, h2, h3, h4⟩ := hz k hk
  exact ⟨b, off, zs[k].1, zs[k].2.1.1, zs[k].2.1.2, zs[k].2.2.1, zs[k].2.2.2, hA, rfl, h0, h1, h2, h3, h4⟩

theorem Rcs.news {w : World} {ad : Addr} {ys : List Rc} (h : Rcs w (some ad) ys) (j : Nat) (u : Value) (hu : (rcCells ys)[j]? = some u) : w.cell? (ad.add j) = some u := by
  have hj : j < ys.length * 5 := by rw [← rcCells_length]; exact (List.getElem?_eq_some_iff.1 hu).1
  obtain ⟨b, off, hA, _, hz⟩ := h (by omega)
  obtain rfl : ad = ⟨b, off, none⟩ := Option.some.inj hA
  rw [addr_add1]
  have hk : j / 5 < ys.length := by omega
  obtain ⟨e0, e1, e2, e3, e4⟩ := rcCells_at ys (j / 5) hk
  obtain ⟨z0, z1, z2, z3, z4⟩ := hz (j / 5) hk
  have hm : j % 5 = 0 ∨ j % 5 = 1 ∨ j % 5 = 2 ∨ j % 5 = 3 ∨ j % 5 = 4 := by omega
  rcases hm with h2 | h2 | h2 | h2 | h2
  · rw [show j / 5 * 5 = j by omega] at e0
    rw [show off + j / 5 * 5 = off + j by omega] at z0
    rw [z0, ← hu, e0]
  · rw [show j / 5 * 5 + 1 = j by omega] at e1
    rw [show off + j / 5 * 5 + 1 = off + j by omega] at z1
    rw [z1, ← hu, e1]
  · rw [show j / 5 * 5 + 2 = j by omega] at e2
    rw [show off + j / 5 * 5 + 2 = off + j by omega] at z2
    rw [z2, ← hu, e2]
  · rw [show j / 5 * 5 + 3 = j by omega] at e3
    rw [show off + j / 5 * 5 + 3 = off + j by omega] at z3
    rw [z3, ← hu, e3]
  · rw [show j / 5 * 5 + 4 = j by omega] at e4
    rw [show off + j / 5 * 5 + 4 = off + j by omega] at z4
    rw [z4, ← hu, e4]

theorem rcs_none {w : World} {n : Nat} {zs : List Rc} (h : Rcs w none zs) (hz : zs.length = n) : n = 0 := by
  rcases Nat.eq_zero_or_pos n with h0 | h0
  · exact h0
  · obtain ⟨b, off, hA, _⟩ := h (by omega)
    cases hA

theorem rcinfo : (Try.prog.info? 51).map (fun i => (i.zero, i.size, i.bytes)) = some (some (.agg #[.int .i64 0, .int .i64 0, .int .i64 0, .int .i64 0, .int .i64 0]), 5, 40) := by kernel_rfl

/-- An append of a list of Record to an owned one. -/
theorem wpList_append_rc {w : World} {ops : Array Oper} {rest : List Oper} {o : Oper} {a : Act} {Q : Exit → Act → World → Prop} (hgd : o.guard = none) (s x : Operand)
    (ho : o.op = .call { callee := .builtin .append, args := #[s, x], argTypes := #[27, 27] })
    (base : Nat) (v : Value) (n : Nat) (zs : List Rc) (hs : a.eval s = v) (hown : w.ownsRow base 51 5 v n (rcCells zs))
    (A : Option Addr) (m c : Nat) (ys : List Rc) (hx : a.eval x = .slice A m c) (hA : A = none → c = 0) (hl : ys.length = m) (hsts : Rcs w A ys)
    (hb : n + m ≤ 4194304) (hbase : base ≤ w.heap.size)
    (h : ∀ v' w', w'.ownsRow base 51 5 v' (n + m) (rcCells (zs ++ ys)) → w.grownBy w' v.ownBlock → wpList Try.prog ops Q rest (a.put o.dst v') w') : wpList Try.prog ops Q (o :: rest) a w := by
  obtain ⟨i0, hi, hz0, hz1, hz2⟩ := info_parts rcinfo
  cases A with
  | none =>
    obtain rfl := rcs_none hsts hl
    obtain rfl := hA rfl
    obtain rfl := List.eq_nil_of_length_eq_zero hl
    exact wpList_append_own_none hgd s x 27 ho base 51 i0 5 Try.underlying27 hi v n (rcCells zs) hs hown hx (h v w (by simpa using hown) (grown_refl _ _))
  | some ad =>
    refine wpList_append_own w hgd s x 27 ho base 51 i0 (.agg #[.int .i64 0, .int .i64 0, .int .i64 0, .int .i64 0, .int .i64 0]) 5 40 Try.underlying27 hi hz0 hz1 hz2 rfl (by decide) v n (rcCells zs) hs hown ad m c (rcCells ys) hx (by rw [rcCells_length, hl]) hsts.news (fun u hu => rcCells_one hu) (by unfold maxLen; omega) (by omega) hbase ?_
    intro v' w' h2 h3 _
    rw [← rcCells_append] at h2
    exact h v' w' h2 h3

theorem rc_new (w : World) (p0 p1 p2 p3 p4 : Int) : Rcs (w.alloc (.cells #[.int .i64 p0, .int .i64 p1, .int .i64 p2, .int .i64 p3, .int .i64 p4] 51)) (some ⟨w.heap.size, 0, none⟩) [(p0, (p1, p2), p3, p4)] := fun _ =>
  ⟨w.heap.size, 0, rfl, by simp, fun j hj => by
    obtain rfl : j = 0 := by simpa using hj
    exact ⟨alloc_cells rfl rfl, alloc_cells rfl rfl, alloc_cells rfl rfl, alloc_cells rfl rfl, alloc_cells rfl rfl⟩⟩

theorem Row.rc {w : World} {lo hi e n c : Nat} {A : Option Addr} {zs : List Rc} (h : Row w lo hi e 5 A n c (rcCells zs)) : Rcs w A zs := by
  obtain ⟨A', c', he, _, hs⟩ := Rcs.of_own h.own
  simp only [Value.slice.injEq, true_and] at he
  obtain ⟨rfl, rfl⟩ := he
  exact hs

end Go.Proofs.Ytbbagpnjjjohpaa.hexes

namespace Go.Proofs.Ytbbagpnjjjohpaa.hexes
open Go.RowKit

theorem specOkR_is {x y : Int} {b : Bool} (h : okSt x y = b) (W : World) : Calls Try.prog 64 #[.agg #[.int .i64 x, .int .i64 y]] W fun e w' => e = .returned (.bool b) ∧ Below W.heap.size W w' := by
  subst h; exact specOk_any _ _ W

theorem specInI_is {n a b : Int} {r : Bool} (h : decide (a ≤ n ∧ n ≤ b) = r) (W : World) : Calls Try.prog 57 #[.int .i64 n, .int .i64 a, .int .i64 b] W fun e w' => e = .returned (.bool r) ∧ W = w' := by
  subst h
  refine (specIn_any n a b W).mono ?_
  rintro e w' ⟨rfl, rfl⟩
  exact ⟨rfl, rfl⟩

set_option maxRecDepth 100000 in
theorem specRcOk_any (p0 p1 p2 p3 p4 : Int) (w : World) :
    Calls Try.prog 30 #[.agg #[.int .i64 p0, .int .i64 p1, .int .i64 p2, .int .i64 p3, .int .i64 p4]] w fun e w' => e = .returned (.bool (okRc (p0, (p1, p2), p3, p4))) ∧ Below w.heap.size w w' := by
  have hb := (Below.refl w.heap.size w).alloc (Nat.le_refl _) (.cells #[.int .i64 p0, .int .i64 p1, .int .i64 p2, .int .i64 p3, .int .i64 p4] 51)
  have HB := Lib.hid hb
  clear hb
  cases h0 : decide (0 ≤ p0 ∧ p0 ≤ 7) with
  | false =>
    have HF := Lib.hid (show okRc (p0, (p1, p2), p3, p4) = false by unfold okRc; rw [h0]; rfl)
    have E0 := Lib.hid (fun W => specInI_is h0 W)
    clear h0
    go_enter Try.func30, Try.ntmps30
    go_wp2_with fail
    refine (E0.out _).mono ?_
    rintro e w1 ⟨rfl, rfl⟩
    go_wp2
    go_ret
    exact ⟨congrArg (fun b => Ending.returned (Value.bool b)) HF.out.symm, HB.out⟩
  | true =>
    have E0 := Lib.hid (fun W => specInI_is h0 W)
    have H0 := Lib.hid h0
    clear h0
    go_enter Try.func30, Try.ntmps30
    go_wp2_with fail
    refine (E0.out _).mono ?_
    rintro e w1 ⟨rfl, rfl⟩
    obtain ⟨W, hW⟩ : ∃ W, w.alloc (.cells #[.int .i64 p0, .int .i64 p1, .int .i64 p2, .int .i64 p3, .int .i64 p4] 51) = W := ⟨_, rfl⟩
    have b1 : W.cell? ⟨w.heap.size, 1, none⟩ = some (.int .i64 p1) := by rw [← hW]; simp
    have b2 : W.cell? ⟨w.heap.size, 2, none⟩ = some (.int .i64 p2) := by rw [← hW]; simp
    have b3 : W.cell? ⟨w.heap.size, 3, none⟩ = some (.int .i64 p3) := by rw [← hW]; simp
    have b4 : W.cell? ⟨w.heap.size, 4, none⟩ = some (.int .i64 p4) := by rw [← hW]; simp
    rw [hW] at HB ⊢
    clear hW E0
    cases h1 : okSt p1 p2 with
    | false =>
      have HF := Lib.hid (show okRc (p0, (p1, p2), p3, p4) = false by unfold okRc; rw [H0.out, h1]; rfl)
      have E1 := Lib.hid (fun W => specOkR_is h1 W)
      clear h1
      go_wp2_with fail
      refine (E1.out _).mono ?_
      rintro e w2 ⟨rfl, hbd⟩
      have B2 := Lib.hid (below_chain HB.out hbd)
      clear hbd
      go_wp2
      go_ret
      exact ⟨congrArg (fun b => Ending.returned (Value.bool b)) HF.out.symm, B2.out⟩
    | true =>
      have E1 := Lib.hid (fun W => specOkR_is h1 W)
      have H1 := Lib.hid h1
      clear h1
      go_wp2_with fail
      refine (E1.out _).mono ?_
      rintro e w2 ⟨rfl, hbd⟩
      have B2 := Lib.hid (below_chain HB.out hbd)
      have d3 := below_keep hbd b3
      have d4 := below_keep hbd b4
      clear hbd b1 b2 b3 b4 E1
      cases h2 : decide (0 ≤ p3 ∧ p3 ≤ 99) with
      | false =>
        have HF := Lib.hid (show okRc (p0, (p1, p2), p3, p4) = false by unfold okRc; rw [H0.out, H1.out, h2]; rfl)
        have E2 := Lib.hid (fun W => specInI_is h2 W)
        clear h2
        go_wp2_with fail
        refine (E2.out _).mono ?_
        rintro e w3 ⟨rfl, rfl⟩
        go_wp2
        go_ret
        exact ⟨congrArg (fun b => Ending.returned (Value.bool b)) HF.out.symm, B2.out⟩
      | true =>
        have E2 := Lib.hid (fun W => specInI_is h2 W)
        obtain ⟨r, hr⟩ : ∃ r, decide (0 ≤ p4 ∧ p4 ≤ 999) = r := ⟨_, rfl⟩
        have HF := Lib.hid (show okRc (p0, (p1, p2), p3, p4) = r by unfold okRc; rw [H0.out, H1.out, h2, hr]; simp)
        have E3 := Lib.hid (fun W => specInI_is hr W)
        clear hr
        clear h2
        go_wp2_with fail
        refine (E2.out _).mono ?_
        rintro e w3 ⟨rfl, rfl⟩
        go_wp2_with fail
        refine (E3.out _).mono ?_
        rintro e w4 ⟨rfl, rfl⟩
        go_wp2
        go_ret
        exact ⟨congrArg (fun b => Ending.returned (Value.bool b)) HF.out.symm, B2.out⟩

end Go.Proofs.Ytbbagpnjjjohpaa.hexes

namespace Go.Proofs.Ytbbagpnjjjohpaa.hexes
open Go.RowKit

/-- Over a graph that is not valid nothing is found. -/
theorem fix_none {gs : List Nd} {wk cp : Int} {best xs q : List Ce} (hg : okGr gs dec1 wk cp = false) (h : FixTo gs wk cp best xs q) : q = best := by
  induction h with
  | done best => rfl
  | step _ ih =>
    rw [ih]
    unfold impG impB
    rw [hg]
    simp
theorem two_fix : FixTo [(1, 0, 0, [1]), (8, 0, 0, [])] 1 1 [] (startL 0 [(0, (0, 0), 5, 0)]) [(0, 0, 5, 0), (1, 0, 5, 0)] := by
  rw [show startL 0 [(0, (0, 0), 5, 0)] = [(0, 0, 5, 0)] from rfl]
  refine .step ?_
  rw [show impG [(1, 0, 0, [1]), (8, 0, 0, [])] 1 1 [] (0, 0, 5, 0) = ([(0, 0, 5, 0)], [(1, 0, 5, 0)]) from rfl]
  refine .step ?_
  rw [show impG [(1, 0, 0, [1]), (8, 0, 0, [])] 1 1 ([(0, 0, 5, 0)], [(1, 0, 5, 0)]).1 (1, 0, 5, 0) = ([(0, 0, 5, 0), (1, 0, 5, 0)], []) from rfl]
  exact .done _
theorem two_outs : outsC [(1, 0, 0, [1]), (8, 0, 0, [])] [(0, 0, 5, 0), (1, 0, 5, 0)] = [(1, 0, 5, 0)] := by rfl
theorem specRcOkX_is {p0 p1 p2 p3 p4 : Int} {b : Bool} (h : okRc (p0, (p1, p2), p3, p4) = b) (w : World) : Calls Try.prog 30 #[.agg #[.int .i64 p0, .int .i64 p1, .int .i64 p2, .int .i64 p3, .int .i64 p4]] w fun e w' => e = .returned (.bool b) ∧ Below w.heap.size w w' := by
  subst h; exact specRcOk_any _ _ _ _ _ w
theorem okRc_ep {p0 p1 p2 p3 p4 : Int} (h : okRc (p0, (p1, p2), p3, p4) = true) : 0 ≤ p1 := by
  unfold okRc okSt at h
  simp only [Bool.and_eq_true, decide_eq_true_eq] at h
  omega
/-- What a round reads of its record. -/
structure FxRec (V : World) (b o : Nat) (p3 p4 : Int) (w : World) : Prop where
  c3 : w.cell? ⟨b, o + 3, none⟩ = some (.int .i64 p3)
  c4 : w.cell? ⟨b, o + 4, none⟩ = some (.int .i64 p4)
  bel : Below V.heap.size V w
theorem FxRec.below {V : World} {b o : Nat} {p3 p4 : Int} {w w' : World} (h : FxRec V b o p3 p4 w) (hb : Below w.heap.size w w') : FxRec V b o p3 p4 w' := ⟨below_keep hb h.c3, below_keep hb h.c4, below_chain h.bel hb⟩
theorem FxRec.of {V : World} {b o : Nat} {p3 p4 : Int} {w' : World} (h0 : FxRec V b o p3 p4 V) (hb : Below V.heap.size V w') : FxRec V b o p3 p4 w' := ⟨below_keep hb h0.c3, below_keep hb h0.c4, hb⟩
end Go.Proofs.Ytbbagpnjjjohpaa.hexes

