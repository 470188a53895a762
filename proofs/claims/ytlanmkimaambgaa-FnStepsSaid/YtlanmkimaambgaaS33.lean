/-
  StepAll of the reference as two rows.
  A list of records that the call owns, from some place of its block on: how it is kept, read, sliced, appended to, marked.
  slices.Clone at a list of records.
  A statement of impl.StepAll: its operations, and a theorem a step.
-/
import Derived.Test.YtlanmkimaambgaaS32
import Derived.Test.YtlanmkimaambgaaS31
import Derived.Test.YtlanmkimaambgaaS8
import Derived.Test.YtlanmkimaambgaaS7
import Derived.Deep.AppendLies
import Derived.Test.YtlanmkimaambgaaS11

namespace Go.Proofs.Ytlanmkimaambgaa.hexes
open Go.RowKit

theorem specAll_rows {gs : List Nd} {wk cp : Int} {A : Option Addr} {n c : Nat} {ces : List Ce} {A2 : Option Addr} {n2 c2 : Nat} {rcs : List Rc} {A1 : Option Addr} {n1 c1 : Nat} {mo : Int} {us : List Ce} {out : List Rc} {nn m3 m4 : Nat} (hq : allG gs wk cp ces rcs mo = ((us, out), nn)) (h3 : us.length = m3) (h4 : out.length = m4) (hl : gs.length = n) (ho : ∀ x ∈ gs, x.2.2.2.length ≤ 1048576) (hn : n ≤ 1048576) (hl2 : ces.length = n2) (hA2 : A2 = none → c2 = 0) (hn2 : n2 ≤ 1048576) (hl1 : rcs.length = n1) (hA1 : A1 = none → c1 = 0) (hn1 : n1 ≤ 1048576) (w : World) (h : Nds w A gs) (h2 : Ces w A2 ces) (h1 : Rcs w A1 rcs) :
    Calls Try.prog 17 #[.agg #[.slice A n c, .int .i64 wk, .int .i64 cp], .slice A2 n2 c2, .slice A1 n1 c1, .int .i64 mo] w fun e w' => ∃ A3 c3 A4 c4, e = .returned (.tuple #[.slice A3 m3 c3, .slice A4 m4 c4, .int .i64 (nn : Int)]) ∧ Row w' w.heap.size w'.heap.size 75 4 A3 m3 c3 (ceCells us) ∧ Row w' w.heap.size w'.heap.size 31 5 A4 m4 c4 (rcCells out) ∧ Below w.heap.size w w' :=
  (specAll_any gs wk cp A n c hl ho hn ces A2 n2 c2 hl2 hA2 hn2 rcs A1 n1 c1 hl1 hA1 hn1 mo w h h2 h1).mono fun _ _ he => he.rows hq h3 h4
end Go.Proofs.Ytlanmkimaambgaa.hexes

namespace Go.Proofs.Ytlanmkimaambgaa.hexes
open Go.RowKit

/-- The list zs lies at A in a block that the call owns (from lo on, below hi), maybe behind other records. -/
def Win (w : World) (lo hi : Nat) (A : Option Addr) (n c : Nat) (zs : List Rc) : Prop :=
  zs.length = n ∧ ((n = 0 ∧ c = 0) ∨ ∃ g k pre, A = some ⟨g, k * 5, none⟩ ∧ pre.length = k ∧ g < hi ∧ w.ownsRow lo 31 5 (.slice (some ⟨g, 0, none⟩) (k + n) (k + c)) (k + n) (rcCells (pre ++ zs)))
/-- What was written: nothing, or a block of records that the call owns. -/
def WinTo (w w' : World) (lo hi : Nat) : Prop := ∃ row, w.grownBy w' row ∧ (row = none ∨ ∃ g n c xs, row = some g ∧ g < hi ∧ w.ownsRow lo 31 5 (.slice (some ⟨g, 0, none⟩) n c) n xs)

section
variable {w w' : World} {lo hi n c : Nat} {A : Option Addr} {zs : List Rc}
theorem Win.of_row (h : Row w lo hi 31 5 A n c (rcCells zs)) : Win w lo hi A n c zs := by
  have hl : zs.length = n := by have := h.own.1; rw [rcCells_length] at this; omega
  refine ⟨hl, ?_⟩
  rcases h.own.2 with ⟨hA, h0⟩ | ⟨g, cap, cur, hv, hb, hg, hnc, rest⟩
  · simp only [Value.slice.injEq] at hA
    exact .inl ⟨h0, hA.2.2⟩
  · simp only [Value.slice.injEq, true_and] at hv
    obtain ⟨rfl, rfl⟩ := hv
    exact .inr ⟨g, 0, [], by simp, rfl, h.lt g rfl, by simpa using h.own⟩
theorem Win.below (h : Win w lo hi A n c zs) (hb : Below w.heap.size w w') : Win w' lo hi A n c zs :=
  ⟨h.1, h.2.imp id fun ⟨g, k, pre, h1, h2, h3, h4⟩ => ⟨g, k, pre, h1, h2, h3, own_below h4 hb⟩⟩
theorem Win.bounds {lo' hi' : Nat} (h : Win w lo hi A n c zs) (h1 : lo' ≤ lo) (h2 : hi ≤ hi') : Win w lo' hi' A n c zs :=
  ⟨h.1, h.2.imp id fun ⟨g, k, pre, a1, a2, a3, a4⟩ => ⟨g, k, pre, a1, a2, Nat.lt_of_lt_of_le a3 h2, own_base a4 h1⟩⟩
theorem Win.wrote {lo' hi' : Nat} (h : Win w lo hi A n c zs) (hw : Wrote w w' lo' hi') (hd : hi ≤ lo' ∨ hi' ≤ lo) : Win w' lo hi A n c zs := by
  obtain ⟨row, hg, hr⟩ := hw
  refine ⟨h.1, h.2.imp id fun ⟨g, k, pre, h1, h2, h3, h4⟩ => ⟨g, k, pre, h1, h2, h3, h4.kept hg (.inr fun e => ?_)⟩⟩
  have a1 := hr g e.symm
  have a2 := own_ge h4 g rfl
  omega
theorem Win.types {B e size m : Nat} {v : Value} {xs : List Value} (h : Win w lo hi A n c zs) (ho : w.ownsRow B e size v m xs) (gr : w.grownBy w' v.ownBlock) (ht : 31 ≠ e) : Win w' lo hi A n c zs :=
  ⟨h.1, h.2.imp id fun ⟨g, k, pre, h1, h2, h3, h4⟩ => ⟨g, k, pre, h1, h2, h3, h4.kept gr (own_types h4 ho ht)⟩⟩
theorem Win.rc (h : Win w lo hi A n c zs) : Rcs w A zs := by
  rcases h.2 with ⟨h0, _⟩ | ⟨g, k, pre, rfl, hk, _, ho⟩
  · exact fun hp => absurd h.1 (by omega)
  · obtain ⟨A', c', he, hl, hs⟩ := Rcs.of_own ho
    simp only [Value.slice.injEq, true_and] at he
    obtain ⟨rfl, rfl⟩ := he
    have hd := hs.drop (k := k) (A' := some ⟨g, k * 5, none⟩) fun b off _ hA => by
      simp only [Option.some.injEq, Addr.mk.injEq, and_true] at hA
      obtain ⟨rfl, rfl⟩ := hA
      rw [Nat.zero_add]
    rw [← hk, List.drop_left] at hd
    rw [← hk]
    exact hd
theorem Win.nil (h : Win w lo hi A n c zs) : A = none → c = 0 := fun hA => by
  rcases h.2 with ⟨_, h0⟩ | ⟨g, k, pre, rfl, _⟩
  · exact h0
  · cases hA
theorem Win.cap (h : Win w lo hi A n c zs) : n ≤ c := by
  rcases h.2 with ⟨h0, h1⟩ | ⟨g, k, pre, _, _, _, ho⟩
  · omega
  · have := own_capS ho
    omega
/-- Behind the first. -/
theorem Win.tail {r : Rc} (h : Win w lo hi A n c (r :: zs)) {T : Option Addr} (hT : ∀ g o, A = some ⟨g, o, none⟩ → 1 < c → T = some ⟨g, o + 5, none⟩) : Win w lo hi T (n - 1) (c - 1) zs := by
  have hl := h.1
  rw [List.length_cons] at hl
  refine ⟨by omega, ?_⟩
  rcases h.2 with ⟨h0, _⟩ | ⟨g, k, pre, hA, hk, hlt, ho⟩
  · omega
  · have hc := own_capS ho
    by_cases c1 : c = 1
    · exact .inl ⟨by omega, by omega⟩
    · refine .inr ⟨g, k + 1, pre ++ [r], ?_, by simp [hk], hlt, ?_⟩
      · rw [hT g (k * 5) hA (by omega), show (k + 1) * 5 = k * 5 + 5 by omega]
      · rw [show k + 1 + (n - 1) = k + n by omega, show k + 1 + (c - 1) = k + c by omega, List.append_assoc]
        exact ho
theorem WinTo.size (h : WinTo w w' lo hi) : w.heap.size ≤ w'.heap.size := by
  obtain ⟨_, hg, _⟩ := h
  exact hg.size
theorem WinTo.kept {B e size m : Nat} {v : Value} {xs : List Value} (h : WinTo w w' lo hi) (ho : w.ownsRow B e size v m xs) (ht : e ≠ 31) : w'.ownsRow B e size v m xs := by
  obtain ⟨row, hg, rfl | ⟨g, n, c, ys, rfl, _, hr⟩⟩ := h
  · exact ho.kept hg (by cases v.ownBlock <;> simp)
  · exact ho.kept hg (own_types ho hr ht)
theorem WinTo.blk {g t : Nat} {cs : Array Value} (h : WinTo w w' lo hi) (hb : Blk w g t cs) (ht : t ≠ 31) : Blk w' g t cs := by
  obtain ⟨row, hg, rfl | ⟨g2, n, c, ys, rfl, _, hr⟩⟩ := h
  · exact hb.grown hg (by simp)
  · exact hb.grown hg (Ne.symm (own_type hr hb ht))
theorem WinTo.bel {a : World} (h : WinTo w w' lo hi) (hb : Below a.heap.size a w) (hlo : a.heap.size ≤ lo) : Below a.heap.size a w' := by
  obtain ⟨row, hg, hr⟩ := h
  refine hb.grown hg hb.size fun g hgr => ?_
  rcases hr with rfl | ⟨g2, n, c, ys, h2, _, ho⟩
  · cases hgr
  · rw [hgr] at h2
    obtain rfl := Option.some.inj h2
    exact Nat.le_trans hlo (own_ge ho g rfl)
theorem WinTo.wrote (h : WinTo w w' lo hi) : Wrote w w' lo hi := by
  obtain ⟨row, hg, hr⟩ := h
  refine ⟨row, hg, fun g hgr => ?_⟩
  rcases hr with rfl | ⟨g2, n, c, ys, h2, hlt, ho⟩
  · cases hgr
  · rw [hgr] at h2
    obtain rfl := Option.some.inj h2
    exact ⟨own_ge ho g rfl, hlt⟩
end

theorem setRow_same {P : Program} {t ty e : TypeId} {i : TypeInfo} (w : World) (ht : P.underlying t = some (.slice e)) (hi : P.info? e = some i)
    (g o sLen sCap : Nat) (cur : Array Value) (hg : w.heap[g]? = some (.cells cur e (0, 0))) (a : Addr) (m c : Nat) (news : List Value) (hl : news.length = m * i.size) (hnews : ∀ j u, news[j]? = some u → w.cell? (a.add j) = some u) (h1 : ∀ u ∈ news, u.oneCell' = true)
    (hroom : sLen + m ≤ sCap) (hfit : o + sLen * i.size + news.length ≤ cur.size) :
    (Builtin.append_ #[t, t] ty #[.slice (some ⟨g, o, none⟩) sLen sCap, .slice (some a) m c]).run P w = .ok (.slice (some ⟨g, o, none⟩) (sLen + m) sCap) (w.setRow g (cur.toList.take (o + sLen * i.size) ++ news ++ cur.toList.drop (o + sLen * i.size + news.length)).toArray) := by
  have h2 := run_firstCells_some (P := P) w i.size m a m c news hl hnews
  have h3 := run_storeCells_at P g (o + sLen * i.size) e news 0 cur w hg (by simpa using hfit) h1
  simp only [Nat.add_zero] at h3
  simp [Builtin.append_, run_underlying ht, sizeOf, typeInfo, hi, Builtin.lenOf, hroom, h2, Addr.add_lit, h3]

set_option maxRecDepth 100000 in
set_option maxHeartbeats 2000000 in
/-- An append to such a list. -/
theorem run_append_win {w : World} (ty : TypeId) {lo hi n c : Nat} {A : Option Addr} {zs : List Rc} (h : Win w lo hi A n c zs) (A' : Option Addr) (m c' : Nat) (ys : List Rc) (hA' : A' = none → c' = 0) (hl : ys.length = m) (hs : Rcs w A' ys) (hb : n + m ≤ 4194304) (hlo : lo ≤ w.heap.size) :
    ∃ A2 c2 w', (Builtin.append_ #[34, 34] ty #[.slice A n c, .slice A' m c']).run Try.prog w = .ok (.slice A2 (n + m) c2) w' ∧ Win w' lo w'.heap.size A2 (n + m) c2 (zs ++ ys) ∧ WinTo w w' lo w.heap.size := by
  obtain ⟨i0, hi0, hz0, hz1, hz2⟩ := info_parts rcinfo
  have hle : n ≤ c := h.cap
  have hlz := h.1
  have hlen : (zs ++ ys).length = n + m := by rw [List.length_append, hlz, hl]
  have hcells : (rcCells ys).length = m * i0.size := by rw [rcCells_length, hl, hz1]
  cases A' with
  | none =>
    obtain rfl := rcs_none hs hl
    obtain rfl := hA' rfl
    obtain rfl := List.eq_nil_of_length_eq_zero hl
    refine ⟨A, c, w, ?_, ?_, none, grown_refl _ _, .inl rfl⟩
    · cases A <;> simp [Builtin.append_, run_underlying Try.underlying34, sizeOf, typeInfo, hi0, Builtin.lenOf, Builtin.firstCells, hle, storeCells]
    · rw [List.append_nil, Nat.add_zero]
      exact ⟨h.1, h.2.imp id fun ⟨g, k, pre, a1, a2, a3, a4⟩ => ⟨g, k, pre, a1, a2, own_lt a4, a4⟩⟩
  | some ad =>
    have grown : ∀ olds : List Value, olds = rcCells zs → ∀ old, old < n + m →
        Win (w.drew.alloc (.cells (olds.toArray ++ (rcCells ys).toArray ++ Builtin.zeroCells (Value.agg #[.int .i64 0, .int .i64 0, .int .i64 0, .int .i64 0, .int .i64 0]).cells (grownCap w (n + m) old 31 - (n + m))) 31)) lo (w.drew.alloc (.cells (olds.toArray ++ (rcCells ys).toArray ++ Builtin.zeroCells (Value.agg #[.int .i64 0, .int .i64 0, .int .i64 0, .int .i64 0, .int .i64 0]).cells (grownCap w (n + m) old 31 - (n + m))) 31)).heap.size (some ⟨w.heap.size, 0, none⟩) (n + m) (grownCap w (n + m) old 31) (zs ++ ys) ∧
        WinTo w (w.drew.alloc (.cells (olds.toArray ++ (rcCells ys).toArray ++ Builtin.zeroCells (Value.agg #[.int .i64 0, .int .i64 0, .int .i64 0, .int .i64 0, .int .i64 0]).cells (grownCap w (n + m) old 31 - (n + m))) 31)) lo w.heap.size := by
      rintro olds rfl old ho
      have hge := grownCap_ge w (n + m) old 31
      have hcm : grownCap w (n + m) old 31 ≤ maxLen := grownCap_le_maxLen w (n + m) old 31 (by unfold maxLen; omega)
      refine ⟨⟨hlen, .inr ⟨w.heap.size, 0, [], by simp, rfl, by simp, ⟨by rw [List.nil_append, rcCells_length, hlen]; omega, .inr ⟨w.heap.size, 0 + grownCap w (n + m) old 31, _, rfl, hlo, heap_alloc_new w.drew _, by omega, by omega, ?_, ?_⟩⟩⟩⟩, ⟨none, ⟨rfl, rfl, rfl, by simp, fun _ hk _ => heap_alloc_old w.drew _ hk⟩, .inl rfl⟩⟩
      · simp only [Array.size_append, List.size_toArray, size_zeroCells, rcCells_length, hlz, hl, show (Value.agg #[.int .i64 0, .int .i64 0, .int .i64 0, .int .i64 0, .int .i64 0]).cells.size = 5 from rfl]
        omega
      · simp only [Array.toList_append, List.append_assoc, List.nil_append]
        rw [← List.append_assoc, ← rcCells_append, show (0 + (n + m)) * 5 = (rcCells (zs ++ ys)).length by rw [rcCells_length, hlen, Nat.zero_add]]
        exact List.take_left
    have hbytes : (n + m) * i0.bytes ≤ 140737488355328 := by rw [hz2]; omega
    cases A with
    | none =>
      obtain rfl := h.nil rfl
      obtain rfl : n = 0 := by omega
      obtain rfl := List.eq_nil_of_length_eq_zero hlz
      by_cases m0 : m = 0
      · subst m0
        obtain rfl := List.eq_nil_of_length_eq_zero hl
        refine ⟨none, 0, w, ?_, ⟨rfl, .inl ⟨rfl, rfl⟩⟩, none, grown_refl _ _, .inl rfl⟩
        have h2 := run_firstCells_some (P := Try.prog) w i0.size 0 ad 0 c' (rcCells []) (by simp [rcCells]) (fun j u hu => by simp [rcCells] at hu)
        simp [Builtin.append_, run_underlying Try.underlying34, sizeOf, typeInfo, hi0, Builtin.lenOf, h2, rcCells]
      · have hr := run_append_nil (P := Try.prog) w 34 ty 31 i0 _ Try.underlying34 hi0 hz0 ad m c' (rcCells ys) hcells hs.news (by omega) (by omega) (by rw [hz2]; omega)
        have hgr := grown [] rfl 0 (by omega)
        simp only [Nat.zero_add, List.nil_append, Array.empty_append] at hgr hr ⊢
        exact ⟨_, _, _, hr, hgr⟩
    | some b =>
      by_cases hroom : n + m ≤ c
      · rcases h.2 with ⟨rfl, rfl⟩ | ⟨g, k, pre, hA, hk, hlt, ho⟩
        · obtain rfl : m = 0 := by omega
          obtain rfl := List.eq_nil_of_length_eq_zero hl
          refine ⟨some b, 0, w, ?_, ?_, none, grown_refl _ _, .inl rfl⟩
          · have h2 := run_firstCells_some (P := Try.prog) w i0.size 0 ad 0 c' (rcCells []) (by simp [rcCells]) (fun j u hu => by simp [rcCells] at hu)
            simp [Builtin.append_, run_underlying Try.underlying34, sizeOf, typeInfo, hi0, Builtin.lenOf, h2, rcCells, storeCells]
          · exact ⟨by simpa using hlz, .inl ⟨rfl, rfl⟩⟩
        · obtain rfl := Option.some.inj hA
          rcases ho.2 with ⟨hv, _⟩ | ⟨g2, cap, cur, hv, hbg, hg, hnc, hcm, hcs, htake⟩
          · simp at hv
          · simp only [Value.slice.injEq, Option.some.injEq, Addr.mk.injEq, and_true, true_and] at hv
            obtain ⟨rfl, rfl⟩ := hv
            have hfit : k * 5 + n * i0.size + (rcCells ys).length ≤ cur.size := by rw [rcCells_length, hl, hcs, hz1]; omega
            have hr := setRow_same (P := Try.prog) (ty := ty) w Try.underlying34 hi0 g (k * 5) n c cur hg ad m c' (rcCells ys) hcells hs.news (fun u hu => rcCells_one hu) hroom hfit
            have hh := setRow_heap w g cur (cur.toList.take (k * 5 + n * i0.size) ++ rcCells ys ++ cur.toList.drop (k * 5 + n * i0.size + (rcCells ys).length)).toArray 31 _ hg
            refine ⟨_, _, _, hr, ⟨hlen, .inr ⟨g, k, pre, rfl, hk, (Array.getElem?_eq_some_iff.1 hh).1, ⟨by rw [rcCells_length, List.length_append, hlen, hk], .inr ⟨g, k + c, _, rfl, hbg, hh, by omega, hcm, ?_, ?_⟩⟩⟩⟩, ⟨some g, ⟨rfl, rfl, rfl, by simp, fun j _ hj => setRow_other w g j _ (fun e => hj (by simp [e]))⟩, .inr ⟨g, _, _, _, rfl, own_lt ho, ho⟩⟩⟩
            · simp only [List.size_toArray, List.length_append, List.length_take, List.length_drop, Array.length_toList]
              omega
            · rw [show k * 5 + n * i0.size = (k + n) * 5 by rw [hz1]; omega, htake, ← rcCells_append, ← List.append_assoc, show (k + (n + m)) * 5 = (rcCells (pre ++ zs ++ ys)).length by rw [rcCells_length, List.length_append, List.length_append, hlz, hl, hk]; omega]
              exact List.take_left
      · have holds : ∀ j u, (rcCells zs)[j]? = some u → w.cell? (b.add j) = some u := h.rc.news
        have hr := run_append_grow (P := Try.prog) w 34 ty 31 i0 _ Try.underlying34 hi0 hz0 b n c (rcCells zs) (by rw [rcCells_length, hlz, hz1]) holds ad m c' (rcCells ys) hcells hs.news (by omega) (by omega) (growslice_fits (by omega) hbytes)
        have hgr := grown _ rfl c (by omega)
        exact ⟨_, _, _, hr, hgr⟩

theorem wpList_append_win {w : World} {ops : Array Oper} {rest : List Oper} {o : Oper} {a : Act} {Q : Exit → Act → World → Prop} (hgd : o.guard = none) (s x : Operand)
    (ho : o.op = .call { callee := .builtin .append, args := #[s, x], argTypes := #[34, 34] })
    {lo hi n c : Nat} {A : Option Addr} {zs : List Rc} (hs : a.eval s = .slice A n c) (hw : Win w lo hi A n c zs)
    (A' : Option Addr) (m c' : Nat) (ys : List Rc) (hx : a.eval x = .slice A' m c') (hA : A' = none → c' = 0) (hl : ys.length = m) (hsts : Rcs w A' ys) (hb : n + m ≤ 4194304) (hlo : lo ≤ w.heap.size)
    (h : ∀ A2 c2 w', Win w' lo w'.heap.size A2 (n + m) c2 (zs ++ ys) → WinTo w w' lo w.heap.size → wpList Try.prog ops Q rest (a.put o.dst (.slice A2 (n + m) c2)) w') : wpList Try.prog ops Q (o :: rest) a w := by
  refine wpList_plain hgd fun K hK => ?_
  obtain ⟨A2, c2, w', hr, h2, h3⟩ := run_append_win o.type hw A' m c' ys hA hl hsts hb hlo
  unfold Oper.wp execOp
  simp only [ho, resolve, invoke, builtin, Sem.run_bind, Sem.run_pure, Result.andThen_ok, List.map_toArray, List.map_cons, List.map_nil, hs, hx, hr]
  exact hK _ _ (h A2 c2 w' h2 h3)
end Go.Proofs.Ytlanmkimaambgaa.hexes

namespace Go.Proofs.Ytlanmkimaambgaa.hexes
open Go.RowKit

set_option maxRecDepth 100000 in
theorem cloneRc_any (n : Nat) (zs : List Rc) (hz : zs.length = n) (A : Option Addr) (c : Nat) (hA : A = none → c = 0) (w : World) (h1 : Rcs w A zs) (hn : n ≤ 4194304) :
    Calls Try.prog 53 #[.slice A n c] w fun e w' => ∃ v, e = .returned v ∧ w'.ownsRow w.heap.size 31 5 v n (rcCells zs) ∧ Below w.heap.size w w' := by
  cases A with
  | none =>
    obtain rfl := rcs_none h1 hz
    obtain rfl := hA rfl
    obtain rfl := List.eq_nil_of_length_eq_zero hz
    clear h1 hz hA
    have q22 : ∀ (w : World) (a : Option Addr) (n c n' c' : Nat), (binOp .eql 34 (.slice a n c) (.slice none n' c')).run Try.prog w = .ok (.bool a.isNone) w := fun w a n c n' c' => Lib.run_eql_slice_nil w _ _ a n c n' c' Try.underlying34
    go_enter Try.func53, Try.ntmps53
    go_wp2
    go_ret
    exact ⟨_, rfl, World.ownsRow_nil _ _ _ _, Below.refl _ _⟩
  | some ad =>
    have hb := Below.alloc (Below.refl w.heap.size w) (Nat.le_refl _) (.cells #[] 31)
    have S := Lib.hid (h1.below hb)
    have HB := Lib.hid hb
    have HZ := Lib.hid hz
    clear h1 hz hA hb
    have q22 : ∀ (w : World) (a : Option Addr) (n c n' c' : Nat), (binOp .eql 34 (.slice a n c) (.slice none n' c')).run Try.prog w = .ok (.bool a.isNone) w := fun w a n c n' c' => Lib.run_eql_slice_nil w _ _ a n c n' c' Try.underlying34
    go_enter Try.func53, Try.ntmps53
    go_wp2_with (at_builtin; refine wpList_append_rc rfl (.tmp 5) (.tmp 6) (by rfl) w.heap.size (.slice (some ⟨w.heap.size, 0, none⟩) 0 0) 0 [] (by rfl) (World.ownsRow_lit w #[] 0 (Nat.le_refl _) (by decide) (by rfl)) (some ad) n c zs rfl (fun h => by cases h) HZ.out S.out (by omega) HB.out.size ?_; intro v' w2 own2 gr2)
    have hb2 := HB.out.grown gr2 HB.out.size (fun k hk => Nat.le_of_eq (Option.some.inj hk))
    rw [Nat.zero_add, List.nil_append] at own2
    have O2 := Lib.hid own2
    have B2 := Lib.hid hb2
    clear own2 gr2 hb2
    go_wp2
    go_ret
    exact ⟨_, rfl, O2.out, B2.out⟩
end Go.Proofs.Ytlanmkimaambgaa.hexes

namespace Go.Proofs.Ytlanmkimaambgaa.hexes
open Go.RowKit

def findIA6 (n : Nat) : Code → Option Code
  | .region id ops d => if id = n then some (.region id ops d) else none
  | .seq a b => match findIA6 n a with
    | some c => some c
    | none => findIA6 n b
  | .block _ c => findIA6 n c
  | .scope c => findIA6 n c
  | .loop c => findIA6 n c
  | .cond _ a b => match findIA6 n a with
    | some c => some c
    | none => findIA6 n b
  | _ => none
def opsOfIA6 : Option Code → Array Oper
  | some (.region _ ops _) => ops
  | _ => #[]
noncomputable def opsIA6 : Array Oper := opsOfIA6 (Try.f16.body.bind (findIA6 6))
theorem noselIA6 : Region.noSelect opsIA6 = true := by kernel_rfl
def qIA6_0 : Oper := { dst := some 31, op := Op.load 26 (Operand.tmp 4), type := 26, pos := "l10_steps.go:90", after := #[], guard := none }
theorem hIA6_0 : opsIA6[0]? = some qIA6_0 := by kernel_rfl
def qIA6_1 : Oper := { dst := some 32, op := Op.move (Operand.tmp 11), type := 27, pos := "l10_steps.go:90", after := #[], guard := none }
theorem hIA6_1 : opsIA6[1]? = some qIA6_1 := by kernel_rfl
def qIA6_2 : Oper := { dst := some 33, op := Op.move (Operand.tmp 12), type := 34, pos := "l10_steps.go:90", after := #[], guard := none }
theorem hIA6_2 : opsIA6[2]? = some qIA6_2 := by kernel_rfl
def qIA6_3 : Oper := { dst := some 34, op := Op.indexAddr 34 (Operand.tmp 33) (Operand.const (Value.int IntKind.i64 0)), type := 0, pos := "l10_steps.go:90", after := #[{ on := 2, ground := Ground.data }], guard := none }
theorem hIA6_3 : opsIA6[3]? = some qIA6_3 := by kernel_rfl
def qIA6_4 : Oper := { dst := some 35, op := Op.load 31 (Operand.tmp 34), type := 31, pos := "l10_steps.go:90", after := #[{ on := 3, ground := Ground.data }], guard := none }
theorem hIA6_4 : opsIA6[4]? = some qIA6_4 := by kernel_rfl
def qIA6_5 : Oper := { dst := some 36, op := Op.call { callee := Callee.value (Operand.func 8), args := #[Operand.tmp 31, Operand.tmp 32, Operand.tmp 35], argTypes := #[26, 27, 31] }, type := 35, pos := "l10_steps.go:90", after := #[{ on := 0, ground := Ground.data }, { on := 1, ground := Ground.data }, { on := 4, ground := Ground.data }], guard := none }
theorem hIA6_5 : opsIA6[5]? = some qIA6_5 := by kernel_rfl
def qIA6_6 : Oper := { dst := some 30, op := Op.move (Operand.tmp 36), type := 35, pos := "l10_steps.go:90", after := #[{ on := 5, ground := Ground.data }], guard := none }
theorem hIA6_6 : opsIA6[6]? = some qIA6_6 := by kernel_rfl
def qIA6_7 : Oper := { dst := some 37, op := Op.extract (Operand.tmp 30) 0, type := 27, pos := "l10_steps.go:90", after := #[{ on := 6, ground := Ground.data }], guard := none }
theorem hIA6_7 : opsIA6[7]? = some qIA6_7 := by kernel_rfl
def qIA6_8 : Oper := { dst := some 38, op := Op.extract (Operand.tmp 30) 1, type := 34, pos := "l10_steps.go:90", after := #[{ on := 6, ground := Ground.data }, { on := 10, ground := Ground.gcOnly Departure.lateStores }], guard := none }
theorem hIA6_8 : opsIA6[8]? = some qIA6_8 := by kernel_rfl
def qIA6_9 : Oper := { dst := some 39, op := Op.extract (Operand.tmp 30) 2, type := 4, pos := "l10_steps.go:90", after := #[{ on := 6, ground := Ground.data }, { on := 11, ground := Ground.gcOnly Departure.lateStores }], guard := none }
theorem hIA6_9 : opsIA6[9]? = some qIA6_9 := by kernel_rfl
def qIA6_10 : Oper := { dst := some 11, op := Op.assign (Operand.tmp 37), type := 27, pos := "l10_steps.go:90", after := #[{ on := 7, ground := Ground.data }, { on := 5, ground := Ground.chain }, { on := 0, ground := Ground.phase }, { on := 1, ground := Ground.phase }, { on := 2, ground := Ground.phase }, { on := 3, ground := Ground.phase }, { on := 4, ground := Ground.phase }, { on := 5, ground := Ground.phase }, { on := 6, ground := Ground.phase }, { on := 7, ground := Ground.phase }, { on := 8, ground := Ground.textOnly Departure.lateStores }, { on := 9, ground := Ground.textOnly Departure.lateStores }], guard := none }
theorem hIA6_10 : opsIA6[10]? = some qIA6_10 := by kernel_rfl
def qIA6_11 : Oper := { dst := some 15, op := Op.assign (Operand.tmp 38), type := 34, pos := "l10_steps.go:90", after := #[{ on := 8, ground := Ground.data }, { on := 10, ground := Ground.chain }, { on := 0, ground := Ground.phase }, { on := 1, ground := Ground.phase }, { on := 2, ground := Ground.phase }, { on := 3, ground := Ground.phase }, { on := 4, ground := Ground.phase }, { on := 5, ground := Ground.phase }, { on := 6, ground := Ground.phase }, { on := 7, ground := Ground.phase }, { on := 8, ground := Ground.phase }, { on := 9, ground := Ground.textOnly Departure.lateStores }, { on := 10, ground := Ground.phase }], guard := none }
theorem hIA6_11 : opsIA6[11]? = some qIA6_11 := by kernel_rfl
theorem tIA6_e_0 : RegT Try.prog opsIA6 qIA6_0 (some 31) 11 (#[false, false, false, false, false, false, false, false, false, false, false, false] : Array Bool) (#[true, false, false, false, false, false, false, false, false, false, false, false] : Array Bool) := regT hIA6_0 rfl noselIA6 (by kernel_rfl) (by kernel_rfl) (by kernel_rfl)
theorem tIA6_0_1 : RegT Try.prog opsIA6 qIA6_1 (some 32) 10 (#[true, false, false, false, false, false, false, false, false, false, false, false] : Array Bool) (#[true, true, false, false, false, false, false, false, false, false, false, false] : Array Bool) := regT hIA6_1 rfl noselIA6 (by kernel_rfl) (by kernel_rfl) (by kernel_rfl)
theorem tIA6_01_2 : RegT Try.prog opsIA6 qIA6_2 (some 33) 9 (#[true, true, false, false, false, false, false, false, false, false, false, false] : Array Bool) (#[true, true, true, false, false, false, false, false, false, false, false, false] : Array Bool) := regT hIA6_2 rfl noselIA6 (by kernel_rfl) (by kernel_rfl) (by kernel_rfl)
theorem tIA6_012_3 : RegT Try.prog opsIA6 qIA6_3 (some 34) 8 (#[true, true, true, false, false, false, false, false, false, false, false, false] : Array Bool) (#[true, true, true, true, false, false, false, false, false, false, false, false] : Array Bool) := regT hIA6_3 rfl noselIA6 (by kernel_rfl) (by kernel_rfl) (by kernel_rfl)
theorem tIA6_0123_4 : RegT Try.prog opsIA6 qIA6_4 (some 35) 7 (#[true, true, true, true, false, false, false, false, false, false, false, false] : Array Bool) (#[true, true, true, true, true, false, false, false, false, false, false, false] : Array Bool) := regT hIA6_4 rfl noselIA6 (by kernel_rfl) (by kernel_rfl) (by kernel_rfl)
theorem tIA6_012345_6 : RegT Try.prog opsIA6 qIA6_6 (some 30) 5 (#[true, true, true, true, true, true, false, false, false, false, false, false] : Array Bool) (#[true, true, true, true, true, true, true, false, false, false, false, false] : Array Bool) := regT hIA6_6 rfl noselIA6 (by kernel_rfl) (by kernel_rfl) (by kernel_rfl)
theorem tIA6_0123456_7 : RegT Try.prog opsIA6 qIA6_7 (some 37) 4 (#[true, true, true, true, true, true, true, false, false, false, false, false] : Array Bool) (#[true, true, true, true, true, true, true, true, false, false, false, false] : Array Bool) := regT hIA6_7 rfl noselIA6 (by kernel_rfl) (by kernel_rfl) (by kernel_rfl)
theorem tIA6_01234567_8 : RegT Try.prog opsIA6 qIA6_8 (some 38) 3 (#[true, true, true, true, true, true, true, true, false, false, false, false] : Array Bool) (#[true, true, true, true, true, true, true, true, true, false, false, false] : Array Bool) := regT hIA6_8 rfl noselIA6 (by kernel_rfl) (by kernel_rfl) (by kernel_rfl)
theorem tIA6_012345678_9 : RegT Try.prog opsIA6 qIA6_9 (some 39) 2 (#[true, true, true, true, true, true, true, true, true, false, false, false] : Array Bool) (#[true, true, true, true, true, true, true, true, true, true, false, false] : Array Bool) := regT hIA6_9 rfl noselIA6 (by kernel_rfl) (by kernel_rfl) (by kernel_rfl)
theorem tIA6_0123456789_10 : RegT Try.prog opsIA6 qIA6_10 (some 11) 1 (#[true, true, true, true, true, true, true, true, true, true, false, false] : Array Bool) (#[true, true, true, true, true, true, true, true, true, true, true, false] : Array Bool) := regT hIA6_10 rfl noselIA6 (by kernel_rfl) (by kernel_rfl) (by kernel_rfl)
theorem tIA6_0123456789_10_11 : RegT Try.prog opsIA6 qIA6_11 (some 15) 0 (#[true, true, true, true, true, true, true, true, true, true, true, false] : Array Bool) (#[true, true, true, true, true, true, true, true, true, true, true, true] : Array Bool) := regT hIA6_11 rfl noselIA6 (by kernel_rfl) (by kernel_rfl) (by kernel_rfl)
theorem cIA6_01234_5 : RegC Try.prog opsIA6 qIA6_5 (some 36) 6 (#[true, true, true, true, true, false, false, false, false, false, false, false] : Array Bool) (#[true, true, true, true, true, true, false, false, false, false, false, false] : Array Bool) := regC hIA6_5 rfl (by kernel_rfl) (by kernel_rfl)
end Go.Proofs.Ytlanmkimaambgaa.hexes

