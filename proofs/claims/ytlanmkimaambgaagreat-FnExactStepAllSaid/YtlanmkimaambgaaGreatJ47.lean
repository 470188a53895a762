/-
  A list of records that the call owns, from some place of its block on: how it is kept, read, sliced, appended to, marked.
  slices.Clone at a list of records.
-/
import Derived.Test.YtlanmkimaambgaaGreatJ32
import Derived.Test.YtlanmkimaambgaaGreatJ19
import Derived.Test.YtlanmkimaambgaaGreatJ16
import Derived.Deep.AppendLies

namespace Go.Proofs.YtlanmkimaambgaaGreat.hexes
open Go.RowKit

/-- The list zs lies at A in a block that the call owns (from lo on, below hi), maybe behind other records. -/
def Win (w : World) (lo hi : Nat) (A : Option Addr) (n c : Nat) (zs : List Rc) : Prop :=
  zs.length = n ∧ ((n = 0 ∧ c = 0) ∨ ∃ g k pre, A = some ⟨g, k * 5, none⟩ ∧ pre.length = k ∧ g < hi ∧ w.ownsRow lo 54 5 (.slice (some ⟨g, 0, none⟩) (k + n) (k + c)) (k + n) (rcCells (pre ++ zs)))
/-- What was written: nothing, or a block of records that the call owns. -/
def WinTo (w w' : World) (lo hi : Nat) : Prop := ∃ row, w.grownBy w' row ∧ (row = none ∨ ∃ g n c xs, row = some g ∧ g < hi ∧ w.ownsRow lo 54 5 (.slice (some ⟨g, 0, none⟩) n c) n xs)

section
variable {w w' : World} {lo hi n c : Nat} {A : Option Addr} {zs : List Rc}
theorem Win.of_row (h : Row w lo hi 54 5 A n c (rcCells zs)) : Win w lo hi A n c zs := by
  have hl : zs.length = n := by have := h.own.1; rw [rcCells_length] at this; omega
  refine ⟨hl, ?_⟩
  rcases h.own.2 with ⟨hA, h0⟩ | ⟨g, cap, cur, hv, hb, hg, hnc, rest⟩
  · simp only [Value.slice.injEq] at hA
    exact .inl ⟨h0, hA.2.2⟩
  · simp only [Value.slice.injEq, true_and] at hv
    obtain ⟨rfl, rfl⟩ := hv
    exact .inr ⟨g, 0, [], by simp, rfl, h.lt g rfl, by simpa using h.own⟩
theorem Win.below (h : Win w lo hi A n c zs) (hb : Below w.heap.size w w') : Win w' lo hi A n c zs :=
  ⟨h.1, h.2.imp id fun ⟨g, k, pre, h1, h2, h3, h4⟩ => ⟨g, k, pre, h1, h2, h3, own_below h4 hb⟩⟩
theorem Win.bounds {lo' hi' : Nat} (h : Win w lo hi A n c zs) (h1 : lo' ≤ lo) (h2 : hi ≤ hi') : Win w lo' hi' A n c zs :=
  ⟨h.1, h.2.imp id fun ⟨g, k, pre, a1, a2, a3, a4⟩ => ⟨g, k, pre, a1, a2, Nat.lt_of_lt_of_le a3 h2, own_base a4 h1⟩⟩
theorem Win.wrote {lo' hi' : Nat} (h : Win w lo hi A n c zs) (hw : Wrote w w' lo' hi') (hd : hi ≤ lo' ∨ hi' ≤ lo) : Win w' lo hi A n c zs := by
  obtain ⟨row, hg, hr⟩ := hw
  refine ⟨h.1, h.2.imp id fun ⟨g, k, pre, h1, h2, h3, h4⟩ => ⟨g, k, pre, h1, h2, h3, h4.kept hg (.inr fun e => ?_)⟩⟩
  have a1 := hr g e.symm
  have a2 := own_ge h4 g rfl
  omega
theorem Win.types {B e size m : Nat} {v : Value} {xs : List Value} (h : Win w lo hi A n c zs) (ho : w.ownsRow B e size v m xs) (gr : w.grownBy w' v.ownBlock) (ht : 54 ≠ e) : Win w' lo hi A n c zs :=
  ⟨h.1, h.2.imp id fun ⟨g, k, pre, h1, h2, h3, h4⟩ => ⟨g, k, pre, h1, h2, h3, h4.kept gr (own_types h4 ho ht)⟩⟩
theorem Win.rc (h : Win w lo hi A n c zs) : Rcs w A zs := by
  rcases h.2 with ⟨h0, _⟩ | ⟨g, k, pre, rfl, hk, _, ho⟩
  · exact fun hp => absurd h.1 (by omega)
  · obtain ⟨A', c', he, hl, hs⟩ := Rcs.of_own ho
    simp only [Value.slice.injEq, true_and] at he
    obtain ⟨rfl, rfl⟩ := he
    have hd := hs.drop (k := k) (A' := some ⟨g, k * 5, none⟩) fun b off _ hA => by
      simp only [Option.some.injEq, Addr.mk.injEq, and_true] at hA
      obtain ⟨rfl, rfl⟩ := hA
      rw [Nat.zero_add]
    rw [← hk, List.drop_left] at hd
    rw [← hk]
    exact hd
theorem Win.nil (h : Win w lo hi A n c zs) : A = none → c = 0 := fun hA => by
  rcases h.2 with ⟨_, h0⟩ | ⟨g, k, pre, rfl, _⟩
  · exact h0
  · cases hA
theorem Win.cap (h : Win w lo hi A n c zs) : n ≤ c := by
  rcases h.2 with ⟨h0, h1⟩ | ⟨g, k, pre, _, _, _, ho⟩
  · omega
  · have := own_capS ho
    omega
theorem Win.rcLen (h : Win w lo hi A n c zs) : zs.length = n := h.1
theorem Win.at0 {r : Rc} (h : Win w lo hi A n c (r :: zs)) : ∃ g k, A = some ⟨g, k * 5, none⟩ := by
  rcases h.2 with ⟨h0, _⟩ | ⟨g, k, _, hA, _⟩
  · have := h.1; simp at this; omega
  · exact ⟨g, k, hA⟩
/-- Behind the first. -/
theorem Win.tail {r : Rc} (h : Win w lo hi A n c (r :: zs)) {T : Option Addr} (hT : ∀ g o, A = some ⟨g, o, none⟩ → 1 < c → T = some ⟨g, o + 5, none⟩) : Win w lo hi T (n - 1) (c - 1) zs := by
  have hl := h.1
  rw [List.length_cons] at hl
  refine ⟨by omega, ?_⟩
  rcases h.2 with ⟨h0, _⟩ | ⟨g, k, pre, hA, hk, hlt, ho⟩
  · omega
  · have hc := own_capS ho
    by_cases c1 : c = 1
    · exact .inl ⟨by omega, by omega⟩
    · refine .inr ⟨g, k + 1, pre ++ [r], ?_, by simp [hk], hlt, ?_⟩
      · rw [hT g (k * 5) hA (by omega), show (k + 1) * 5 = k * 5 + 5 by omega]
      · rw [show k + 1 + (n - 1) = k + n by omega, show k + 1 + (c - 1) = k + c by omega, List.append_assoc]
        exact ho
theorem WinTo.size (h : WinTo w w' lo hi) : w.heap.size ≤ w'.heap.size := by
  obtain ⟨_, hg, _⟩ := h
  exact hg.size
theorem WinTo.kept {B e size m : Nat} {v : Value} {xs : List Value} (h : WinTo w w' lo hi) (ho : w.ownsRow B e size v m xs) (ht : e ≠ 54) : w'.ownsRow B e size v m xs := by
  obtain ⟨row, hg, rfl | ⟨g, n, c, ys, rfl, _, hr⟩⟩ := h
  · exact ho.kept hg (by cases v.ownBlock <;> simp)
  · exact ho.kept hg (own_types ho hr ht)
theorem WinTo.blk {g t : Nat} {cs : Array Value} (h : WinTo w w' lo hi) (hb : Blk w g t cs) (ht : t ≠ 54) : Blk w' g t cs := by
  obtain ⟨row, hg, rfl | ⟨g2, n, c, ys, rfl, _, hr⟩⟩ := h
  · exact hb.grown hg (by simp)
  · exact hb.grown hg (Ne.symm (own_type hr hb ht))
theorem WinTo.bel {a : World} (h : WinTo w w' lo hi) (hb : Below a.heap.size a w) (hlo : a.heap.size ≤ lo) : Below a.heap.size a w' := by
  obtain ⟨row, hg, hr⟩ := h
  refine hb.grown hg hb.size fun g hgr => ?_
  rcases hr with rfl | ⟨g2, n, c, ys, h2, _, ho⟩
  · cases hgr
  · rw [hgr] at h2
    obtain rfl := Option.some.inj h2
    exact Nat.le_trans hlo (own_ge ho g rfl)
theorem WinTo.wrote (h : WinTo w w' lo hi) : Wrote w w' lo hi := by
  obtain ⟨row, hg, hr⟩ := h
  refine ⟨row, hg, fun g hgr => ?_⟩
  rcases hr with rfl | ⟨g2, n, c, ys, h2, hlt, ho⟩
  · cases hgr
  · rw [hgr] at h2
    obtain rfl := Option.some.inj h2
    exact ⟨own_ge ho g rfl, hlt⟩
end

theorem setRow_same {P : Program} {t ty e : TypeId} {i : TypeInfo} (w : World) (ht : P.underlying t = some (.slice e)) (hi : P.info? e = some i)
    (g o sLen sCap : Nat) (cur : Array Value) (hg : w.heap[g]? = some (.cells cur e (0, 0))) (a : Addr) (m c : Nat) (news : List Value) (hl : news.length = m * i.size) (hnews : ∀ j u, news[j]? = some u → w.cell? (a.add j) = some u) (h1 : ∀ u ∈ news, u.oneCell' = true)
    (hroom : sLen + m ≤ sCap) (hfit : o + sLen * i.size + news.length ≤ cur.size) :
    (Builtin.append_ #[t, t] ty #[.slice (some ⟨g, o, none⟩) sLen sCap, .slice (some a) m c]).run P w = .ok (.slice (some ⟨g, o, none⟩) (sLen + m) sCap) (w.setRow g (cur.toList.take (o + sLen * i.size) ++ news ++ cur.toList.drop (o + sLen * i.size + news.length)).toArray) := by
  have h2 := run_firstCells_some (P := P) w i.size m a m c news hl hnews
  have h3 := run_storeCells_at P g (o + sLen * i.size) e news 0 cur w hg (by simpa using hfit) h1
  simp only [Nat.add_zero] at h3
  simp [Builtin.append_, run_underlying ht, sizeOf, typeInfo, hi, Builtin.lenOf, hroom, h2, Addr.add_lit, h3]

set_option maxRecDepth 100000 in
set_option maxHeartbeats 2000000 in
/-- An append to such a list. -/
theorem run_append_win {w : World} (ty : TypeId) {lo hi n c : Nat} {A : Option Addr} {zs : List Rc} (h : Win w lo hi A n c zs) (A' : Option Addr) (m c' : Nat) (ys : List Rc) (hA' : A' = none → c' = 0) (hl : ys.length = m) (hs : Rcs w A' ys) (hb : n + m ≤ 4194304) (hlo : lo ≤ w.heap.size) :
    ∃ A2 c2 w', (Builtin.append_ #[31, 31] ty #[.slice A n c, .slice A' m c']).run Tryz.prog w = .ok (.slice A2 (n + m) c2) w' ∧ Win w' lo w'.heap.size A2 (n + m) c2 (zs ++ ys) ∧ WinTo w w' lo w.heap.size := by
  obtain ⟨i0, hi0, hz0, hz1, hz2⟩ := info_parts rcinfo
  have hle : n ≤ c := h.cap
  have hlz := h.1
  have hlen : (zs ++ ys).length = n + m := by rw [List.length_append, hlz, hl]
  have hcells : (rcCells ys).length = m * i0.size := by rw [rcCells_length, hl, hz1]
  cases A' with
  | none =>
    obtain rfl := rcs_none hs hl
    obtain rfl := hA' rfl
    obtain rfl := List.eq_nil_of_length_eq_zero hl
    refine ⟨A, c, w, ?_, ?_, none, grown_refl _ _, .inl rfl⟩
    · cases A <;> simp [Builtin.append_, run_underlying Tryz.underlying31, sizeOf, typeInfo, hi0, Builtin.lenOf, Builtin.firstCells, hle, storeCells]
    · rw [List.append_nil, Nat.add_zero]
      exact ⟨h.1, h.2.imp id fun ⟨g, k, pre, a1, a2, a3, a4⟩ => ⟨g, k, pre, a1, a2, own_lt a4, a4⟩⟩
  | some ad =>
    have grown : ∀ olds : List Value, olds = rcCells zs → ∀ old, old < n + m →
        Win (w.drew.alloc (.cells (olds.toArray ++ (rcCells ys).toArray ++ Builtin.zeroCells (Value.agg #[.int .i64 0, .int .i64 0, .int .i64 0, .int .i64 0, .int .i64 0]).cells (grownCap w (n + m) old 54 - (n + m))) 54)) lo (w.drew.alloc (.cells (olds.toArray ++ (rcCells ys).toArray ++ Builtin.zeroCells (Value.agg #[.int .i64 0, .int .i64 0, .int .i64 0, .int .i64 0, .int .i64 0]).cells (grownCap w (n + m) old 54 - (n + m))) 54)).heap.size (some ⟨w.heap.size, 0, none⟩) (n + m) (grownCap w (n + m) old 54) (zs ++ ys) ∧
        WinTo w (w.drew.alloc (.cells (olds.toArray ++ (rcCells ys).toArray ++ Builtin.zeroCells (Value.agg #[.int .i64 0, .int .i64 0, .int .i64 0, .int .i64 0, .int .i64 0]).cells (grownCap w (n + m) old 54 - (n + m))) 54)) lo w.heap.size := by
      rintro olds rfl old ho
      have hge := grownCap_ge w (n + m) old 54
      have hcm : grownCap w (n + m) old 54 ≤ maxLen := grownCap_le_maxLen w (n + m) old 54 (by unfold maxLen; omega)
      refine ⟨⟨hlen, .inr ⟨w.heap.size, 0, [], by simp, rfl, by simp, ⟨by rw [List.nil_append, rcCells_length, hlen]; omega, .inr ⟨w.heap.size, 0 + grownCap w (n + m) old 54, _, rfl, hlo, heap_alloc_new w.drew _, by omega, by omega, ?_, ?_⟩⟩⟩⟩, ⟨none, ⟨rfl, rfl, rfl, by simp, fun _ hk _ => heap_alloc_old w.drew _ hk⟩, .inl rfl⟩⟩
      · simp only [Array.size_append, List.size_toArray, size_zeroCells, rcCells_length, hlz, hl, show (Value.agg #[.int .i64 0, .int .i64 0, .int .i64 0, .int .i64 0, .int .i64 0]).cells.size = 5 from rfl]
        omega
      · simp only [Array.toList_append, List.append_assoc, List.nil_append]
        rw [← List.append_assoc, ← rcCells_append, show (0 + (n + m)) * 5 = (rcCells (zs ++ ys)).length by rw [rcCells_length, hlen, Nat.zero_add]]
        exact List.take_left
    have hbytes : (n + m) * i0.bytes ≤ 140737488355328 := by rw [hz2]; omega
    cases A with
    | none =>
      obtain rfl := h.nil rfl
      obtain rfl : n = 0 := by omega
      obtain rfl := List.eq_nil_of_length_eq_zero hlz
      by_cases m0 : m = 0
      · subst m0
        obtain rfl := List.eq_nil_of_length_eq_zero hl
        refine ⟨none, 0, w, ?_, ⟨rfl, .inl ⟨rfl, rfl⟩⟩, none, grown_refl _ _, .inl rfl⟩
        have h2 := run_firstCells_some (P := Tryz.prog) w i0.size 0 ad 0 c' (rcCells []) (by simp [rcCells]) (fun j u hu => by simp [rcCells] at hu)
        simp [Builtin.append_, run_underlying Tryz.underlying31, sizeOf, typeInfo, hi0, Builtin.lenOf, h2, rcCells]
      · have hr := run_append_nil (P := Tryz.prog) w 31 ty 54 i0 _ Tryz.underlying31 hi0 hz0 ad m c' (rcCells ys) hcells hs.news (by omega) (by omega) (by rw [hz2]; omega)
        have hgr := grown [] rfl 0 (by omega)
        simp only [Nat.zero_add, List.nil_append, Array.empty_append] at hgr hr ⊢
        exact ⟨_, _, _, hr, hgr⟩
    | some b =>
      by_cases hroom : n + m ≤ c
      · rcases h.2 with ⟨rfl, rfl⟩ | ⟨g, k, pre, hA, hk, hlt, ho⟩
        · obtain rfl : m = 0 := by omega
          obtain rfl := List.eq_nil_of_length_eq_zero hl
          refine ⟨some b, 0, w, ?_, ?_, none, grown_refl _ _, .inl rfl⟩
          · have h2 := run_firstCells_some (P := Tryz.prog) w i0.size 0 ad 0 c' (rcCells []) (by simp [rcCells]) (fun j u hu => by simp [rcCells] at hu)
            simp [Builtin.append_, run_underlying Tryz.underlying31, sizeOf, typeInfo, hi0, Builtin.lenOf, h2, rcCells, storeCells]
          · exact ⟨by simpa using hlz, .inl ⟨rfl, rfl⟩⟩
        · obtain rfl := Option.some.inj hA
          rcases ho.2 with ⟨hv, _⟩ | ⟨g2, cap, cur, hv, hbg, hg, hnc, hcm, hcs, htake⟩
          · simp at hv
          · simp only [Value.slice.injEq, Option.some.injEq, Addr.mk.injEq, and_true, true_and] at hv
            obtain ⟨rfl, rfl⟩ := hv
            have hfit : k * 5 + n * i0.size + (rcCells ys).length ≤ cur.size := by rw [rcCells_length, hl, hcs, hz1]; omega
            have hr := setRow_same (P := Tryz.prog) (ty := ty) w Tryz.underlying31 hi0 g (k * 5) n c cur hg ad m c' (rcCells ys) hcells hs.news (fun u hu => rcCells_one hu) hroom hfit
            have hh := setRow_heap w g cur (cur.toList.take (k * 5 + n * i0.size) ++ rcCells ys ++ cur.toList.drop (k * 5 + n * i0.size + (rcCells ys).length)).toArray 54 _ hg
            refine ⟨_, _, _, hr, ⟨hlen, .inr ⟨g, k, pre, rfl, hk, (Array.getElem?_eq_some_iff.1 hh).1, ⟨by rw [rcCells_length, List.length_append, hlen, hk], .inr ⟨g, k + c, _, rfl, hbg, hh, by omega, hcm, ?_, ?_⟩⟩⟩⟩, ⟨some g, ⟨rfl, rfl, rfl, by simp, fun j _ hj => setRow_other w g j _ (fun e => hj (by simp [e]))⟩, .inr ⟨g, _, _, _, rfl, own_lt ho, ho⟩⟩⟩
            · simp only [List.size_toArray, List.length_append, List.length_take, List.length_drop, Array.length_toList]
              omega
            · rw [show k * 5 + n * i0.size = (k + n) * 5 by rw [hz1]; omega, htake, ← rcCells_append, ← List.append_assoc, show (k + (n + m)) * 5 = (rcCells (pre ++ zs ++ ys)).length by rw [rcCells_length, List.length_append, List.length_append, hlz, hl, hk]; omega]
              exact List.take_left
      · have holds : ∀ j u, (rcCells zs)[j]? = some u → w.cell? (b.add j) = some u := h.rc.news
        have hr := run_append_grow (P := Tryz.prog) w 31 ty 54 i0 _ Tryz.underlying31 hi0 hz0 b n c (rcCells zs) (by rw [rcCells_length, hlz, hz1]) holds ad m c' (rcCells ys) hcells hs.news (by omega) (by omega) (growslice_fits (by omega) hbytes)
        have hgr := grown _ rfl c (by omega)
        exact ⟨_, _, _, hr, hgr⟩

theorem wpList_append_win {w : World} {ops : Array Oper} {rest : List Oper} {o : Oper} {a : Act} {Q : Exit → Act → World → Prop} (hgd : o.guard = none) (s x : Operand)
    (ho : o.op = .call { callee := .builtin .append, args := #[s, x], argTypes := #[31, 31] })
    {lo hi n c : Nat} {A : Option Addr} {zs : List Rc} (hs : a.eval s = .slice A n c) (hw : Win w lo hi A n c zs)
    (A' : Option Addr) (m c' : Nat) (ys : List Rc) (hx : a.eval x = .slice A' m c') (hA : A' = none → c' = 0) (hl : ys.length = m) (hsts : Rcs w A' ys) (hb : n + m ≤ 4194304) (hlo : lo ≤ w.heap.size)
    (h : ∀ A2 c2 w', Win w' lo w'.heap.size A2 (n + m) c2 (zs ++ ys) → WinTo w w' lo w.heap.size → wpList Tryz.prog ops Q rest (a.put o.dst (.slice A2 (n + m) c2)) w') : wpList Tryz.prog ops Q (o :: rest) a w := by
  refine wpList_plain hgd fun K hK => ?_
  obtain ⟨A2, c2, w', hr, h2, h3⟩ := run_append_win o.type hw A' m c' ys hA hl hsts hb hlo
  unfold Oper.wp execOp
  simp only [ho, resolve, invoke, builtin, Sem.run_bind, Sem.run_pure, Result.andThen_ok, List.map_toArray, List.map_cons, List.map_nil, hs, hx, hr]
  exact hK _ _ (h A2 c2 w' h2 h3)
end Go.Proofs.YtlanmkimaambgaaGreat.hexes

namespace Go.Proofs.YtlanmkimaambgaaGreat.hexes
open Go.RowKit

set_option maxRecDepth 100000 in
theorem cloneRc_any (n : Nat) (zs : List Rc) (hz : zs.length = n) (A : Option Addr) (c : Nat) (hA : A = none → c = 0) (w : World) (h1 : Rcs w A zs) (hn : n ≤ 4194304) :
    Calls Tryz.prog 27 #[.slice A n c] w fun e w' => ∃ v, e = .returned v ∧ w'.ownsRow w.heap.size 54 5 v n (rcCells zs) ∧ Below w.heap.size w w' := by
  cases A with
  | none =>
    obtain rfl := rcs_none h1 hz
    obtain rfl := hA rfl
    obtain rfl := List.eq_nil_of_length_eq_zero hz
    clear h1 hz hA
    have q22 : ∀ (w : World) (a : Option Addr) (n c n' c' : Nat), (binOp .eql 31 (.slice a n c) (.slice none n' c')).run Tryz.prog w = .ok (.bool a.isNone) w := fun w a n c n' c' => Lib.run_eql_slice_nil w _ _ a n c n' c' Tryz.underlying31
    go_enter Tryz.func27, Tryz.ntmps27
    go_wp2
    go_ret
    exact ⟨_, rfl, World.ownsRow_nil _ _ _ _, Below.refl _ _⟩
  | some ad =>
    have hb := Below.alloc (Below.refl w.heap.size w) (Nat.le_refl _) (.cells #[] 54)
    have S := Lib.hid (h1.below hb)
    have HB := Lib.hid hb
    have HZ := Lib.hid hz
    clear h1 hz hA hb
    have q22 : ∀ (w : World) (a : Option Addr) (n c n' c' : Nat), (binOp .eql 31 (.slice a n c) (.slice none n' c')).run Tryz.prog w = .ok (.bool a.isNone) w := fun w a n c n' c' => Lib.run_eql_slice_nil w _ _ a n c n' c' Tryz.underlying31
    go_enter Tryz.func27, Tryz.ntmps27
    go_wp2_with (at_builtin; refine wpList_append_rc rfl (.tmp 5) (.tmp 6) (by rfl) w.heap.size (.slice (some ⟨w.heap.size, 0, none⟩) 0 0) 0 [] (by rfl) (World.ownsRow_lit w #[] 0 (Nat.le_refl _) (by decide) (by rfl)) (some ad) n c zs rfl (fun h => by cases h) HZ.out S.out (by omega) HB.out.size ?_; intro v' w2 own2 gr2)
    have hb2 := HB.out.grown gr2 HB.out.size (fun k hk => Nat.le_of_eq (Option.some.inj hk))
    rw [Nat.zero_add, List.nil_append] at own2
    have O2 := Lib.hid own2
    have B2 := Lib.hid hb2
    clear own2 gr2 hb2
    go_wp2
    go_ret
    exact ⟨_, rfl, O2.out, B2.out⟩
end Go.Proofs.YtlanmkimaambgaaGreat.hexes

