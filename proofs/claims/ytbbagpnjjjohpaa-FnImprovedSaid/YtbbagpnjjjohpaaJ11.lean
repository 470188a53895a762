/-
  A list that the call owns, from some place of its block on, whatever its element type: how it is kept, sliced, appended to.
-/
import Derived.Test.YtbbagpnjjjohpaaJ10
import Derived.Test.YtbbagpnjjjohpaaJ1
import Derived.Deep.AppendLies

namespace Go.Proofs.Ytbbagpnjjjohpaa.hexes
open Go.RowKit

/-- The values xs (n elements of size each) lie at A in a block that the call owns (from lo on, below hi), maybe behind others. -/
def WinV (w : World) (lo hi e size : Nat) (A : Option Addr) (n c : Nat) (xs : List Value) : Prop :=
  xs.length = n * size ∧ ((n = 0 ∧ c = 0) ∨ ∃ g k pre, A = some ⟨g, k * size, none⟩ ∧ pre.length = k * size ∧ g < hi ∧ w.ownsRow lo e size (.slice (some ⟨g, 0, none⟩) (k + n) (k + c)) (k + n) (pre ++ xs))
/-- What was written: nothing, or a block of such elements that the call owns. -/
def ToV (w w' : World) (lo hi e size : Nat) (A : Option Addr) : Prop := ∃ row, w.grownBy w' row ∧ (row = none ∨ ∃ g o n c xs, row = some g ∧ A = some ⟨g, o, none⟩ ∧ g < hi ∧ w.ownsRow lo e size (.slice (some ⟨g, 0, none⟩) n c) n xs)

section
variable {w w' : World} {lo hi e size n c : Nat} {A : Option Addr} {xs : List Value}
theorem WinV.of_row (h : Row w lo hi e size A n c xs) : WinV w lo hi e size A n c xs := by
  refine ⟨h.own.1, ?_⟩
  rcases h.own.2 with ⟨hA, h0⟩ | ⟨g, cap, cur, hv, hb, hg, hnc, rest⟩
  · simp only [Value.slice.injEq] at hA
    exact .inl ⟨h0, hA.2.2⟩
  · simp only [Value.slice.injEq, true_and] at hv
    obtain ⟨rfl, rfl⟩ := hv
    exact .inr ⟨g, 0, [], by simp, by simp, h.lt g rfl, by simpa using h.own⟩
theorem WinV.below (h : WinV w lo hi e size A n c xs) (hb : Below w.heap.size w w') : WinV w' lo hi e size A n c xs :=
  ⟨h.1, h.2.imp id fun ⟨g, k, pre, h1, h2, h3, h4⟩ => ⟨g, k, pre, h1, h2, h3, own_below h4 hb⟩⟩
theorem WinV.bounds {lo' hi' : Nat} (h : WinV w lo hi e size A n c xs) (h1 : lo' ≤ lo) (h2 : hi ≤ hi') : WinV w lo' hi' e size A n c xs :=
  ⟨h.1, h.2.imp id fun ⟨g, k, pre, a1, a2, a3, a4⟩ => ⟨g, k, pre, a1, a2, Nat.lt_of_lt_of_le a3 h2, own_base a4 h1⟩⟩
theorem WinV.wrote {lo' hi' : Nat} (h : WinV w lo hi e size A n c xs) (hw : Wrote w w' lo' hi') (hd : hi ≤ lo' ∨ hi' ≤ lo) : WinV w' lo hi e size A n c xs := by
  obtain ⟨row, hg, hr⟩ := hw
  refine ⟨h.1, h.2.imp id fun ⟨g, k, pre, h1, h2, h3, h4⟩ => ⟨g, k, pre, h1, h2, h3, h4.kept hg (.inr fun e => ?_)⟩⟩
  have a1 := hr g e.symm
  have a2 := own_ge h4 g rfl
  omega
theorem WinV.nil (h : WinV w lo hi e size A n c xs) : A = none → c = 0 := fun hA => by
  rcases h.2 with ⟨_, h0⟩ | ⟨g, k, pre, rfl, _⟩
  · exact h0
  · cases hA
theorem WinV.cap (h : WinV w lo hi e size A n c xs) : n ≤ c := by
  rcases h.2 with ⟨h0, h1⟩ | ⟨g, k, pre, _, _, _, ho⟩
  · omega
  · have := own_capS ho
    omega
/-- Its cells. -/
theorem WinV.cells (h : WinV w lo hi e size A n c xs) (hn : 0 < n) : ∃ g o, A = some ⟨g, o, none⟩ ∧ g < w.heap.size ∧ ∀ j u, xs[j]? = some u → w.cell? ⟨g, o + j, none⟩ = some u := by
  rcases h.2 with ⟨h0, _⟩ | ⟨g, k, pre, rfl, hk, _, ho⟩
  · omega
  · refine ⟨g, k * size, rfl, own_lt ho, fun j u hu => ?_⟩
    have := ho.cells (g := g) rfl (k * size + j) u (by rw [List.getElem?_append_right (by omega), show k * size + j - pre.length = j by omega]; exact hu)
    rw [addr_add1, Nat.zero_add] at this
    exact this
theorem ToV.grow (h : ToV w w' lo hi e size A) : w.heap.size ≤ w'.heap.size := by
  obtain ⟨_, hg, _⟩ := h
  exact hg.size
theorem ToV.kept {B e' size' m : Nat} {v : Value} {ys : List Value} (h : ToV w w' lo hi e size A) (ho : w.ownsRow B e' size' v m ys) (ht : e' ≠ e) : w'.ownsRow B e' size' v m ys := by
  obtain ⟨row, hg, rfl | ⟨g, o, n, c, zs, rfl, _, _, hr⟩⟩ := h
  · exact ho.kept hg (by cases v.ownBlock <;> simp)
  · exact ho.kept hg (own_types ho hr ht)
theorem ToV.blk {g t : Nat} {cs : Array Value} (h : ToV w w' lo hi e size A) (hb : Blk w g t cs) (ht : t ≠ e) : Blk w' g t cs := by
  obtain ⟨row, hg, rfl | ⟨g2, o, n, c, zs, rfl, _, _, hr⟩⟩ := h
  · exact hb.grown hg (by simp)
  · exact hb.grown hg (Ne.symm (own_type hr hb ht))
theorem ToV.bel {a : World} (h : ToV w w' lo hi e size A) (hb : Below a.heap.size a w) (hlo : a.heap.size ≤ lo) : Below a.heap.size a w' := by
  obtain ⟨row, hg, hr⟩ := h
  refine hb.grown hg hb.size fun g hgr => ?_
  rcases hr with rfl | ⟨g2, o, n, c, ys, h2, _, _, ho⟩
  · cases hgr
  · rw [hgr] at h2
    obtain rfl := Option.some.inj h2
    exact Nat.le_trans hlo (own_ge ho g rfl)
theorem ToV.wrote (h : ToV w w' lo hi e size A) : Wrote w w' lo hi := by
  obtain ⟨row, hg, hr⟩ := h
  refine ⟨row, hg, fun g hgr => ?_⟩
  rcases hr with rfl | ⟨g2, o, n, c, ys, h2, _, hlt, ho⟩
  · cases hgr
  · rw [hgr] at h2
    obtain rfl := Option.some.inj h2
    exact ⟨own_ge ho g rfl, hlt⟩
/-- Another row is kept where its block is not the list's. -/
theorem ToV.apart {B e' size' m : Nat} {v : Value} {ys : List Value} (h : ToV w w' lo hi e size A) (ho : w.ownsRow B e' size' v m ys) (hd : ∀ g o, A = some ⟨g, o, none⟩ → v.ownBlock ≠ some g) : w'.ownsRow B e' size' v m ys := by
  obtain ⟨row, hg, rfl | ⟨g, o, n, c, zs, rfl, hA, _, hr⟩⟩ := h
  · exact ho.kept hg (by cases v.ownBlock <;> simp)
  · exact ho.kept hg (.inr (hd g o hA))
end

theorem setRow_sameV {P : Program} {t ty e : TypeId} {i : TypeInfo} (w : World) (ht : P.underlying t = some (.slice e)) (hi : P.info? e = some i)
    (g o sLen sCap : Nat) (cur : Array Value) (hg : w.heap[g]? = some (.cells cur e (0, 0))) (a : Addr) (m c : Nat) (news : List Value) (hl : news.length = m * i.size) (hnews : ∀ j u, news[j]? = some u → w.cell? (a.add j) = some u) (h1 : ∀ u ∈ news, u.oneCell' = true)
    (hroom : sLen + m ≤ sCap) (hfit : o + sLen * i.size + news.length ≤ cur.size) :
    (Builtin.append_ #[t, t] ty #[.slice (some ⟨g, o, none⟩) sLen sCap, .slice (some a) m c]).run P w = .ok (.slice (some ⟨g, o, none⟩) (sLen + m) sCap) (w.setRow g (cur.toList.take (o + sLen * i.size) ++ news ++ cur.toList.drop (o + sLen * i.size + news.length)).toArray) := by
  have h2 := run_firstCells_some (P := P) w i.size m a m c news hl hnews
  have h3 := run_storeCells_at P g (o + sLen * i.size) e news 0 cur w hg (by simpa using hfit) h1
  simp only [Nat.add_zero] at h3
  simp [Builtin.append_, run_underlying ht, sizeOf, typeInfo, hi, Builtin.lenOf, hroom, h2, Addr.add_lit, h3]

set_option maxRecDepth 100000 in
set_option maxHeartbeats 2000000 in
/-- An append to such a list: in place, or into a new block. -/
theorem run_append_winV {P : Program} {w : World} (t ty e : TypeId) {i : TypeInfo} {z : Value} {size bytes : Nat} (ht : P.underlying t = some (.slice e)) (hi0 : P.info? e = some i) (hz0 : i.zero = some z) (hz1 : i.size = size) (hz2 : i.bytes = bytes) (hzs : z.cells.size = size) (hsz : 0 < size)
    {lo hi n c : Nat} {A : Option Addr} {xs : List Value} (h : WinV w lo hi e size A n c xs) (A' : Option Addr) (m c' : Nat) (ys : List Value) (hA' : A' = none → c' = 0 ∧ m = 0) (hl : ys.length = m * size) (hs : ∀ ad, A' = some ad → ∀ j u, ys[j]? = some u → w.cell? (ad.add j) = some u) (h1 : ∀ u ∈ ys, u.oneCell' = true) (hb : (n + m) * bytes ≤ 140737488355328) (hb2 : n + m ≤ maxLen) (hlo : lo ≤ w.heap.size) :
    ∃ A2 c2 w', (Builtin.append_ #[t, t] ty #[.slice A n c, .slice A' m c']).run P w = .ok (.slice A2 (n + m) c2) w' ∧ WinV w' lo w'.heap.size e size A2 (n + m) c2 (xs ++ ys) ∧ ToV w w' lo w.heap.size e size A ∧ (A2 = A ∨ ∃ g o, A2 = some ⟨g, o, none⟩ ∧ w.heap.size ≤ g) := by
  subst hz1
  have hle : n ≤ c := h.cap
  have hlx := h.1
  have hlen : (xs ++ ys).length = (n + m) * i.size := by rw [List.length_append, hlx, hl, Nat.add_mul]
  cases A' with
  | none =>
    obtain ⟨rfl, rfl⟩ := hA' rfl
    obtain rfl := List.eq_nil_of_length_eq_zero (by simpa using hl)
    refine ⟨A, c, w, ?_, ?_, ⟨none, grown_refl _ _, .inl rfl⟩, .inl rfl⟩
    · cases A <;> simp [Builtin.append_, run_underlying ht, sizeOf, typeInfo, hi0, Builtin.lenOf, Builtin.firstCells, hle, storeCells]
    · rw [List.append_nil, Nat.add_zero]
      exact ⟨h.1, h.2.imp id fun ⟨g, k, pre, a1, a2, a3, a4⟩ => ⟨g, k, pre, a1, a2, own_lt a4, a4⟩⟩
  | some ad =>
    have hsn := hs ad rfl
    have grown : ∀ old, old < n + m →
        WinV (w.drew.alloc (.cells (xs.toArray ++ ys.toArray ++ Builtin.zeroCells z.cells (grownCap w (n + m) old e - (n + m))) e)) lo (w.drew.alloc (.cells (xs.toArray ++ ys.toArray ++ Builtin.zeroCells z.cells (grownCap w (n + m) old e - (n + m))) e)).heap.size e i.size (some ⟨w.heap.size, 0, none⟩) (n + m) (grownCap w (n + m) old e) (xs ++ ys) ∧
        ToV w (w.drew.alloc (.cells (xs.toArray ++ ys.toArray ++ Builtin.zeroCells z.cells (grownCap w (n + m) old e - (n + m))) e)) lo w.heap.size e i.size A := by
      intro old ho
      have hge := grownCap_ge w (n + m) old e
      have hcm : grownCap w (n + m) old e ≤ maxLen := grownCap_le_maxLen w (n + m) old e hb2
      refine ⟨⟨hlen, .inr ⟨w.heap.size, 0, [], by simp, by simp, by simp, ⟨by rw [List.nil_append, hlen, Nat.zero_add], .inr ⟨w.heap.size, 0 + grownCap w (n + m) old e, _, rfl, hlo, heap_alloc_new w.drew _, by omega, by omega, ?_, ?_⟩⟩⟩⟩, ⟨none, ⟨rfl, rfl, rfl, by simp, fun _ hk _ => heap_alloc_old w.drew _ hk⟩, .inl rfl⟩⟩
      · simp only [Array.size_append, List.size_toArray, size_zeroCells, hlx, hl, hzs, ← Nat.add_mul]
        congr 1
        omega
      · simp only [Array.toList_append, List.append_assoc, List.nil_append]
        rw [← List.append_assoc, show (0 + (n + m)) * i.size = (xs ++ ys).length by rw [hlen, Nat.zero_add]]
        exact List.take_left
    have hbytes : (n + m) * i.bytes ≤ 140737488355328 := by rw [hz2]; exact hb
    have h63 : n + m ≤ 9223372036854775807 := by simp only [maxLen] at hb2; omega
    cases A with
    | none =>
      obtain rfl := h.nil rfl
      obtain rfl : n = 0 := by omega
      obtain rfl := List.eq_nil_of_length_eq_zero (by simpa using hlx)
      by_cases m0 : m = 0
      · subst m0
        obtain rfl := List.eq_nil_of_length_eq_zero (by simpa using hl)
        refine ⟨none, 0, w, ?_, ⟨by simp, .inl ⟨rfl, rfl⟩⟩, ⟨none, grown_refl _ _, .inl rfl⟩, .inl rfl⟩
        have h2 := run_firstCells_some (P := P) w i.size 0 ad 0 c' [] (by simp) (fun j u hu => by simp at hu)
        simp [Builtin.append_, run_underlying ht, sizeOf, typeInfo, hi0, Builtin.lenOf, h2]
      · have hr := run_append_nil (P := P) w t ty e i _ ht hi0 hz0 ad m c' ys hl hsn (by omega) (by omega) (by have h := hbytes; simp only [Nat.zero_add] at h; omega)
        have hgr := grown 0 (by omega)
        simp only [Nat.zero_add, List.nil_append, Array.empty_append] at hgr hr ⊢
        exact ⟨_, _, _, hr, hgr.1, hgr.2, .inr ⟨_, _, rfl, Nat.le_refl _⟩⟩
    | some b =>
      by_cases hroom : n + m ≤ c
      · rcases h.2 with ⟨rfl, rfl⟩ | ⟨g, k, pre, hA, hk, hlt, ho⟩
        · obtain rfl : m = 0 := by omega
          obtain rfl := List.eq_nil_of_length_eq_zero (by simpa using hl)
          refine ⟨some b, 0, w, ?_, ?_, ⟨none, grown_refl _ _, .inl rfl⟩, .inl rfl⟩
          · have h2 := run_firstCells_some (P := P) w i.size 0 ad 0 c' [] (by simp) (fun j u hu => by simp at hu)
            simp [Builtin.append_, run_underlying ht, sizeOf, typeInfo, hi0, Builtin.lenOf, h2, storeCells]
          · exact ⟨by simpa using hlx, .inl ⟨rfl, rfl⟩⟩
        · obtain rfl := Option.some.inj hA
          rcases ho.2 with ⟨hv, _⟩ | ⟨g2, cap, cur, hv, hbg, hg, hnc, hcm, hcs, htake⟩
          · simp at hv
          · simp only [Value.slice.injEq, Option.some.injEq, Addr.mk.injEq, and_true, true_and] at hv
            obtain ⟨rfl, rfl⟩ := hv
            have hfit : k * i.size + n * i.size + ys.length ≤ cur.size := by rw [hl, hcs, ← Nat.add_mul, ← Nat.add_mul]; exact Nat.mul_le_mul_right _ (by omega)
            have hr := setRow_sameV (P := P) (ty := ty) w ht hi0 g (k * i.size) n c cur hg ad m c' ys hl hsn h1 hroom hfit
            have hh := setRow_heap w g cur (cur.toList.take (k * i.size + n * i.size) ++ ys ++ cur.toList.drop (k * i.size + n * i.size + ys.length)).toArray e _ hg
            refine ⟨_, _, _, hr, ⟨hlen, .inr ⟨g, k, pre, rfl, hk, (Array.getElem?_eq_some_iff.1 hh).1, ⟨by rw [List.length_append, hlen, hk, ← Nat.add_mul], .inr ⟨g, k + c, _, rfl, hbg, hh, by omega, hcm, ?_, ?_⟩⟩⟩⟩, ⟨some g, ⟨rfl, rfl, rfl, by simp, fun j _ hj => setRow_other w g j _ (fun e => hj (by simp [e]))⟩, .inr ⟨g, _, _, _, _, rfl, rfl, own_lt ho, ho⟩⟩, .inl rfl⟩
            · simp only [List.size_toArray, List.length_append, List.length_take, List.length_drop, Array.length_toList]
              omega
            · rw [← Nat.add_mul, htake, ← List.append_assoc, show (k + (n + m)) * i.size = (pre ++ xs ++ ys).length by rw [List.length_append, List.length_append, hlx, hl, hk, ← Nat.add_mul, ← Nat.add_mul, Nat.add_assoc]]
              exact List.take_left
      · have hr : (Builtin.append_ #[t, t] ty #[.slice (some b) n c, .slice (some ad) m c']).run P w = _ := run_append_grow (P := P) w t ty e i _ ht hi0 hz0 b n c xs hlx (fun j u hu => by
          by_cases n0 : 0 < n
          · obtain ⟨g, o, hA, _, hc⟩ := h.cells n0
            obtain rfl := Option.some.inj hA
            rw [addr_add1]
            exact hc j u hu
          · obtain rfl : n = 0 := by omega
            obtain rfl := List.eq_nil_of_length_eq_zero (by simpa using hlx)
            simp at hu) ad m c' ys hl hsn (by omega) (by omega) (growslice_fits (by omega) hbytes)
        have hgr := grown c (by omega)
        exact ⟨_, _, _, hr, hgr.1, hgr.2, .inr ⟨_, _, rfl, Nat.le_refl _⟩⟩
end Go.Proofs.Ytbbagpnjjjohpaa.hexes

