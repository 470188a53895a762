/-
  Chapter 11 on lists: an improvement, what follows from it; where the work list leads; that it ends.
  Chapter 11's loops on lists, round by round.
  Lists of Count in memory: how they lie there, and the contracts of the laws' own functions on them.
  Lists of Record in memory: how they lie there, and the contracts of the laws' own functions on them.
-/
import Derived.Test.YtbbagpnjjjohpaaJ8
import Derived.Test.YtbbagpnjjjohpaaJ0
import Derived.Test.YtbbagpnjjjohpaaJ1

namespace Go.Proofs.Ytbbagpnjjjohpaa.hexes

/-- The cell's epoch, key and value are in their ranges. -/
def okCe (x : Ce) : Bool := decide (0 ≤ x.2.1 ∧ x.2.1 ≤ 3) && decide (0 ≤ x.2.2.1 ∧ x.2.2.1 ≤ 99) && decide (0 ≤ x.2.2.2 ∧ x.2.2.2 ≤ 999)
def emitC (zs : List Int) (ep ky vy : Int) : List Ce := zs.map fun z => (z, ep, ky, vy)
/-- What follows from a cell at its node. -/
def moreX (x : Nd) (c : Ce) : List Ce :=
  if chgO (okC x.1 x.2.1 x.2.2.1 (dec1 x.2.1) c.2.2.1 c.2.2.2 x.2.2.2) x.1 x.2.1 x.2.2.1 c.2.2.1 = true then emitC x.2.2.2 c.2.1 (chgK (okC x.1 x.2.1 x.2.2.1 (dec1 x.2.1) c.2.2.1 c.2.2.2 x.2.2.2) x.1 x.2.1 c.2.2.1) (chgV (okC x.1 x.2.1 x.2.2.1 (dec1 x.2.1) c.2.2.1 c.2.2.2 x.2.2.2) x.1 x.2.1 c.2.2.2) else []
def impB (gs : List Nd) (wk cp : Int) (c : Ce) : Bool := hasB gs c.1 && okGr gs dec1 wk cp && okCe c
/-- What Improve answers. -/
def impG (gs : List Nd) (wk cp : Int) (best : List Ce) (c : Ce) : List Ce × List Ce :=
  if (impB gs wk cp c && (recL best c).2) = true then ((recL best c).1, moreX (nodeAt gs c.1) c) else (best, [])
theorem recL_no {zs : List Ce} {x : Ce} (h : (recL zs x).2 = false) : (recL zs x).1 = zs := by
  unfold recL at *
  split
  · rfl
  · rename_i hn
    rw [if_neg hn] at h
    cases h
theorem recL_yes {zs : List Ce} {x : Ce} (h : (recL zs x).2 = true) : (recL zs x).1 = putC (delC zs x) x ∧ ¬((leastC zs x.1 x.2.1 x.2.2.1).2 = true ∧ (leastC zs x.1 x.2.1 x.2.2.1).1 ≤ x.2.2.2) := by
  unfold recL at *
  split
  · rename_i hn
    rw [if_pos hn] at h
    cases h
  · rename_i hn
    exact ⟨rfl, hn⟩
theorem emitC_len (zs : List Int) (ep ky vy : Int) : (emitC zs ep ky vy).length = zs.length := by simp [emitC]
theorem moreX_len (x : Nd) (c : Ce) : (moreX x c).length ≤ x.2.2.2.length := by
  unfold moreX
  split
  · exact Nat.le_of_eq (emitC_len _ _ _ _)
  · simp
theorem nodeAt_out2 {gs : List Nd} {wk cp : Int} {t : Int} (h1 : hasB gs t = true) (h2 : okGr gs dec1 wk cp = true) : (nodeAt gs t).2.2.2.length ≤ 2 := by
  obtain ⟨j, rfl, hl⟩ := hasB_nat h1
  rw [nodeAt_of hl]
  unfold okGr at h2
  simp only [Bool.and_eq_true] at h2
  have h3 := allB_at h2.2 hl
  unfold nodeB at h3
  simp only [Bool.and_eq_true] at h3
  exact okN_len h3.1.1
theorem impG_more (gs : List Nd) (wk cp : Int) (best : List Ce) (c : Ce) : (impG gs wk cp best c).2.length ≤ 2 := by
  unfold impG
  split
  · rename_i h
    unfold impB at h
    simp only [Bool.and_eq_true] at h
    exact Nat.le_trans (moreX_len _ _) (nodeAt_out2 h.1.1.1 h.1.1.2)
  · simp
theorem impG_best (gs : List Nd) (wk cp : Int) (best : List Ce) (c : Ce) : (impG gs wk cp best c).1.length ≤ best.length + 1 := by
  unfold impG
  split
  · have h := recC_len 5 best c
    simpa [recC] using h
  · simp
theorem moreX_ep {x : Nd} {c y : Ce} (h : y ∈ moreX x c) : y.2.1 = c.2.1 := by
  unfold moreX at h
  split at h
  · unfold emitC at h
    simp only [List.mem_map] at h
    obtain ⟨z, _, rfl⟩ := h
    rfl
  · simp at h
theorem impG_ep {gs : List Nd} {wk cp : Int} {best : List Ce} {c y : Ce} (h : y ∈ (impG gs wk cp best c).2) : y.2.1 = c.2.1 := by
  unfold impG at h
  split at h
  · exact moreX_ep h
  · simp at h

/-- A key's least value, at most 1000. -/
def lv (best : List Ce) (ep op ky : Int) : Nat := if (leastC best op ep ky).2 = true then min (leastC best op ep ky).1.toNat 1000 else 1000
theorem lv_le (best : List Ce) (ep op ky : Int) : lv best ep op ky ≤ 1000 := by
  unfold lv
  split
  · exact Nat.min_le_right _ _
  · exact Nat.le_refl _
theorem keyC_iff {o e k : Int} {z : Ce} : keyC o e k z = true ↔ z.1 = o ∧ z.2.1 = e ∧ z.2.2.1 = k := by simp [keyC]
theorem least_of {zs : List Ce} {o e k : Int} {z : Ce} (h : z ∈ zs) (hk : keyC o e k z = true) : (leastC zs o e k).2 = true ∧ (leastC zs o e k).1 ≤ z.2.2.2 := by
  obtain ⟨h1, h2⟩ := least_is zs o e k
  cases hs : (leastC zs o e k).2 with
  | false => exact absurd (h1 hs z h) (by rw [hk]; decide)
  | true => exact ⟨rfl, (h2 hs).2 z h hk⟩
theorem least_in {zs : List Ce} {o e k : Int} (h : (leastC zs o e k).2 = true) : ∃ z ∈ zs, keyC o e k z = true ∧ z.2.2.2 = (leastC zs o e k).1 := by
  obtain ⟨_, h2⟩ := least_is zs o e k
  exact (h2 h).1
theorem lv_same {zs ys : List Ce} {o e k : Int} (h : ∀ z, keyC o e k z = true → (z ∈ zs ↔ z ∈ ys)) : lv zs e o k = lv ys e o k := by
  have half : ∀ {zs ys : List Ce}, (∀ z, keyC o e k z = true → (z ∈ zs ↔ z ∈ ys)) → (leastC zs o e k).2 = true → (leastC ys o e k).2 = true ∧ (leastC ys o e k).1 ≤ (leastC zs o e k).1 := by
    intro zs ys h hz
    obtain ⟨z, hm, hk, hv⟩ := least_in hz
    have := least_of ((h z hk).1 hm) hk
    exact ⟨this.1, hv ▸ this.2⟩
  unfold lv
  cases hz : (leastC zs o e k).2 with
  | true =>
    obtain ⟨h1, h2⟩ := half h hz
    obtain ⟨_, h3⟩ := half (fun z hk => (h z hk).symm) h1
    rw [if_pos rfl, if_pos h1, Int.le_antisymm h2 h3]
  | false =>
    cases hy : (leastC ys o e k).2 with
    | true => rw [(half (fun z hk => (h z hk).symm) hy).1] at hz; cases hz
    | false => rfl
theorem put_del_mem {zs : List Ce} {x z : Ce} : z ∈ putC (delC zs x) x ↔ z = x ∨ (z ∈ zs ∧ keyC x.1 x.2.1 x.2.2.1 z = false) := by
  rw [put_mem]
  unfold delC
  simp
theorem keyC_me (x : Ce) : keyC x.1 x.2.1 x.2.2.1 x = true := by simp [keyC]
theorem lv_hit {zs : List Ce} {x : Ce} (hv : 0 ≤ x.2.2.2 ∧ x.2.2.2 ≤ 999) (h : ¬((leastC zs x.1 x.2.1 x.2.2.1).2 = true ∧ (leastC zs x.1 x.2.1 x.2.2.1).1 ≤ x.2.2.2)) : lv (putC (delC zs x) x) x.2.1 x.1 x.2.2.1 < lv zs x.2.1 x.1 x.2.2.1 := by
  have h1 := least_of (put_del_mem.2 (.inl rfl)) (keyC_me x) (zs := putC (delC zs x) x)
  obtain ⟨z, hm, hk, hz⟩ := least_in h1.1
  have hzx : z = x := by
    rcases put_del_mem.1 hm with h | ⟨_, h⟩
    · exact h
    · rw [hk] at h; cases h
  subst hzx
  unfold lv
  rw [if_pos h1.1, ← hz]
  cases hb : (leastC zs z.1 z.2.1 z.2.2.1).2 with
  | false => rw [if_neg (by simp)]; omega
  | true =>
    rw [if_pos rfl]
    have : ¬(leastC zs z.1 z.2.1 z.2.2.1).1 ≤ z.2.2.2 := fun hle => h ⟨hb, hle⟩
    omega
theorem lv_miss {zs : List Ce} {x : Ce} {o e k : Int} (h : ¬(x.1 = o ∧ x.2.1 = e ∧ x.2.2.1 = k)) : lv (putC (delC zs x) x) e o k = lv zs e o k := by
  refine lv_same fun z hk => ?_
  rw [put_del_mem]
  have hz := keyC_iff.1 hk
  constructor
  · rintro (rfl | ⟨hm, _⟩)
    · exact absurd hz h
    · exact hm
  · intro hm
    refine .inr ⟨hm, ?_⟩
    cases hc : keyC x.1 x.2.1 x.2.2.1 z with
    | false => rfl
    | true =>
      have h2 := keyC_iff.1 hc
      exact absurd ⟨h2.1.symm.trans hz.1, h2.2.1.symm.trans hz.2.1, h2.2.2.symm.trans hz.2.2⟩ h

/-- All keys that a graph's operators can have. -/
def allK : List (Int × Int) := (List.range 8).flatMap fun (o : Nat) => (List.range 100).map fun (k : Nat) => ((o : Int), (k : Int))
theorem allK_mem {o k : Int} (h1 : 0 ≤ o ∧ o ≤ 7) (h2 : 0 ≤ k ∧ k ≤ 99) : (o, k) ∈ allK := by
  unfold allK
  simp only [List.mem_flatMap, List.mem_range, List.mem_map]
  exact ⟨o.toNat, by omega, k.toNat, by omega, by rw [Int.toNat_of_nonneg h1.1, Int.toNat_of_nonneg h2.1]⟩
/-- How much an epoch's values can still fall. -/
def pot (best : List Ce) (ep : Int) : Nat := (allK.map fun p => lv best ep p.1 p.2).sum
theorem sum_le {l : List (Int × Int)} {f g : Int × Int → Nat} (h : ∀ p ∈ l, f p ≤ g p) : (l.map f).sum ≤ (l.map g).sum := by
  induction l with
  | nil => simp
  | cons a l ih =>
    simp only [List.map_cons, List.sum_cons]
    have h1 := h a (by simp)
    have h2 := ih fun p hp => h p (by simp [hp])
    omega
theorem sum_lt {l : List (Int × Int)} {f g : Int × Int → Nat} (h : ∀ p ∈ l, f p ≤ g p) {q : Int × Int} (hq : q ∈ l) (hl : f q < g q) : (l.map f).sum < (l.map g).sum := by
  induction l with
  | nil => cases hq
  | cons a l ih =>
    simp only [List.map_cons, List.sum_cons]
    have h1 := h a (by simp)
    have h3 := sum_le (l := l) (f := f) (g := g) fun p hp => h p (List.mem_cons_of_mem _ hp)
    rcases List.mem_cons.1 hq with rfl | hq
    · omega
    · have h2 := ih (fun p hp => h p (by simp [hp])) hq
      omega
theorem pot_le (best : List Ce) (ep : Int) : pot best ep ≤ 800000 := by
  have h : pot best ep ≤ (allK.map fun _ => 1000).sum := sum_le fun p _ => lv_le _ _ _ _
  have e : (allK.map fun _ => 1000).sum = 800000 := by
    have h1 : ∀ l : List (Int × Int), (l.map fun _ => 1000).sum = 1000 * l.length := fun l => by
      induction l with
      | nil => rfl
      | cons a l ih => simp only [List.map_cons, List.sum_cons, List.length_cons, ih]; omega
    rw [h1]
    have h2 : allK.length = 800 := by
      simp [allK]
      decide
    rw [h2]
  omega
theorem impB_range {gs : List Nd} {wk cp : Int} {c : Ce} (h : impB gs wk cp c = true) : (0 ≤ c.1 ∧ c.1 ≤ 7) ∧ (0 ≤ c.2.1 ∧ c.2.1 ≤ 3) ∧ (0 ≤ c.2.2.1 ∧ c.2.2.1 ≤ 99) ∧ 0 ≤ c.2.2.2 ∧ c.2.2.2 ≤ 999 := by
  unfold impB okCe at h
  simp only [Bool.and_eq_true, decide_eq_true_eq] at h
  obtain ⟨⟨h1, h2⟩, h3⟩ := h
  have h4 := of_decide_eq_true h1
  have h5 : gs.length ≤ 8 := by
    unfold okGr at h2
    simp only [Bool.and_eq_true, decide_eq_true_eq] at h2
    omega
  omega
theorem impG_pot {gs : List Nd} {wk cp : Int} {best : List Ce} {c : Ce} {ep : Int} (he : c.2.1 = ep) : (impG gs wk cp best c = (best, []) ∨ pot (impG gs wk cp best c).1 ep < pot best ep) := by
  unfold impG
  split
  · rename_i h
    refine .inr ?_
    rw [Bool.and_eq_true] at h
    obtain ⟨hb, hr⟩ := h
    obtain ⟨e1, e2⟩ := recL_yes hr
    obtain ⟨ho, _, hk, hv⟩ := impB_range hb
    subst he
    show pot (recL best c).1 c.2.1 < pot best c.2.1
    rw [e1]
    refine sum_lt (q := (c.1, c.2.2.1)) (fun p _ => ?_) (allK_mem ho hk) (lv_hit hv e2)
    by_cases hp : c.1 = p.1 ∧ c.2.1 = c.2.1 ∧ c.2.2.1 = p.2
    · have := lv_hit hv e2
      rw [← hp.1, ← hp.2.2]
      exact Nat.le_of_lt this
    · exact Nat.le_of_eq (lv_miss hp)
  · exact .inl rfl

/-- Where a work list leads. -/
inductive FixTo (gs : List Nd) (wk cp : Int) : List Ce → List Ce → List Ce → Prop
  | done (best : List Ce) : FixTo gs wk cp best [] best
  | step {best : List Ce} {x : Ce} {xs q : List Ce} : FixTo gs wk cp (impG gs wk cp best x).1 (xs ++ (impG gs wk cp best x).2) q → FixTo gs wk cp best (x :: xs) q
theorem FixTo.nil {gs : List Nd} {wk cp : Int} {best q : List Ce} (h : FixTo gs wk cp best [] q) : q = best := by cases h; rfl
theorem FixTo.next {gs : List Nd} {wk cp : Int} {best q xs : List Ce} {x : Ce} (h : FixTo gs wk cp best (x :: xs) q) : FixTo gs wk cp (impG gs wk cp best x).1 (xs ++ (impG gs wk cp best x).2) q := by cases h; assumption
/-- What a round keeps: the epoch; how long both lists are. -/
structure FixIn (ep : Int) (N : Nat) (best xs : List Ce) : Prop where
  eps : ∀ x ∈ xs, x.2.1 = ep
  bests : best.length + pot best ep ≤ 800000
  lists : xs.length + 2 * pot best ep ≤ N + 1600000
theorem FixIn.start {ep : Int} {N : Nat} {xs : List Ce} (h : ∀ x ∈ xs, x.2.1 = ep) (hN : xs.length ≤ N) : FixIn ep N [] xs := by
  have := pot_le [] ep
  exact ⟨h, by simpa using this, by omega⟩
theorem FixIn.next {gs : List Nd} {wk cp : Int} {ep : Int} {N : Nat} {best xs : List Ce} {x : Ce} (h : FixIn ep N best (x :: xs)) : FixIn ep N (impG gs wk cp best x).1 (xs ++ (impG gs wk cp best x).2) := by
  have hx := h.eps x (by simp)
  have h1 := impG_more gs wk cp best x
  have h2 := impG_best gs wk cp best x
  have hb := h.bests
  have hl := h.lists
  rw [List.length_cons] at hl
  refine ⟨fun y hy => ?_, ?_, ?_⟩
  · rcases List.mem_append.1 hy with hm | hm
    · exact h.eps y (by simp [hm])
    · exact (impG_ep hm).trans hx
  · rcases impG_pot (gs := gs) (wk := wk) (cp := cp) (best := best) hx with e | e
    · rw [e]; exact hb
    · omega
  · rw [List.length_append]
    rcases impG_pot (gs := gs) (wk := wk) (cp := cp) (best := best) hx with e | e
    · rw [e]; simp; omega
    · omega
theorem FixIn.len {ep : Int} {N : Nat} {best xs : List Ce} (h : FixIn ep N best xs) : best.length ≤ 800000 ∧ xs.length ≤ N + 1600000 := ⟨by have := h.bests; omega, by have := h.lists; omega⟩
theorem FixTo.len {gs : List Nd} {wk cp : Int} {ep : Int} {N : Nat} {best xs q : List Ce} (h : FixTo gs wk cp best xs q) (hi : FixIn ep N best xs) : q.length ≤ 800000 := by
  induction h with
  | done best => exact hi.len.1
  | step _ ih => exact ih hi.next
end Go.Proofs.Ytbbagpnjjjohpaa.hexes

namespace Go.Proofs.Ytbbagpnjjjohpaa.hexes

theorem take_last {α : Type} {zs : List α} {j : Nat} (h : j < zs.length) : zs.take (j + 1) = zs.take j ++ [zs[j]] := by rw [List.take_succ_eq_append_getElem h]

end Go.Proofs.Ytbbagpnjjjohpaa.hexes

namespace Go.Proofs.Ytbbagpnjjjohpaa.hexes
open Go.RowKit

/-- A list of Count as a row of cells. -/
def ctCells (zs : List Ct) : List Value := zs.flatMap fun z => [.int .i64 z.1.1, .int .i64 z.1.2, .int .i64 z.2]

theorem ctCells_cons (z : Ct) (zs : List Ct) : ctCells (z :: zs) = .int .i64 z.1.1 :: .int .i64 z.1.2 :: .int .i64 z.2 :: ctCells zs := rfl
theorem ctCells_length (zs : List Ct) : (ctCells zs).length = zs.length * 3 := by
  induction zs with
  | nil => rfl
  | cons z zs ih => rw [ctCells_cons]; simp only [List.length_cons, ih]; omega
theorem ctCells_at (zs : List Ct) (j : Nat) (h : j < zs.length) : (ctCells zs)[j * 3]? = some (.int .i64 zs[j].1.1) ∧ (ctCells zs)[j * 3 + 1]? = some (.int .i64 zs[j].1.2) ∧ (ctCells zs)[j * 3 + 2]? = some (.int .i64 zs[j].2) := by
  induction zs generalizing j with
  | nil => simp at h
  | cons z zs ih =>
    rw [ctCells_cons]
    cases j with
    | zero => exact ⟨rfl, rfl, rfl⟩
    | succ j =>
      have := ih j (by simpa using h)
      rw [show (j + 1) * 3 = j * 3 + 1 + 1 + 1 by omega]
      simpa using this

/-- A list of Count that can be read at A. -/
def Cts (w : World) (A : Option Addr) (zs : List Ct) : Prop :=
  0 < zs.length → ∃ b off, A = some ⟨b, off, none⟩ ∧ b < w.heap.size ∧ ∀ j, (h : j < zs.length) → w.cell? ⟨b, off + j * 3, none⟩ = some (.int .i64 zs[j].1.1) ∧ w.cell? ⟨b, off + j * 3 + 1, none⟩ = some (.int .i64 zs[j].1.2) ∧ w.cell? ⟨b, off + j * 3 + 2, none⟩ = some (.int .i64 zs[j].2)

theorem Cts.below {w w' : World} {A : Option Addr} {zs : List Ct} (h : Cts w A zs) (hb : Below w.heap.size w w') : Cts w' A zs := fun hl => by
  obtain ⟨b, off, hA, hlt, hz⟩ := h hl
  refine ⟨b, off, hA, Nat.lt_of_lt_of_le hlt hb.size, fun j hj => ?_⟩
  obtain ⟨h0, h1, h2⟩ := hz j hj
  exact ⟨below_keep hb h0, below_keep hb h1, below_keep hb h2⟩

theorem Cts.of_own {w : World} {B e n : Nat} {v : Value} {zs : List Ct} (h : w.ownsRow B e 3 v n (ctCells zs)) : ∃ A cap, v = .slice A n cap ∧ zs.length = n ∧ Cts w A zs := by
  have hl : zs.length = n := by have := h.1; rw [ctCells_length] at this; omega
  rcases h.2 with ⟨rfl, rfl⟩ | ⟨g, cap, cur, rfl, _, hg, hnc, _, hcs, htk⟩
  · exact ⟨none, 0, rfl, hl, fun h => absurd h (by omega)⟩
  · refine ⟨some ⟨g, 0, none⟩, cap, rfl, hl, fun hp => ⟨g, 0, rfl, ?_, fun j hj => ?_⟩⟩
    · rcases Nat.lt_or_ge g w.heap.size with hlt | hge
      · exact hlt
      · rw [Array.getElem?_eq_none hge] at hg; cases hg
    · have key : ∀ i u, (ctCells zs)[i]? = some u → w.cell? ⟨g, i, none⟩ = some u := fun i u hu => by
        rw [cell_of_row w g i cur e (0, 0) hg]
        rw [← htk, List.getElem?_take] at hu
        split at hu
        · simpa using hu
        · cases hu
      rw [Nat.zero_add]
      obtain ⟨h0, h1, h2⟩ := ctCells_at zs j hj
      exact ⟨key _ _ h0, key _ _ h1, key _ _ h2⟩

/-- The k-th entry of a list that can be read, cell by cell. -/
theorem Cts.at {w : World} {A : Option Addr} {zs : List Ct} (h : Cts w A zs) {k : Nat} (hk : k < zs.length) : ∃ b off p0 p1 p2, A = some ⟨b, off, none⟩ ∧ zs[k] = ((p0, p1), p2) ∧ w.cell? ⟨b, off + k * 3, none⟩ = some (.int .i64 p0) ∧ w.cell? ⟨b, off + k * 3 + 1, none⟩ = some (.int .i64 p1) ∧ w.cell? ⟨b, off + k * 3 + 2, none⟩ = some (.int .i64 p2) := by
  obtain ⟨b, off, hA, _, hz⟩ := h (by omega)
  obtain ⟨h0, h1, h2⟩ := hz k hk
  exact ⟨b, off, zs[k].1.1, zs[k].1.2, zs[k].2, hA, rfl, h0, h1, h2⟩

theorem Cts.news {w : World} {ad : Addr} {ys : List Ct} (h : Cts w (some ad) ys) (j : Nat) (u : Value) (hu : (ctCells ys)[j]? = some u) : w.cell? (ad.add j) = some u := by
  have hj : j < ys.length * 3 := by rw [← ctCells_length]; exact (List.getElem?_eq_some_iff.1 hu).1
  obtain ⟨b, off, hA, _, hz⟩ := h (by omega)
  obtain rfl : ad = ⟨b, off, none⟩ := Option.some.inj hA
  rw [addr_add1]
  have hk : j / 3 < ys.length := by omega
  obtain ⟨e0, e1, e2⟩ := ctCells_at ys (j / 3) hk
  obtain ⟨z0, z1, z2⟩ := hz (j / 3) hk
  have hm : j % 3 = 0 ∨ j % 3 = 1 ∨ j % 3 = 2 := by omega
  rcases hm with h2 | h2 | h2
  · rw [show j / 3 * 3 = j by omega] at e0
    rw [show off + j / 3 * 3 = off + j by omega] at z0
    rw [z0, ← hu, e0]
  · rw [show j / 3 * 3 + 1 = j by omega] at e1
    rw [show off + j / 3 * 3 + 1 = off + j by omega] at z1
    rw [z1, ← hu, e1]
  · rw [show j / 3 * 3 + 2 = j by omega] at e2
    rw [show off + j / 3 * 3 + 2 = off + j by omega] at z2
    rw [z2, ← hu, e2]

end Go.Proofs.Ytbbagpnjjjohpaa.hexes

namespace Go.Proofs.Ytbbagpnjjjohpaa.hexes
open Go.RowKit

/-- A list of Record as a row of cells. -/
def rcCells (zs : List Rc) : List Value := zs.flatMap fun z => [.int .i64 z.1, .int .i64 z.2.1.1, .int .i64 z.2.1.2, .int .i64 z.2.2.1, .int .i64 z.2.2.2]

theorem rcCells_cons (z : Rc) (zs : List Rc) : rcCells (z :: zs) = .int .i64 z.1 :: .int .i64 z.2.1.1 :: .int .i64 z.2.1.2 :: .int .i64 z.2.2.1 :: .int .i64 z.2.2.2 :: rcCells zs := rfl
theorem rcCells_length (zs : List Rc) : (rcCells zs).length = zs.length * 5 := by
  induction zs with
  | nil => rfl
  | cons z zs ih => rw [rcCells_cons]; simp only [List.length_cons, ih]; omega
theorem rcCells_at (zs : List Rc) (j : Nat) (h : j < zs.length) : (rcCells zs)[j * 5]? = some (.int .i64 zs[j].1) ∧ (rcCells zs)[j * 5 + 1]? = some (.int .i64 zs[j].2.1.1) ∧ (rcCells zs)[j * 5 + 2]? = some (.int .i64 zs[j].2.1.2) ∧ (rcCells zs)[j * 5 + 3]? = some (.int .i64 zs[j].2.2.1) ∧ (rcCells zs)[j * 5 + 4]? = some (.int .i64 zs[j].2.2.2) := by
  induction zs generalizing j with
  | nil => simp at h
  | cons z zs ih =>
    rw [rcCells_cons]
    cases j with
    | zero => exact ⟨rfl, rfl, rfl, rfl, rfl⟩
    | succ j =>
      have := ih j (by simpa using h)
      rw [show (j + 1) * 5 = j * 5 + 1 + 1 + 1 + 1 + 1 by omega]
      simpa using this

/-- A list of Record that can be read at A. -/
def Rcs (w : World) (A : Option Addr) (zs : List Rc) : Prop :=
  0 < zs.length → ∃ b off, A = some ⟨b, off, none⟩ ∧ b < w.heap.size ∧ ∀ j, (h : j < zs.length) → w.cell? ⟨b, off + j * 5, none⟩ = some (.int .i64 zs[j].1) ∧ w.cell? ⟨b, off + j * 5 + 1, none⟩ = some (.int .i64 zs[j].2.1.1) ∧ w.cell? ⟨b, off + j * 5 + 2, none⟩ = some (.int .i64 zs[j].2.1.2) ∧ w.cell? ⟨b, off + j * 5 + 3, none⟩ = some (.int .i64 zs[j].2.2.1) ∧ w.cell? ⟨b, off + j * 5 + 4, none⟩ = some (.int .i64 zs[j].2.2.2)

theorem Rcs.below {w w' : World} {A : Option Addr} {zs : List Rc} (h : Rcs w A zs) (hb : Below w.heap.size w w') : Rcs w' A zs := fun hl => by
  obtain ⟨b, off, hA, hlt, hz⟩ := h hl
  refine ⟨b, off, hA, Nat.lt_of_lt_of_le hlt hb.size, fun j hj => ?_⟩
  obtain ⟨h0, h1, h2, h3, h4⟩ := hz j hj
  exact ⟨below_keep hb h0, below_keep hb h1, below_keep hb h2, below_keep hb h3, below_keep hb h4⟩

theorem Rcs.of_own {w : World} {B e n : Nat} {v : Value} {zs : List Rc} (h : w.ownsRow B e 5 v n (rcCells zs)) : ∃ A cap, v = .slice A n cap ∧ zs.length = n ∧ Rcs w A zs := by
  have hl : zs.length = n := by have := h.1; rw [rcCells_length] at this; omega
  rcases h.2 with ⟨rfl, rfl⟩ | ⟨g, cap, cur, rfl, _, hg, hnc, _, hcs, htk⟩
  · exact ⟨none, 0, rfl, hl, fun h => absurd h (by omega)⟩
  · refine ⟨some ⟨g, 0, none⟩, cap, rfl, hl, fun hp => ⟨g, 0, rfl, ?_, fun j hj => ?_⟩⟩
    · rcases Nat.lt_or_ge g w.heap.size with hlt | hge
      · exact hlt
      · rw [Array.getElem?_eq_none hge] at hg; cases hg
    · have key : ∀ i u, (rcCells zs)[i]? = some u → w.cell? ⟨g, i, none⟩ = some u := fun i u hu => by
        rw [cell_of_row w g i cur e (0, 0) hg]
        rw [← htk, List.getElem?_take] at hu
        split at hu
        · simpa using hu
        · cases hu
      rw [Nat.zero_add]
      obtain ⟨h0, h1, h2, h3, h4⟩ := rcCells_at zs j hj
      exact ⟨key _ _ h0, key _ _ h1, key _ _ h2, key _ _ h3, key _ _ h4⟩

/-- The k-th entry of a list that can be read, cell by cell. -/
theorem Rcs.at {w : World} {A : Option Addr} {zs : List Rc} (h : Rcs w A zs) {k : Nat} (hk : k < zs.length) : ∃ b off p0 p1 p2 p3 p4, A = some ⟨b, off, none⟩ ∧ zs[k] = (p0, (p1, p2), p3, p4) ∧ w.cell? ⟨b, off + k * 5, none⟩ = some (.int .i64 p0) ∧ w.cell? ⟨b, off + k * 5 + 1, none⟩ = some (.int .i64 p1) ∧ w.cell? ⟨b, off + k * 5 + 2, none⟩ = some (.int .i64 p2) ∧ w.cell? ⟨b, off + k * 5 + 3, none⟩ = some (.int .i64 p3) ∧ w.cell? ⟨b, off + k * 5 + 4, none⟩ = some (.int .i64 p4) := by
  obtain ⟨b, off, hA, _, hz⟩ := h (by omega)
  obtain ⟨h0, h1, h2, h3, h4⟩ := hz k hk
  exact ⟨b, off, zs[k].1, zs[k].2.1.1, zs[k].2.1.2, zs[k].2.2.1, zs[k].2.2.2, hA, rfl, h0, h1, h2, h3, h4⟩

theorem Rcs.news {w : World} {ad : Addr} {ys : List Rc} (h : Rcs w (some ad) ys) (j : Nat) (u : Value) (hu : (rcCells ys)[j]? = some u) : w.cell? (ad.add j) = some u := by
  have hj : j < ys.length * 5 := by rw [← rcCells_length]; exact (List.getElem?_eq_some_iff.1 hu).1
  obtain ⟨b, off, hA, _, hz⟩ := h (by omega)
  obtain rfl : ad = ⟨b, off, none⟩ := Option.some.inj hA
  rw [addr_add1]
  have hk : j / 5 < ys.length := by omega
  obtain ⟨e0, e1, e2, e3, e4⟩ := rcCells_at ys (j / 5) hk
  obtain ⟨z0, z1, z2, z3, z4⟩ := hz (j / 5) hk
  have hm : j % 5 = 0 ∨ j % 5 = 1 ∨ j % 5 = 2 ∨ j % 5 = 3 ∨ j % 5 = 4 := by omega
  rcases hm with h2 | h2 | h2 | h2 | h2
  · rw [show j / 5 * 5 = j by omega] at e0
    rw [show off + j / 5 * 5 = off + j by omega] at z0
    rw [z0, ← hu, e0]
  · rw [show j / 5 * 5 + 1 = j by omega] at e1
    rw [show off + j / 5 * 5 + 1 = off + j by omega] at z1
    rw [z1, ← hu, e1]
  · rw [show j / 5 * 5 + 2 = j by omega] at e2
    rw [show off + j / 5 * 5 + 2 = off + j by omega] at z2
    rw [z2, ← hu, e2]
  · rw [show j / 5 * 5 + 3 = j by omega] at e3
    rw [show off + j / 5 * 5 + 3 = off + j by omega] at z3
    rw [z3, ← hu, e3]
  · rw [show j / 5 * 5 + 4 = j by omega] at e4
    rw [show off + j / 5 * 5 + 4 = off + j by omega] at z4
    rw [z4, ← hu, e4]

end Go.Proofs.Ytbbagpnjjjohpaa.hexes

