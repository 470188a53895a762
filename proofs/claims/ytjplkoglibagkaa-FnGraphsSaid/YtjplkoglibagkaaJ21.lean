/-
  (*vertex).connect and impl.verticesOf.
-/
import Derived.Test.YtjplkoglibagkaaJ20
import Derived.Test.YtjplkoglibagkaaJ10
import Derived.StillTailTactics

namespace Go.Proofs.Ytjplkoglibagkaa.hexes
open Go.RowKit

theorem ptinfo : (Try.prog.info? 71).map (fun i => (i.zero, i.size, i.bytes)) = some (some (.pointer none), 1, 8) := by kernel_rfl

/-- An append of one pointer to an owned row of pointers. -/
theorem wpList_append_ptr {w : World} {ops : Array Oper} {rest : List Oper} {o : Oper} {a : Act} {Q : Exit → Act → World → Prop} (hgd : o.guard = none) (s x : Operand)
    (ho : o.op = .call { callee := .builtin .append, args := #[s, x], argTypes := #[69, 69] })
    (base : Nat) (v : Value) (n : Nat) (xs : List Value) (hs : a.eval s = v) (hown : w.ownsRow base 71 1 v n xs)
    (g : Nat) (p : Option Addr) (hx : a.eval x = .slice (some ⟨g, 0, none⟩) 1 1) (hg : w.cell? ⟨g, 0, none⟩ = some (.pointer p))
    (hb : n + 1 ≤ 4194304) (hbase : base ≤ w.heap.size)
    (h : ∀ v' w', w'.ownsRow base 71 1 v' (n + 1) (xs ++ [.pointer p]) → w.grownBy w' v.ownBlock → wpList Try.prog ops Q rest (a.put o.dst v') w') : wpList Try.prog ops Q (o :: rest) a w := by
  obtain ⟨i0, hi, hz0, hz1, hz2⟩ := info_parts ptinfo
  refine wpList_append_own w hgd s x 69 ho base 71 i0 (.pointer none) 1 8 Try.underlying69 hi hz0 hz1 hz2 rfl (by decide) v n xs hs hown ⟨g, 0, none⟩ 1 1 [.pointer p] hx (by simp) (fun j u hu => ?_) (fun u hu => ?_) (by unfold maxLen; omega) (by omega) hbase ?_
  · have hj : j = 0 := by
      have := (List.getElem?_eq_some_iff.1 hu).1
      simpa using this
    subst hj
    rw [addr_add0]
    simp only [List.getElem?_cons_zero, Option.some.injEq] at hu
    rw [hg, hu]
  · obtain rfl : u = .pointer p := by simpa using hu
    rfl
  · intro v' w' h2 h3 _
    exact h v' w' h2 h3

/-- Only block gv and blocks from D on were turned. -/
structure Kept (D gv : Nat) (w w' : World) : Prop where
  os : w'.os = w.os
  tape : w'.tape = w.tape
  output : w'.output = w.output
  size : w.heap.size ≤ w'.heap.size
  block : ∀ k, k < D → k ≠ gv → w'.heap[k]? = w.heap[k]?

/-- How connect ends. -/
def ConEnd (D gv gs m : Nat) (b : Bool) (xs : List Value) (w : World) (e : Ending) (w' : World) : Prop :=
  e = .returned (.tuple #[]) ∧ ∃ A' c', Blk w' gv 73 #[.slice A' (m + 1) c', .bool b] ∧ w'.ownsRow D 71 1 (.slice A' (m + 1) c') (m + 1) (xs ++ [.pointer (some ⟨gs, 0, none⟩)]) ∧ Kept D gv w w'

set_option maxRecDepth 100000 in
theorem connect_any {w : World} {D gv gs m c : Nat} {A : Option Addr} {b : Bool} {xs : List Value} (hk : Blk w gv 73 #[.slice A m c, .bool b]) (ho : w.ownsRow D 71 1 (.slice A m c) m xs) (hD : D ≤ w.heap.size) (hm : m ≤ 1048576) :
    Calls Try.prog 72 #[.pointer (some ⟨gv, 0, none⟩), .pointer (some ⟨gs, 0, none⟩)] w (ConEnd D gv gs m b xs w) := by
  have x0 : w.cell? ⟨gv, 0, none⟩ = some (.slice A m c) := by rw [hk.cell]; rfl
  have K := Lib.hid hk
  have O := Lib.hid ho
  have hp0 : (w.alloc (.cells #[.pointer (some ⟨gs, 0, none⟩)] 71)).cell? ⟨w.heap.size, 0, none⟩ = some (.pointer (some ⟨gs, 0, none⟩)) := by simp
  have P0 := Lib.hid hp0
  clear hk ho hp0
  go_enter Try.func72, Try.ntmps72
  go_wp2_with (at_builtin; refine wpList_append_ptr rfl (.tmp 8) (.tmp 10) (by rfl) D _ m xs (by rfl) (O.out.alloc _) w.heap.size (some ⟨gs, 0, none⟩) (by rfl) P0.out (by omega) (by simp; omega) ?_; intro v8 w8 own8 gr8; generalize hG : wpList _ _ _ _ _ _ = G)
  have hb : Below w.heap.size w (w.alloc (.cells #[.pointer (some ⟨gs, 0, none⟩)] 71)) := (Below.refl _ _).alloc (Nat.le_refl _) _
  have K1 := K.out.below hb
  have ne := own_type O.out K.out (by decide)
  have K2 := K1.grown gr8 (Ne.symm ne)
  obtain ⟨A8, c8, rfl, _⟩ := own_form own8
  have x8 : w8.cell? ⟨gv, 0, none⟩ = some (.slice A m c) := by rw [K2.cell]; rfl
  have f8 := K2.frozen 0
  have KE := Lib.hid (show Kept D gv w (w8.setCell ⟨gv, 0, none⟩ (.slice A8 (m + 1) c8)) from by
    refine ⟨gr8.os.trans hb.os, gr8.tape.trans hb.tape, gr8.output.trans hb.output, Nat.le_trans hb.size (by simpa [World.setCell] using gr8.size), fun k hk hne => ?_⟩
    have hkw : k < w.heap.size := by omega
    rw [Below.heap_setCell w8 ⟨gv, 0, none⟩ (.slice A8 (m + 1) c8) k hne, gr8.block k (Nat.lt_of_lt_of_le hkw hb.size) (fun e => by have := own_ge O.out k e.symm; omega)]
    exact hb.block k hkw)
  have OE := Lib.hid (show (w8.setCell ⟨gv, 0, none⟩ (.slice A8 (m + 1) c8)).ownsRow D 71 1 (.slice A8 (m + 1) c8) (m + 1) (xs ++ [.pointer (some ⟨gs, 0, none⟩)]) from own8.kept (grown_set w8 ⟨gv, 0, none⟩ _) (.inr (own_type own8 K2 (by decide))))
  have BE := Lib.hid (show Blk (w8.setCell ⟨gv, 0, none⟩ (.slice A8 (m + 1) c8)) gv 73 #[.slice A8 (m + 1) c8, .bool b] from K2.put 0 _)
  clear own8 gr8 hb K1 K2 ne x0
  subst hG
  go_wp2
  exact bodyPost_ret (v := .tuple #[]) (by simp [results, Try.results72, go_sem]) rfl ⟨rfl, A8, c8, BE.out, OE.out, KE.out⟩

/-- The successors of node j, as numbers. -/
def outsN (gs : List Nd) (j : Nat) : List Nat := (outsAt gs (j : Int)).map Int.toNat
/-- The successors of the nodes below j, and the first p of node j's. -/
def zsAt (gs : List Nd) (j p : Nat) : Nat → List Nat := fun i => if i < j then outsN gs i else if i = j then (outsN gs j).take p else []

theorem outsN_out {gs : List Nd} {i : Nat} (h : gs.length ≤ i) : outsN gs i = [] := by
  unfold outsN outsAt
  rw [if_pos (by omega), Int.toNat_natCast, List.getElem?_eq_none h]
  rfl
theorem zsAt_next (gs : List Nd) (j : Nat) : zsAt gs j (outsN gs j).length = zsAt gs (j + 1) 0 := by
  funext i
  unfold zsAt
  by_cases h1 : i < j
  · rw [if_pos h1, if_pos (by omega)]
  · rw [if_neg h1]
    by_cases h2 : i = j
    · subst h2
      rw [if_pos rfl, if_pos (by omega), List.take_length]
    · rw [if_neg h2, if_neg (by omega)]
      split <;> rfl
theorem zsAt_all (gs : List Nd) : zsAt gs gs.length 0 = outsN gs := by
  funext i
  unfold zsAt
  by_cases h1 : i < gs.length
  · rw [if_pos h1]
  · have e := outsN_out (gs := gs) (i := i) (by omega)
    rw [if_neg h1, e]
    split
    · simp
    · rfl
theorem zsAt_self (gs : List Nd) (j p : Nat) : zsAt gs j p j = (outsN gs j).take p := by unfold zsAt; rw [if_neg (by omega), if_pos rfl]
theorem zsAt_ne (gs : List Nd) {i j : Nat} (p q : Nat) (h : i ≠ j) : zsAt gs j p i = zsAt gs j q i := by unfold zsAt; rw [if_neg h, if_neg h]

theorem own_kept {w w' : World} {B e size n : Nat} {v : Value} {xs : List Value} (h : w.ownsRow B e size v n xs) (hk : ∀ k, v.ownBlock = some k → w'.heap[k]? = w.heap[k]?) : w'.ownsRow B e size v n xs := by
  refine ⟨h.1, ?_⟩
  rcases h.2 with hh | ⟨g, cap, cur, hv, hb, hg, rest⟩
  · exact .inl hh
  · subst hv
    exact .inr ⟨g, cap, cur, rfl, hb, (hk g rfl).trans hg, rest⟩
theorem own_raise {w : World} {B C e size n : Nat} {v : Value} {xs : List Value} (h : w.ownsRow B e size v n xs) (hC : ∀ k, v.ownBlock = some k → C ≤ k) : w.ownsRow C e size v n xs := by
  refine ⟨h.1, ?_⟩
  rcases h.2 with hh | ⟨g, cap, cur, hv, hb, hg, rest⟩
  · exact .inl hh
  · subst hv
    exact .inr ⟨g, cap, cur, rfl, hC g rfl, hg, rest⟩
theorem own_in {w : World} {B e size n : Nat} {v : Value} {xs : List Value} (h : w.ownsRow B e size v n xs) : ∀ k, v.ownBlock = some k → k < w.heap.size := by
  intro k hk
  rcases h.2 with ⟨rfl, _⟩ | ⟨g, cap, cur, rfl, _, hg, _⟩
  · simp [Value.ownBlock] at hk
  · obtain rfl : g = k := by simpa [Value.ownBlock] using hk
    exact (Array.getElem?_eq_some_iff.1 hg).1

/-- The vertices as verticesOf lays them from S on: their own row first, then each in its block. -/
structure Lay (w : World) (S T n : Nat) (nx : Nat → Option Addr × Nat) (zs : Nat → List Nat) : Prop where
  vx : Vx w T n (fun i => T + i) nx zs (fun _ => false)
  top : w.ownsRow S 71 1 (.slice (some ⟨S, 0, none⟩) n n) n (ptrs (fun i => T + i) (List.range n))
  sz : T + n ≤ w.heap.size
  st : S < T

theorem Lay.below {w w' : World} {S T n : Nat} {nx : Nat → Option Addr × Nat} {zs : Nat → List Nat} (h : Lay w S T n nx zs) (hb : Below w.heap.size w w') : Lay w' S T n nx zs :=
  ⟨h.vx.below hb, own_below h.top hb, Nat.le_trans h.sz hb.size, h.st⟩

/-- Where the rows of node j lie, and those of the others. -/
structure Apart (D n j : Nat) (nx : Nat → Option Addr × Nat) (zs : Nat → List Nat) : Prop where
  lo : ∀ i, i < n → i ≠ j → ∀ k, (Value.slice (nx i).1 (zs i).length (nx i).2).ownBlock = some k → k < D
  hi : ∀ k, (Value.slice (nx j).1 (zs j).length (nx j).2).ownBlock = some k → D ≤ k

/-- One more successor of node j has been connected. -/
theorem Lay.step {w w' : World} {S T n D j p s c' : Nat} {A' : Option Addr} {gs : List Nd} {nx : Nat → Option Addr × Nat} (L : Lay w S T n nx (zsAt gs j p)) (Q : Apart D n j nx (zsAt gs j p)) (hD : T + n ≤ D) (hj : j < n) (hp : p < (outsN gs j).length) (hs : (outsN gs j)[p] = s) (hsn : s < n)
    (kb : Blk w' (T + j) 73 #[.slice A' (p + 1) c', .bool false]) (kr : w'.ownsRow D 71 1 (.slice A' (p + 1) c') (p + 1) (ptrs (fun i => T + i) ((outsN gs j).take p) ++ [.pointer (some ⟨T + s, 0, none⟩)])) (kk : Kept D (T + j) w w') :
    Lay w' S T n (fun i => if i = j then (A', c') else nx i) (zsAt gs j (p + 1)) ∧ Apart D n j (fun i => if i = j then (A', c') else nx i) (zsAt gs j (p + 1)) := by
  have lp : ((outsN gs j).take (p + 1)).length = p + 1 := by simp; omega
  have e2 : (outsN gs j).take (p + 1) = (outsN gs j).take p ++ [s] := by rw [List.take_succ_eq_append_getElem hp, hs]
  have lo2 : ∀ i, i < n → i ≠ j → ∀ k, (Value.slice ((fun i => if i = j then (A', c') else nx i) i).1 (zsAt gs j (p + 1) i).length ((fun i => if i = j then (A', c') else nx i) i).2).ownBlock = some k → k < D := by
    intro i hi hne k hk
    simp only [if_neg hne] at hk
    rw [zsAt_ne gs (p + 1) p hne] at hk
    exact Q.lo i hi hne k hk
  have hi2 : ∀ k, (Value.slice ((fun i => if i = j then (A', c') else nx i) j).1 (zsAt gs j (p + 1) j).length ((fun i => if i = j then (A', c') else nx i) j).2).ownBlock = some k → D ≤ k := by
    intro k hk
    simp only [if_true] at hk
    rw [zsAt_self, lp] at hk
    exact own_ge kr k hk
  refine ⟨⟨⟨fun i hi => ?_, fun i hi => ?_, L.vx.inj, L.vx.base, fun i k hi hk hne a ha hb => ?_, fun i hi t ht => ?_⟩, ?_, Nat.le_trans L.sz kk.size, L.st⟩, ⟨lo2, hi2⟩⟩
  · by_cases e : i = j
    · subst e
      simp only [if_true]
      rw [zsAt_self, lp]
      exact kb
    · simp only [if_neg e]
      rw [zsAt_ne gs (p + 1) p e]
      exact (kk.block (T + i) (by omega) (by omega)).trans (L.vx.blk i hi)
  · by_cases e : i = j
    · subst e
      simp only [if_true]
      rw [zsAt_self, lp, e2, ptrs_append]
      exact own_base kr (by omega)
    · simp only [if_neg e]
      rw [zsAt_ne gs (p + 1) p e]
      have hb := L.vx.blk j hj
      refine own_kept (L.vx.row i hi) fun k hk => kk.block k (Q.lo i hi e k hk) fun e2 => ?_
      subst e2
      exact own_type (L.vx.row i hi) hb (by decide) hk
  · by_cases e : i = j
    · subst e
      have h1 := lo2 k hk (fun q => hne q.symm) a hb
      have h2 := hi2 a ha
      omega
    · by_cases e3 : k = j
      · subst e3
        have h1 := lo2 i hi e a ha
        have h2 := hi2 a hb
        omega
      · simp only [if_neg e] at ha
        simp only [if_neg e3] at hb
        rw [zsAt_ne gs (p + 1) p e] at ha
        rw [zsAt_ne gs (p + 1) p e3] at hb
        exact L.vx.apart i k hi hk hne a ha hb
  · by_cases e : i = j
    · subst e
      rw [zsAt_self, e2] at ht
      rcases List.mem_append.1 ht with ht | ht
      · exact L.vx.lt i hi t (by rw [zsAt_self]; exact ht)
      · obtain rfl : t = s := by simpa using ht
        exact hsn
    · rw [zsAt_ne gs (p + 1) p e] at ht
      exact L.vx.lt i hi t ht
  · refine own_kept L.top fun k hk => ?_
    obtain rfl : S = k := by simpa [Value.ownBlock] using hk
    have := L.st
    exact kk.block S (by omega) (by omega)

end Go.Proofs.Ytjplkoglibagkaa.hexes

