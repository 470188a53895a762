/-
  What an exact law on graphs keeps of what it holds, whatever is called and written beside it.
  Cycles of a valid graph: each holds a feedback edge, and that leads to a stateful operator.
  The reference's worklist: what can be reached from a node.
  Two blocks parted by what they hold.
-/
import Derived.Test.YtjplkoglibagkaaJ17
import Derived.Test.YtjplkoglibagkaaJ18
import Derived.Test.YtjplkoglibagkaaJ11
import Derived.Test.YtjplkoglibagkaaJ15
import Derived.Test.YtjplkoglibagkaaJ2

namespace Go.Proofs.Ytjplkoglibagkaa.hexes
open Go.RowKit

theorem outSum_mem {gs : List Nd} {x : Nd} (h : x ∈ gs) : x.2.2.2.length ≤ outSum gs := by
  obtain ⟨j, hj, hx⟩ := List.getElem_of_mem h
  have q := outSum_succ hj hx
  have q2 := outSum_le gs (j + 1)
  omega

/-- Behind a call that turns nothing old, blocks from lo on and below hi were written. -/
def Turned (lo hi : Nat) (w w' : World) : Prop := ∃ w1, Below w.heap.size w w1 ∧ WroteR lo hi w1 w'

theorem Wrote.turned {w w' : World} {lo hi : Nat} (h : Wrote w w' lo hi) : Turned lo hi w w' := ⟨w, Below.refl _ _, .step (.refl _) h⟩
theorem Turned.size {w w' : World} {lo hi : Nat} (h : Turned lo hi w w') : w.heap.size ≤ w'.heap.size := by
  obtain ⟨w1, hb, hw⟩ := h
  exact Nat.le_trans hb.size hw.size
theorem Row.turned {w w' : World} {lo hi lo' hi' e size n c : Nat} {A : Option Addr} {xs : List Value} (h : Row w lo hi e size A n c xs) (hw : Turned lo' hi' w w') (hd : hi ≤ lo' ∨ hi' ≤ lo) : Row w' lo hi e size A n c xs := by
  obtain ⟨w1, hb, hw⟩ := hw
  exact (h.below hb).wroteR hw hd
theorem GrRows.turned {w w' : World} {lo hi lo' hi' n c : Nat} {A : Option Addr} {gs : List Nd} {vs : List Nv} {f : Nat → Nat} (h : GrRows w lo hi A n c gs vs f) (hw : Turned lo' hi' w w') (hd : hi ≤ lo' ∨ hi' ≤ lo) : GrRows w' lo hi A n c gs vs f := by
  obtain ⟨w1, hb, hw⟩ := hw
  exact (h.below hb).wroteR hw hd
theorem Blk.wrote1 {w w' : World} {g : Nat} {t : TypeId} {cs : Array Value} {lo hi : Nat} (h : Blk w g t cs) (hw : Wrote w w' lo hi) (hd : g < lo ∨ hi ≤ g) : Blk w' g t cs := by
  obtain ⟨row, hg, hr⟩ := hw
  refine h.grown hg fun e => ?_
  have := hr g e.symm
  omega
theorem Blk.turned {w w' : World} {g : Nat} {t : TypeId} {cs : Array Value} {lo hi : Nat} (h : Blk w g t cs) (hw : Turned lo hi w w') (hd : g < lo ∨ hi ≤ g) : Blk w' g t cs := by
  obtain ⟨w1, hb, hw⟩ := hw
  have h1 := h.below hb
  clear h hb
  induction hw with
  | refl => exact h1
  | step _ hw ih => exact ih.wrote1 hw hd
theorem below_turned {a w w' : World} {lo hi : Nat} (h : Below a.heap.size a w) (hw : Turned lo hi w w') (hlo : a.heap.size ≤ lo) : Below a.heap.size a w' := by
  obtain ⟨w1, hb, hw⟩ := hw
  exact below_wroteR (below_chain h hb) hw hlo

theorem szGr_over (A : Option Addr) (n c : Nat) (gs : List Nd) (wk cp : Int) {w : World} (hZ : IsNds w A n gs) {left : Int} (h0 : 0 ≤ left) (h1 : left ≤ 1048576) (hn : left < ((n + outSum gs : Nat) : Int)) (W : World) (h : Nds W A gs) :
    Calls Try.prog 29 #[.agg #[.slice A n c, .int .i64 wk, .int .i64 cp], .int .i64 left] W fun e w' => e = .returned (.int .i64 (-1)) ∧ Below W.heap.size W w' :=
  szGr_any A n c gs hZ.len wk cp left h0 h1 hZ.max hZ.outs (by rw [if_pos hn]) W h
theorem szGr_in (A : Option Addr) (n c : Nat) (gs : List Nd) (wk cp : Int) {w : World} (hZ : IsNds w A n gs) {left : Int} (h0 : 0 ≤ left) (h1 : left ≤ 1048576) (hn : ¬left < ((n + outSum gs : Nat) : Int)) (W : World) (h : Nds W A gs) :
    Calls Try.prog 29 #[.agg #[.slice A n c, .int .i64 wk, .int .i64 cp], .int .i64 left] W fun e w' => e = .returned (.int .i64 (left - ((n + outSum gs : Nat) : Int))) ∧ Below W.heap.size W w' :=
  szGr_any A n c gs hZ.len wk cp left h0 h1 hZ.max hZ.outs (by rw [if_neg hn]) W h

theorem eqGr_row {w : World} {lo hi lo' hi' n c c' : Nat} {A A' : Option Addr} {gs : List Nd} {vs vs' : List Nv} {f f' : Nat → Nat} (wk cp : Int) (h1 : GrRows w lo hi A n c gs vs f) (h2 : GrRows w lo' hi' A' n c' gs vs' f') (hn : n ≤ 1048576) (hs : ∀ x ∈ gs, x.2.2.2.length ≤ 1048576) :
    Calls Try.prog 31 #[.agg #[.slice A n c, .int .i64 wk, .int .i64 cp], .agg #[.slice A' n c', .int .i64 wk, .int .i64 cp]] w fun e w' => e = .returned (.bool true) ∧ Below w.heap.size w w' :=
  eqGr_is n gs h1.gl A A' c c' wk cp w h1.nds h2.nds hn hs

theorem nds_drew {w : World} {A : Option Addr} {gs : List Nd} (h : Nds w A gs) : Nds w.drew A gs := h.below ((Below.refl _ _).drew)

set_option maxRecDepth 100000 in
theorem markNd_row {w : World} {lo hi n c : Nat} {A : Option Addr} {zs : List Int} (k a b : Int) (k0 : Nat) (h : Row w lo hi 3 1 A n c (isCells zs)) (hn : n ≤ 4194304) (hk1 : k0 ≤ 41943040) :
    Calls Try.prog 34 #[.agg #[.int .i64 k, .int .i64 a, .int .i64 b, .slice A n c], .int .i64 (k0 : Int)] w fun e w' => e = .returned (.int .i64 ((k0 + n : Nat) : Int)) ∧ Row w' lo hi 3 1 A n c (isCells (isMarks k0 n)) ∧ Turned lo hi w w' := by
  have H := Lib.hid h
  clear h
  go_enter Try.func34, Try.ntmps34
  go_wp2_with fail
  generalize hW : w.alloc _ = W
  have bW : Below w.heap.size w W := by rw [← hW]; exact (Below.refl _ _).alloc (Nat.le_refl _) _
  clear hW
  refine (markIsS_row k0 (H.out.below bW) hn hk1).mono ?_
  rintro e w1 ⟨rfl, hr, hw⟩
  have HR := Lib.hid hr
  have HW := Lib.hid hw
  have BW := Lib.hid bW
  clear hr hw bW
  go_wp2
  go_ret
  exact ⟨rfl, HR.out, W, BW.out, .step (.refl _) HW.out⟩

set_option maxRecDepth 100000 in
theorem heldNd_row {w : World} {lo hi n c : Nat} {A : Option Addr} (k a b : Int) (k0 : Nat) (h : Row w lo hi 3 1 A n c (isCells (isMarks k0 n))) (hn : n ≤ 4194304) (hk1 : k0 ≤ 41943040) :
    Calls Try.prog 35 #[.agg #[.int .i64 k, .int .i64 a, .int .i64 b, .slice A n c], .int .i64 (k0 : Int)] w fun e w' => e = .returned (.int .i64 ((k0 + n : Nat) : Int)) ∧ Below w.heap.size w w' := by
  have H := Lib.hid h
  have hd : decide (((k0 + n : Nat) : Int) < 0) = false := by simp; omega
  clear h
  go_enter Try.func35, Try.ntmps35
  go_wp2_with fail
  generalize hW : w.alloc _ = W
  have bW : Below w.heap.size w W := by rw [← hW]; exact (Below.refl _ _).alloc (Nat.le_refl _) _
  clear hW
  refine (heldIsS_row k0 (H.out.below bW) hn hk1).mono ?_
  rintro e w1 ⟨rfl, he⟩
  have BW := Lib.hid (he ▸ bW)
  clear bW he
  go_wp2
  go_ret
  exact ⟨rfl, BW.out⟩

end Go.Proofs.Ytjplkoglibagkaa.hexes

namespace Go.Proofs.Ytjplkoglibagkaa.hexes

/-- Edges rise, but those of OpBack, which lead to OpMin or OpNew. -/
def Rises (gs : List Nd) : Prop := ∀ a t, t ∈ outsAt gs a → (kindAt gs a = 7 ∧ (kindAt gs t = 5 ∨ kindAt gs t = 6)) ∨ (kindAt gs a ≠ 7 ∧ a < t)

theorem outsAt_mem {gs : List Nd} {a t : Int} (h : t ∈ outsAt gs a) : ∃ j, ∃ hj : j < gs.length, a = (j : Int) ∧ t ∈ gs[j].2.2.2 := by
  unfold outsAt at h
  split at h
  · rename_i h0
    rcases hq : gs[a.toNat]? with _ | x
    · rw [hq] at h; simp at h
    · rw [hq] at h
      obtain ⟨hj, hx⟩ := List.getElem?_eq_some_iff.1 hq
      exact ⟨a.toNat, hj, by omega, by rw [hx]; exact h⟩
  · simp at h

theorem okGr_node {gs : List Nd} {d : Int → Int} {wk cp : Int} (h : okGr gs d wk cp = true) (j : Nat) (hj : j < gs.length) : nodeB gs d j gs[j] = true := by
  unfold okGr at h
  simp only [Bool.and_eq_true] at h
  have ha := h.2
  unfold allB at ha
  rw [List.all_eq_true] at ha
  have := ha j (by simpa using hj)
  rw [List.getElem?_eq_getElem hj] at this
  exact this

theorem rises_of {gs : List Nd} {d : Int → Int} {wk cp : Int} (h : okGr gs d wk cp = true) : Rises gs := by
  intro a t ht
  obtain ⟨j, hj, rfl, hm⟩ := outsAt_mem ht
  have hn := okGr_node h j hj
  unfold nodeB at hn
  simp only [Bool.and_eq_true] at hn
  have he := List.all_eq_true.1 hn.2 t hm
  rw [kindAt_of rfl hj]
  unfold edgeB at he
  simp only [Bool.and_eq_true] at he
  have he2 := he.2
  split at he2
  · rename_i hk
    simp only [Bool.and_eq_true, Bool.or_eq_true, beq_iff_eq] at he2
    exact .inl ⟨hk, he2.2⟩
  · rename_i hk
    exact .inr ⟨hk, of_decide_eq_true he2⟩

theorem path_trans {gs : List Nd} {a m t : Int} (h1 : Path gs a m) (h2 : Path gs m t) : Path gs a t := by
  induction h2 with
  | edge h => exact .step h1 h
  | step _ h ih => exact .step ih h

/-- A path rises, or it goes along a feedback edge. -/
theorem path_back {gs : List Nd} (hr : Rises gs) {a t : Int} (h : Path gs a t) :
    a < t ∨ ∃ m x, (m = a ∨ Path gs a m) ∧ kindAt gs m = 7 ∧ x ∈ outsAt gs m ∧ (kindAt gs x = 5 ∨ kindAt gs x = 6) ∧ (x = t ∨ Path gs x t) := by
  induction h with
  | edge h =>
    rcases hr _ _ h with ⟨hk, hg⟩ | ⟨_, hlt⟩
    · exact .inr ⟨_, _, .inl rfl, hk, h, hg, .inl rfl⟩
    · exact .inl hlt
  | step hp h ih =>
    rcases ih with hlt | ⟨m, x, hm, hk, hx, hg, hxt⟩
    · rcases hr _ _ h with ⟨hk, hg⟩ | ⟨_, hlt2⟩
      · exact .inr ⟨_, _, .inr hp, hk, h, hg, .inl rfl⟩
      · exact .inl (by omega)
    · refine .inr ⟨m, x, hm, hk, hx, hg, .inr ?_⟩
      rcases hxt with rfl | hxt
      · exact .edge h
      · exact .step hxt h

/-- A cycle holds a feedback edge whose end is stateful and lies on the cycle. -/
theorem cycle_gate {gs : List Nd} (hr : Rises gs) {k : Int} (h : Path gs k k) :
    ∃ m x, kindAt gs m = 7 ∧ x ∈ outsAt gs m ∧ (kindAt gs x = 5 ∨ kindAt gs x = 6) ∧ (x = k ∨ (Path gs k x ∧ Path gs x k)) := by
  rcases path_back hr h with hlt | ⟨m, x, hm, hk, hx, hg, hxt⟩
  · omega
  · refine ⟨m, x, hk, hx, hg, ?_⟩
    rcases hxt with rfl | hxt
    · exact .inl rfl
    · refine .inr ⟨?_, hxt⟩
      rcases hm with rfl | hm
      · exact .edge hx
      · exact .step hm hx

noncomputable def reachB (gs : List Nd) (a t : Int) : Bool := @decide (Path gs a t) (Classical.propDecidable _)
theorem reachB_iff {gs : List Nd} {a t : Int} : reachB gs a t = true ↔ Path gs a t := by
  unfold reachB
  rw [@decide_eq_true_iff _ (Classical.propDecidable _)]
theorem reachB_is {gs : List Nd} {a t : Int} {b : Bool} (h : b = true ↔ Path gs a t) : reachB gs a t = b := by
  rw [Bool.eq_iff_iff, reachB_iff, h]

end Go.Proofs.Ytjplkoglibagkaa.hexes

namespace Go.Proofs.Ytjplkoglibagkaa.hexes
open Go.RowKit

set_option maxRecDepth 100000 in
theorem l08Has_is {n : Nat} {zs : List Int} (hz : zs.length = n) {q : Int} {r : Bool} (hr : decide (q ∈ zs) = r) (A : Option Addr) (c : Nat) (w : World) (h1 : Ints w A zs) (hn : n ≤ 1048576) :
    Calls Try.prog 55 #[.slice A n c, .int .i64 q] w fun e w' => e = .returned (.bool r) ∧ w = w' := by
  have H1 := Lib.hid h1
  have HZ := Lib.hid hz
  have HR := Lib.hid hr
  clear h1 hz hr
  go_enter Try.func55, Try.ntmps55
  go_wp2
  go_loop [5] (fun i => ∃ k : Nat, k ≤ n ∧ i = .int .i64 k ∧ q ∉ zs.take k) (fun i => n - (intOf i).toNat)
  case atStart => exact ⟨0, Nat.zero_le _, rfl, by simp⟩
  case round =>
    obtain ⟨k, hk, rfl, ht⟩ := hrel
    have HT := Lib.hid ht
    clear ht
    by_cases hlt : k < n
    · have l1 : k < zs.length := by rw [HZ.out]; exact hlt
      obtain ⟨b1, o1, p, rfl, x1, e1⟩ := H1.out.at l1
      have X1 := Lib.hid x1
      have i0 : (0 : Int) ≤ (k : Int) := by omega
      have i1 : (k : Int) < (n : Int) := by omega
      clear x1
      by_cases he : q = p
      · have hne : (p == q) = true := by simpa using he.symm
        have HM := Lib.hid (show r = true by
          rw [← HR.out]
          have : q ∈ zs := by rw [he, ← X1.out]; exact List.getElem_mem l1
          simp [this])
        clear he HT X1 l1
        go_wp2
        go_ret
        exact ⟨congrArg (fun b => Ending.returned (Value.bool b)) HM.out.symm, rfl⟩
      · have hne : (p == q) = false := by simpa using fun e => he e.symm
        have HT2 := Lib.hid (not_take_succ l1 X1.out he HT.out)
        clear he HT X1 l1
        go_wp2
        go_round
        case rel => exact ⟨k + 1, by omega, by go_num, HT2.out⟩
        case measure => simp [intOf]; omega
    · have HM := Lib.hid (show r = false by
        rw [← HR.out]
        have h3 := HT.out
        rw [List.take_of_length_le (by rw [HZ.out]; omega)] at h3
        simp [h3])
      clear HT
      go_wp2
      go_ret
      exact ⟨congrArg (fun b => Ending.returned (Value.bool b)) HM.out.symm, rfl⟩

/-- Every edge leads to the number of a node. -/
def Edges (gs : List Nd) : Prop := ∀ a x, x ∈ outsAt gs a → 0 ≤ x ∧ x < (gs.length : Int)

theorem edges_of {gs : List Nd} {d : Int → Int} {wk cp : Int} (h : okGr gs d wk cp = true) : Edges gs := by
  intro a t ht
  obtain ⟨j, hj, rfl, hm⟩ := outsAt_mem ht
  have hn := okGr_node h j hj
  unfold nodeB at hn
  simp only [Bool.and_eq_true] at hn
  have he := List.all_eq_true.1 hn.2 t hm
  have h0 := okN_outs hn.1.1 t hm
  unfold edgeB at he
  simp only [Bool.and_eq_true] at he
  exact ⟨h0.1, of_decide_eq_true he.1⟩
theorem okGr_len {gs : List Nd} {d : Int → Int} {wk cp : Int} (h : okGr gs d wk cp = true) : 1 ≤ gs.length ∧ gs.length ≤ 8 := by
  unfold okGr at h
  simp only [Bool.and_eq_true] at h
  exact of_decide_eq_true h.1.1.1
theorem okGr_outs {gs : List Nd} {d : Int → Int} {wk cp : Int} (h : okGr gs d wk cp = true) : ∀ j (hj : j < gs.length), gs[j].2.2.2.length ≤ 2 ∧ gs[j].2.2.2.Nodup := by
  intro j hj
  have hn := okGr_node h j hj
  unfold nodeB at hn
  simp only [Bool.and_eq_true] at hn
  have := hn.1.1
  unfold okN okNd at this
  simp only [Bool.and_eq_true] at this
  have := this.2
  unfold outsB at this
  have := of_decide_eq_true this
  exact ⟨this.1, this.2.2.2⟩

/-- What the worklist holds: reached nodes, each once. -/
structure Work (gs : List Nd) (a : Int) (i : Nat) (S : List Int) : Prop where
  re : Reached gs a i S
  nd : S.Nodup
  bd : ∀ x ∈ S, 0 ≤ x ∧ x < (gs.length : Int)
  le : i ≤ S.length

theorem Work.len {gs : List Nd} {a : Int} {i : Nat} {S : List Int} (h : Work gs a i S) : S.length ≤ gs.length := nodup_bound _ _ h.nd h.bd

theorem path_bd {gs : List Nd} (he : Edges gs) {a t : Int} (h : Path gs a t) : 0 ≤ t ∧ t < (gs.length : Int) := by
  cases h with
  | edge h => exact he _ _ h
  | step _ h => exact he _ _ h

theorem Work.put {gs : List Nd} (he : Edges gs) {a : Int} {i : Nat} {S : List Int} {x : Int} (h : Work gs a i S) (hp : Path gs a x) (hx : x ∉ S) : Work gs a i (S ++ [x]) :=
  ⟨reached_put h.re h.le hp, nodup_snoc h.nd hx, fun y hy => by
    rcases List.mem_append.1 hy with hy | hy
    · exact h.bd y hy
    · obtain rfl : y = x := by simpa using hy
      exact path_bd he hp, by have := h.le; simp; omega⟩

end Go.Proofs.Ytjplkoglibagkaa.hexes

namespace Go.Proofs.Ytjplkoglibagkaa.hexes
open Go.RowKit

/-- A row's block is not one of another type. -/
theorem own_type {w : World} {B e size n g : Nat} {t : TypeId} {v : Value} {xs : List Value} {cs : Array Value} (h : w.ownsRow B e size v n xs) (k : Blk w g t cs) (ht : t ≠ e) : v.ownBlock ≠ some g := by
  rcases h.2 with ⟨rfl, _⟩ | ⟨g', cap, cur, rfl, _, hg, _⟩
  · simp [Value.ownBlock]
  · simp only [Value.ownBlock, ne_eq, Option.some.injEq]
    rintro rfl
    unfold Blk at k
    rw [k] at hg
    simp only [Option.some.injEq, Obj.cells.injEq] at hg
    exact ht hg.2.1

end Go.Proofs.Ytjplkoglibagkaa.hexes

