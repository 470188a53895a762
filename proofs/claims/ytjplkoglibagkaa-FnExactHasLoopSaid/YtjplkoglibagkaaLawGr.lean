/-
  What an exact law on graphs keeps of what it holds, whatever is called and written beside it.
-/
import Derived.Test.YtjplkoglibagkaaGrMarks
import Derived.Test.YtjplkoglibagkaaGrCame
namespace Go.Proofs.Ytjplkoglibagkaa.hexes
open Go.RowKit

theorem outSum_mem {gs : List Nd} {x : Nd} (h : x ∈ gs) : x.2.2.2.length ≤ outSum gs := by
  obtain ⟨j, hj, hx⟩ := List.getElem_of_mem h
  have q := outSum_succ hj hx
  have q2 := outSum_le gs (j + 1)
  omega

/-- Behind a call that turns nothing old, blocks from lo on and below hi were written. -/
def Turned (lo hi : Nat) (w w' : World) : Prop := ∃ w1, Below w.heap.size w w1 ∧ WroteR lo hi w1 w'

theorem Wrote.turned {w w' : World} {lo hi : Nat} (h : Wrote w w' lo hi) : Turned lo hi w w' := ⟨w, Below.refl _ _, .step (.refl _) h⟩
theorem Turned.size {w w' : World} {lo hi : Nat} (h : Turned lo hi w w') : w.heap.size ≤ w'.heap.size := by
  obtain ⟨w1, hb, hw⟩ := h
  exact Nat.le_trans hb.size hw.size
theorem Row.turned {w w' : World} {lo hi lo' hi' e size n c : Nat} {A : Option Addr} {xs : List Value} (h : Row w lo hi e size A n c xs) (hw : Turned lo' hi' w w') (hd : hi ≤ lo' ∨ hi' ≤ lo) : Row w' lo hi e size A n c xs := by
  obtain ⟨w1, hb, hw⟩ := hw
  exact (h.below hb).wroteR hw hd
theorem GrRows.turned {w w' : World} {lo hi lo' hi' n c : Nat} {A : Option Addr} {gs : List Nd} {vs : List Nv} {f : Nat → Nat} (h : GrRows w lo hi A n c gs vs f) (hw : Turned lo' hi' w w') (hd : hi ≤ lo' ∨ hi' ≤ lo) : GrRows w' lo hi A n c gs vs f := by
  obtain ⟨w1, hb, hw⟩ := hw
  exact (h.below hb).wroteR hw hd
theorem Blk.wrote1 {w w' : World} {g : Nat} {t : TypeId} {cs : Array Value} {lo hi : Nat} (h : Blk w g t cs) (hw : Wrote w w' lo hi) (hd : g < lo ∨ hi ≤ g) : Blk w' g t cs := by
  obtain ⟨row, hg, hr⟩ := hw
  refine h.grown hg fun e => ?_
  have := hr g e.symm
  omega
theorem Blk.turned {w w' : World} {g : Nat} {t : TypeId} {cs : Array Value} {lo hi : Nat} (h : Blk w g t cs) (hw : Turned lo hi w w') (hd : g < lo ∨ hi ≤ g) : Blk w' g t cs := by
  obtain ⟨w1, hb, hw⟩ := hw
  have h1 := h.below hb
  clear h hb
  induction hw with
  | refl => exact h1
  | step _ hw ih => exact ih.wrote1 hw hd
theorem below_turned {a w w' : World} {lo hi : Nat} (h : Below a.heap.size a w) (hw : Turned lo hi w w') (hlo : a.heap.size ≤ lo) : Below a.heap.size a w' := by
  obtain ⟨w1, hb, hw⟩ := hw
  exact below_wroteR (below_chain h hb) hw hlo

theorem szGr_over (A : Option Addr) (n c : Nat) (gs : List Nd) (wk cp : Int) {w : World} (hZ : IsNds w A n gs) {left : Int} (h0 : 0 ≤ left) (h1 : left ≤ 1048576) (hn : left < ((n + outSum gs : Nat) : Int)) (W : World) (h : Nds W A gs) :
    Calls Try.prog 29 #[.agg #[.slice A n c, .int .i64 wk, .int .i64 cp], .int .i64 left] W fun e w' => e = .returned (.int .i64 (-1)) ∧ Below W.heap.size W w' :=
  szGr_any A n c gs hZ.len wk cp left h0 h1 hZ.max hZ.outs (by rw [if_pos hn]) W h
theorem szGr_in (A : Option Addr) (n c : Nat) (gs : List Nd) (wk cp : Int) {w : World} (hZ : IsNds w A n gs) {left : Int} (h0 : 0 ≤ left) (h1 : left ≤ 1048576) (hn : ¬left < ((n + outSum gs : Nat) : Int)) (W : World) (h : Nds W A gs) :
    Calls Try.prog 29 #[.agg #[.slice A n c, .int .i64 wk, .int .i64 cp], .int .i64 left] W fun e w' => e = .returned (.int .i64 (left - ((n + outSum gs : Nat) : Int))) ∧ Below W.heap.size W w' :=
  szGr_any A n c gs hZ.len wk cp left h0 h1 hZ.max hZ.outs (by rw [if_neg hn]) W h

theorem eqGr_row {w : World} {lo hi lo' hi' n c c' : Nat} {A A' : Option Addr} {gs : List Nd} {vs vs' : List Nv} {f f' : Nat → Nat} (wk cp : Int) (h1 : GrRows w lo hi A n c gs vs f) (h2 : GrRows w lo' hi' A' n c' gs vs' f') (hn : n ≤ 1048576) (hs : ∀ x ∈ gs, x.2.2.2.length ≤ 1048576) :
    Calls Try.prog 31 #[.agg #[.slice A n c, .int .i64 wk, .int .i64 cp], .agg #[.slice A' n c', .int .i64 wk, .int .i64 cp]] w fun e w' => e = .returned (.bool true) ∧ Below w.heap.size w w' :=
  eqGr_is n gs h1.gl A A' c c' wk cp w h1.nds h2.nds hn hs

theorem nds_drew {w : World} {A : Option Addr} {gs : List Nd} (h : Nds w A gs) : Nds w.drew A gs := h.below ((Below.refl _ _).drew)

set_option maxRecDepth 100000 in
theorem markNd_row {w : World} {lo hi n c : Nat} {A : Option Addr} {zs : List Int} (k a b : Int) (k0 : Nat) (h : Row w lo hi 3 1 A n c (isCells zs)) (hn : n ≤ 4194304) (hk1 : k0 ≤ 41943040) :
    Calls Try.prog 34 #[.agg #[.int .i64 k, .int .i64 a, .int .i64 b, .slice A n c], .int .i64 (k0 : Int)] w fun e w' => e = .returned (.int .i64 ((k0 + n : Nat) : Int)) ∧ Row w' lo hi 3 1 A n c (isCells (isMarks k0 n)) ∧ Turned lo hi w w' := by
  have H := Lib.hid h
  clear h
  go_enter Try.func34, Try.ntmps34
  go_wp2_with fail
  generalize hW : w.alloc _ = W
  have bW : Below w.heap.size w W := by rw [← hW]; exact (Below.refl _ _).alloc (Nat.le_refl _) _
  clear hW
  refine (markIsS_row k0 (H.out.below bW) hn hk1).mono ?_
  rintro e w1 ⟨rfl, hr, hw⟩
  have HR := Lib.hid hr
  have HW := Lib.hid hw
  have BW := Lib.hid bW
  clear hr hw bW
  go_wp2
  go_ret
  exact ⟨rfl, HR.out, W, BW.out, .step (.refl _) HW.out⟩

set_option maxRecDepth 100000 in
theorem heldNd_row {w : World} {lo hi n c : Nat} {A : Option Addr} (k a b : Int) (k0 : Nat) (h : Row w lo hi 3 1 A n c (isCells (isMarks k0 n))) (hn : n ≤ 4194304) (hk1 : k0 ≤ 41943040) :
    Calls Try.prog 35 #[.agg #[.int .i64 k, .int .i64 a, .int .i64 b, .slice A n c], .int .i64 (k0 : Int)] w fun e w' => e = .returned (.int .i64 ((k0 + n : Nat) : Int)) ∧ Below w.heap.size w w' := by
  have H := Lib.hid h
  have hd : decide (((k0 + n : Nat) : Int) < 0) = false := by simp; omega
  clear h
  go_enter Try.func35, Try.ntmps35
  go_wp2_with fail
  generalize hW : w.alloc _ = W
  have bW : Below w.heap.size w W := by rw [← hW]; exact (Below.refl _ _).alloc (Nat.le_refl _) _
  clear hW
  refine (heldIsS_row k0 (H.out.below bW) hn hk1).mono ?_
  rintro e w1 ⟨rfl, he⟩
  have BW := Lib.hid (he ▸ bW)
  clear bW he
  go_wp2
  go_ret
  exact ⟨rfl, BW.out⟩

end Go.Proofs.Ytjplkoglibagkaa.hexes
