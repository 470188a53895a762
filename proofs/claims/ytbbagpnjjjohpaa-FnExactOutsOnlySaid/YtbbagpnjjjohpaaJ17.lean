/-
  What an exact law on graphs keeps of what it holds, whatever is called and written beside it.
  impl.GraphOk and what it calls.
-/
import Derived.Test.YtbbagpnjjjohpaaJ15
import Derived.Test.YtbbagpnjjjohpaaJ16
import Derived.Test.YtbbagpnjjjohpaaJ7
import Derived.Test.YtbbagpnjjjohpaaJ12
import Derived.Test.YtbbagpnjjjohpaaJ9

namespace Go.Proofs.Ytbbagpnjjjohpaa.hexes
open Go.RowKit

theorem outSum_mem {gs : List Nd} {x : Nd} (h : x ∈ gs) : x.2.2.2.length ≤ outSum gs := by
  obtain ⟨j, hj, hx⟩ := List.getElem_of_mem h
  have q := outSum_succ hj hx
  have q2 := outSum_le gs (j + 1)
  omega

/-- Behind a call that turns nothing old, blocks from lo on and below hi were written. -/
def Turned (lo hi : Nat) (w w' : World) : Prop := ∃ w1, Below w.heap.size w w1 ∧ WroteR lo hi w1 w'

theorem Wrote.turned {w w' : World} {lo hi : Nat} (h : Wrote w w' lo hi) : Turned lo hi w w' := ⟨w, Below.refl _ _, .step (.refl _) h⟩
theorem Turned.size {w w' : World} {lo hi : Nat} (h : Turned lo hi w w') : w.heap.size ≤ w'.heap.size := by
  obtain ⟨w1, hb, hw⟩ := h
  exact Nat.le_trans hb.size hw.size
theorem Row.turned {w w' : World} {lo hi lo' hi' e size n c : Nat} {A : Option Addr} {xs : List Value} (h : Row w lo hi e size A n c xs) (hw : Turned lo' hi' w w') (hd : hi ≤ lo' ∨ hi' ≤ lo) : Row w' lo hi e size A n c xs := by
  obtain ⟨w1, hb, hw⟩ := hw
  exact (h.below hb).wroteR hw hd
theorem GrRows.turned {w w' : World} {lo hi lo' hi' n c : Nat} {A : Option Addr} {gs : List Nd} {vs : List Nv} {f : Nat → Nat} (h : GrRows w lo hi A n c gs vs f) (hw : Turned lo' hi' w w') (hd : hi ≤ lo' ∨ hi' ≤ lo) : GrRows w' lo hi A n c gs vs f := by
  obtain ⟨w1, hb, hw⟩ := hw
  exact (h.below hb).wroteR hw hd
theorem Blk.wrote1 {w w' : World} {g : Nat} {t : TypeId} {cs : Array Value} {lo hi : Nat} (h : Blk w g t cs) (hw : Wrote w w' lo hi) (hd : g < lo ∨ hi ≤ g) : Blk w' g t cs := by
  obtain ⟨row, hg, hr⟩ := hw
  refine h.grown hg fun e => ?_
  have := hr g e.symm
  omega
theorem Blk.turned {w w' : World} {g : Nat} {t : TypeId} {cs : Array Value} {lo hi : Nat} (h : Blk w g t cs) (hw : Turned lo hi w w') (hd : g < lo ∨ hi ≤ g) : Blk w' g t cs := by
  obtain ⟨w1, hb, hw⟩ := hw
  have h1 := h.below hb
  clear h hb
  induction hw with
  | refl => exact h1
  | step _ hw ih => exact ih.wrote1 hw hd
theorem below_turned {a w w' : World} {lo hi : Nat} (h : Below a.heap.size a w) (hw : Turned lo hi w w') (hlo : a.heap.size ≤ lo) : Below a.heap.size a w' := by
  obtain ⟨w1, hb, hw⟩ := hw
  exact below_wroteR (below_chain h hb) hw hlo

theorem szGr_over (A : Option Addr) (n c : Nat) (gs : List Nd) (wk cp : Int) {w : World} (hZ : IsNds w A n gs) {left : Int} (h0 : 0 ≤ left) (h1 : left ≤ 1048576) (hn : left < ((n + outSum gs : Nat) : Int)) (W : World) (h : Nds W A gs) :
    Calls Try.prog 32 #[.agg #[.slice A n c, .int .i64 wk, .int .i64 cp], .int .i64 left] W fun e w' => e = .returned (.int .i64 (-1)) ∧ Below W.heap.size W w' :=
  szGr_any A n c gs hZ.len wk cp left h0 h1 hZ.max hZ.outs (by rw [if_pos hn]) W h
theorem szGr_in (A : Option Addr) (n c : Nat) (gs : List Nd) (wk cp : Int) {w : World} (hZ : IsNds w A n gs) {left : Int} (h0 : 0 ≤ left) (h1 : left ≤ 1048576) (hn : ¬left < ((n + outSum gs : Nat) : Int)) (W : World) (h : Nds W A gs) :
    Calls Try.prog 32 #[.agg #[.slice A n c, .int .i64 wk, .int .i64 cp], .int .i64 left] W fun e w' => e = .returned (.int .i64 (left - ((n + outSum gs : Nat) : Int))) ∧ Below W.heap.size W w' :=
  szGr_any A n c gs hZ.len wk cp left h0 h1 hZ.max hZ.outs (by rw [if_neg hn]) W h

theorem eqGr_row {w : World} {lo hi lo' hi' n c c' : Nat} {A A' : Option Addr} {gs : List Nd} {vs vs' : List Nv} {f f' : Nat → Nat} (wk cp : Int) (h1 : GrRows w lo hi A n c gs vs f) (h2 : GrRows w lo' hi' A' n c' gs vs' f') (hn : n ≤ 1048576) (hs : ∀ x ∈ gs, x.2.2.2.length ≤ 1048576) :
    Calls Try.prog 38 #[.agg #[.slice A n c, .int .i64 wk, .int .i64 cp], .agg #[.slice A' n c', .int .i64 wk, .int .i64 cp]] w fun e w' => e = .returned (.bool true) ∧ Below w.heap.size w w' :=
  eqGr_is n gs h1.gl A A' c c' wk cp w h1.nds h2.nds hn hs

theorem nds_drew {w : World} {A : Option Addr} {gs : List Nd} (h : Nds w A gs) : Nds w.drew A gs := h.below ((Below.refl _ _).drew)

end Go.Proofs.Ytbbagpnjjjohpaa.hexes

namespace Go.Proofs.Ytbbagpnjjjohpaa.hexes
open Go.RowKit

theorem hasNode_is {n : Nat} {t : Int} {r : Bool} (h : decide (0 ≤ t ∧ t ≤ (n : Int) - 1) = r) (A : Option Addr) (c : Nat) (hn : n ≤ 1048576) (W : World) :
    Calls Try.prog 92 #[.slice A n c, .int .i64 t] W fun e w' => e = .returned (.bool r) ∧ W = w' := by
  have E := Lib.hid (fun W => implInN_is h W)
  have m : IntKind.i64.wrap ((n : Int) - 1) = (n : Int) - 1 := IntWalk.i64_in _ (by omega)
  clear h
  go_enter Try.func92, Try.ntmps92
  go_wp2_with fail
  refine (E.out _).mono ?_
  rintro e w1 ⟨rfl, rfl⟩
  go_wp2
  go_ret
  exact ⟨rfl, rfl⟩

end Go.Proofs.Ytbbagpnjjjohpaa.hexes

