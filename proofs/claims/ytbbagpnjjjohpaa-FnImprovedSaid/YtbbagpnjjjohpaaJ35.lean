/-
  Graphs that a draw gave: lists of nodes that lie from a block on.
  A drawn right graph read as any drawn graph.
  A statement of spec.l07Node: its operations, and a theorem a step.
-/
import Derived.Test.YtbbagpnjjjohpaaJ33
import Derived.Test.YtbbagpnjjjohpaaJ34
import Derived.Test.YtbbagpnjjjohpaaJ12

namespace Go.Proofs.Ytbbagpnjjjohpaa.hexes
open Go.RowKit

/-- A list of nodes that can be read at A, all of it from block B on. -/
def NdsF (B : Nat) (w : World) (A : Option Addr) (gs : List Nd) : Prop :=
  0 < gs.length → ∃ b off, A = some ⟨b, off, none⟩ ∧ B ≤ b ∧ b < w.heap.size ∧ ∀ j, (h : j < gs.length) → ∃ v : Nv, NdFits w v gs[j] ∧ (∀ b' off', v.2.2.2.1 = some ⟨b', off', none⟩ → B ≤ b') ∧
    w.cell? ⟨b, off + j * 4, none⟩ = some (.int .i64 v.1) ∧ w.cell? ⟨b, off + j * 4 + 1, none⟩ = some (.int .i64 v.2.1) ∧ w.cell? ⟨b, off + j * 4 + 2, none⟩ = some (.int .i64 v.2.2.1) ∧ w.cell? ⟨b, off + j * 4 + 3, none⟩ = some (.slice v.2.2.2.1 v.2.2.2.2.1 v.2.2.2.2.2)

theorem NdsF.nds {B : Nat} {w : World} {A : Option Addr} {gs : List Nd} (h : NdsF B w A gs) : Nds w A gs := fun hl => by
  obtain ⟨b, off, hA, _, hlt, hz⟩ := h hl
  refine ⟨b, off, hA, hlt, fun j hj => ?_⟩
  obtain ⟨v, hf, _, hc⟩ := hz j hj
  exact ⟨v, hf, hc⟩

theorem Ints.grown {w w' : World} {A : Option Addr} {zs : List Int} {c : Nat} (h : Ints w A zs) (hg : w.grownBy w' (some c)) (hc : ∀ b off, A = some ⟨b, off, none⟩ → b ≠ c) : Ints w' A zs := fun hl => by
  obtain ⟨b, off, hA, hlt, hz⟩ := h hl
  refine ⟨b, off, hA, Nat.lt_of_lt_of_le hlt hg.size, fun j hj => ?_⟩
  rw [World.cell?_of_block (a := ⟨b, off + j, none⟩) (hg.block b hlt (by simpa using hc b off hA))]
  exact hz j hj

theorem NdsF.grown {B : Nat} {w w' : World} {A : Option Addr} {gs : List Nd} {c : Nat} (h : NdsF B w A gs) (hg : w.grownBy w' (some c)) (hc : c < B) : NdsF B w' A gs := fun hl => by
  obtain ⟨b, off, hA, hB, hlt, hz⟩ := h hl
  have key : ∀ o, w'.cell? ⟨b, o, none⟩ = w.cell? ⟨b, o, none⟩ := fun o => World.cell?_of_block (a := ⟨b, o, none⟩) (hg.block b hlt (by simp; omega))
  refine ⟨b, off, hA, hB, Nat.lt_of_lt_of_le hlt hg.size, fun j hj => ?_⟩
  obtain ⟨v, hf, hv, h0, h1, h2, h3⟩ := hz j hj
  refine ⟨v, ⟨hf.k, hf.a, hf.b, hf.len, hf.cap, hf.is.grown hg (fun b' off' e => by have := hv b' off' e; omega), hf.nil⟩, hv, ?_, ?_, ?_, ?_⟩
  · rw [key]; exact h0
  · rw [key]; exact h1
  · rw [key]; exact h2
  · rw [key]; exact h3

theorem NdsF.below {B : Nat} {w w' : World} {A : Option Addr} {gs : List Nd} (h : NdsF B w A gs) (hb : Below w.heap.size w w') : NdsF B w' A gs := fun hl => by
  obtain ⟨b, off, hA, hB, hlt, hz⟩ := h hl
  refine ⟨b, off, hA, hB, Nat.lt_of_lt_of_le hlt hb.size, fun j hj => ?_⟩
  obtain ⟨v, hf, hv, h0, h1, h2, h3⟩ := hz j hj
  exact ⟨v, hf.below hb, hv, below_keep hb h0, below_keep hb h1, below_keep hb h2, below_keep hb h3⟩

theorem NdsF.take {B : Nat} {w : World} {A : Option Addr} {gs : List Nd} (h : NdsF B w A gs) (k : Nat) : NdsF B w A (gs.take k) := fun hl => by
  have hl2 : 0 < gs.length := by rw [List.length_take] at hl; omega
  obtain ⟨b, off, hA, hB, hlt, hz⟩ := h hl2
  refine ⟨b, off, hA, hB, hlt, fun j hj => ?_⟩
  have hj2 : j < gs.length := by rw [List.length_take] at hj; omega
  rw [List.getElem_take]
  exact hz j hj2

theorem NdsF.lower {B C : Nat} {w : World} {A : Option Addr} {gs : List Nd} (h : NdsF B w A gs) (hC : C ≤ B) : NdsF C w A gs := fun hl => by
  obtain ⟨b, off, hA, hB, hlt, hz⟩ := h hl
  refine ⟨b, off, hA, Nat.le_trans hC hB, hlt, fun j hj => ?_⟩
  obtain ⟨v, hf, hv, hc⟩ := hz j hj
  exact ⟨v, hf, fun b' off' e => Nat.le_trans hC (hv b' off' e), hc⟩

/-- The nodes that a row's cells stand for. -/
theorem inn_lists {b w : World} : ∀ (vs : List Nv), (∀ v ∈ vs, Inn b w v) → ∃ gs : List Nd, gs.length = vs.length ∧ ∀ i (h1 : i < vs.length) (h2 : i < gs.length), vs[i].1 = gs[i].1 ∧ vs[i].2.1 = gs[i].2.1 ∧ vs[i].2.2.1 = gs[i].2.2.1 ∧ gs[i].2.2.2.length = vs[i].2.2.2.2.1 ∧ vs[i].2.2.2.2.1 ≤ 4 ∧ w.ownsRow b.heap.size 3 1 (.slice vs[i].2.2.2.1 vs[i].2.2.2.2.1 vs[i].2.2.2.2.2) vs[i].2.2.2.2.1 (isCells gs[i].2.2.2) := by
  intro vs
  induction vs with
  | nil => exact fun _ => ⟨[], rfl, fun i h => absurd h (by simp)⟩
  | cons v vs ih =>
    intro h
    obtain ⟨gs, hl, hz⟩ := ih (fun u hu => h u (List.mem_cons_of_mem _ hu))
    obtain ⟨h4, zs, hzl, ho⟩ := h v (by simp)
    refine ⟨(v.1, v.2.1, v.2.2.1, zs) :: gs, by simp [hl], fun i h1 h2 => ?_⟩
    cases i with
    | zero => exact ⟨rfl, rfl, rfl, hzl, h4, ho⟩
    | succ i => exact hz i (by simpa using h1) (by simpa using h2)

/-- An owned row of nodes, each with a list of its own, reads as a list of nodes. -/
theorem ndsF_of {b w : World} {A : Option Addr} {n c : Nat} {vs : List Nv} (hr : w.ownsRow b.heap.size 46 4 (.slice A n c) n (nvCells vs)) (hl : vs.length = n) (hi : ∀ v ∈ vs, Inn b w v) :
    ∃ gs : List Nd, gs.length = n ∧ (∀ x ∈ gs, x.2.2.2.length ≤ 4) ∧ NdsF b.heap.size w A gs := by
  obtain ⟨gs, hgl, hz⟩ := inn_lists vs hi
  refine ⟨gs, by rw [hgl, hl], fun x hx => ?_, fun hp => ?_⟩
  · obtain ⟨i, hi2, rfl⟩ := List.getElem_of_mem hx
    have q := hz i (by omega) hi2
    omega
  · have hn : 0 < n := by omega
    obtain ⟨A', c', he, hf⟩ := own_form hr
    simp only [Value.slice.injEq, true_and] at he
    obtain ⟨rfl, rfl⟩ := he
    obtain ⟨g, rfl⟩ := hf hn
    refine ⟨g, 0, rfl, own_ge hr g rfl, own_lt hr, fun j hj => ?_⟩
    have hjv : j < vs.length := by omega
    obtain ⟨e0, e1, e2, e3⟩ := nvCells_at vs j hjv
    obtain ⟨f0, f1, f2, f3, f4, fo⟩ := hz j hjv hj
    obtain ⟨A2, c2, he, _, hs⟩ := Ints.of_own fo
    simp only [Value.slice.injEq, true_and] at he
    obtain ⟨e5, e6⟩ := he
    have hcap : vs[j].2.2.2.2.1 ≤ vs[j].2.2.2.2.2 := by
      rcases fo.2 with ⟨h0, h00⟩ | ⟨g', cap, cur, hv, _, _, hnc, _⟩
      · omega
      · simp only [Value.slice.injEq, true_and] at hv
        omega
    refine ⟨vs[j], ⟨f0, f1, f2, f3, hcap, by rw [e5]; exact hs, own_nil fo⟩, fun b' off' e => ?_, ?_, ?_, ?_, ?_⟩
    · rcases fo.2 with ⟨h0, h00⟩ | ⟨g', cap, cur, hv, hB, _⟩
      · simp only [Value.slice.injEq] at h0
        rw [h0.1] at e; cases e
      · simp only [Value.slice.injEq] at hv
        rw [hv.1] at e
        cases e
        exact hB
    · rw [Nat.zero_add, hr.cellAt (j * 4) (by omega)]; exact e0
    · rw [Nat.zero_add, hr.cellAt (j * 4 + 1) (by omega)]; exact e1
    · rw [Nat.zero_add, hr.cellAt (j * 4 + 2) (by omega)]; exact e2
    · rw [Nat.zero_add, hr.cellAt (j * 4 + 3) (by omega)]; exact e3

/-- How a drawn graph ends. -/
def GaEnd (w : World) (c : Nat) (A : Option Addr) (len cap : Nat) (e : Ending) (w' : World) : Prop :=
  ∃ (A1 : Option Addr) (n c1 : Nat) (wk cp : Int) (gs : List Nd), n ≤ 9 ∧ gs.length = n ∧ (∀ x ∈ gs, x.2.2.2.length ≤ 4) ∧ e = .returned (.agg #[.slice A1 n c1, .int .i64 wk, .int .i64 cp]) ∧ NdsF w.heap.size w' A1 gs ∧ Cursor w' c A len cap ∧ w.grownBy w' (some c)

end Go.Proofs.Ytbbagpnjjjohpaa.hexes

namespace Go.Proofs.Ytbbagpnjjjohpaa.hexes
open Go.RowKit

theorem graphGa_draw (w : World) (c : Nat) (A : Option Addr) (len cap : Nat) (hlen : len ≤ 2097152) (hcur : Cursor w c A len cap) :
    Calls Try.prog 52 #[.pointer (some ⟨c, 0, none⟩)] w (GaEnd w c A len cap) :=
  (graph_draw w c A len cap hlen hcur).mono fun _ _ h => by
    obtain ⟨A1, n, c1, wk, cp, vs, h6, h7, hvl, rfl, ho, hi1, _, _, hc1, g1⟩ := h
    obtain ⟨gs, hgl, hg4, hF⟩ := ndsF_of ho hvl hi1
    exact ⟨A1, n, c1, wk, cp, gs, by omega, hgl, hg4, rfl, hF, hc1, g1⟩
end Go.Proofs.Ytbbagpnjjjohpaa.hexes

namespace Go.Proofs.Ytbbagpnjjjohpaa.hexes
open Go.RowKit

def findN14 (n : Nat) : Code → Option Code
  | .region id ops d => if id = n then some (.region id ops d) else none
  | .seq a b => match findN14 n a with
    | some c => some c
    | none => findN14 n b
  | .block _ c => findN14 n c
  | .scope c => findN14 n c
  | .loop c => findN14 n c
  | .cond _ a b => match findN14 n a with
    | some c => some c
    | none => findN14 n b
  | _ => none
def opsOfN14 : Option Code → Array Oper
  | some (.region _ ops _) => ops
  | _ => #[]
noncomputable def opsN14 : Array Oper := opsOfN14 (Try.f109.body.bind (findN14 14))
theorem noselN14 : Region.noSelect opsN14 = true := by kernel_rfl
def qN14_0 : Oper := { dst := some 43, op := Op.fieldAddr 46 (Operand.tmp 3) 3, type := 0, pos := "l07_operators.go:75", after := #[], guard := none }
theorem hN14_0 : opsN14[0]? = some qN14_0 := by kernel_rfl
def qN14_1 : Oper := { dst := some 44, op := Op.load 44 (Operand.tmp 43), type := 44, pos := "l07_operators.go:75", after := #[{ on := 0, ground := Ground.data }], guard := none }
theorem hN14_1 : opsN14[1]? = some qN14_1 := by kernel_rfl
def qN14_2 : Oper := { dst := some 45, op := Op.move (Operand.tmp 4), type := 3, pos := "l07_operators.go:75", after := #[], guard := none }
theorem hN14_2 : opsN14[2]? = some qN14_2 := by kernel_rfl
def qN14_3 : Oper := { dst := some 46, op := Op.binOp BinOp.mul 3 (Operand.tmp 45) (Operand.const (Value.int IntKind.i64 2)) 3, type := 3, pos := "l07_operators.go:75", after := #[{ on := 2, ground := Ground.data }], guard := none }
theorem hN14_3 : opsN14[3]? = some qN14_3 := by kernel_rfl
def qN14_4 : Oper := { dst := some 47, op := Op.binOp BinOp.add 3 (Operand.const (Value.int IntKind.i64 1)) (Operand.tmp 46) 3, type := 3, pos := "l07_operators.go:75", after := #[{ on := 3, ground := Ground.data }], guard := none }
theorem hN14_4 : opsN14[4]? = some qN14_4 := by kernel_rfl
def qN14_5 : Oper := { dst := some 48, op := Op.move (Operand.tmp 0), type := 80, pos := "l07_operators.go:75", after := #[], guard := none }
theorem hN14_5 : opsN14[5]? = some qN14_5 := by kernel_rfl
def qN14_6 : Oper := { dst := some 49, op := Op.call { callee := Callee.value (Operand.func 54), args := #[Operand.tmp 48, Operand.const (Value.int IntKind.i64 2)], argTypes := #[80, 3] }, type := 3, pos := "l07_operators.go:75", after := #[{ on := 5, ground := Ground.data }], guard := none }
theorem hN14_6 : opsN14[6]? = some qN14_6 := by kernel_rfl
def qN14_7 : Oper := { dst := some 50, op := Op.binOp BinOp.add 3 (Operand.tmp 47) (Operand.tmp 49) 3, type := 3, pos := "l07_operators.go:75", after := #[{ on := 4, ground := Ground.data }, { on := 6, ground := Ground.data }], guard := none }
theorem hN14_7 : opsN14[7]? = some qN14_7 := by kernel_rfl
def qN14_8 : Oper := { dst := some 51, op := Op.buildSlice 44 1 #[(0, Operand.tmp 50)], type := 44, pos := "l07_operators.go:75", after := #[{ on := 7, ground := Ground.data }], guard := none }
theorem hN14_8 : opsN14[8]? = some qN14_8 := by kernel_rfl
def qN14_9 : Oper := { dst := some 52, op := Op.call { callee := Callee.builtin Builtin.append, args := #[Operand.tmp 44, Operand.tmp 51], argTypes := #[44, 44] }, type := 44, pos := "l07_operators.go:75", after := #[{ on := 1, ground := Ground.data }, { on := 8, ground := Ground.data }, { on := 6, ground := Ground.chain }], guard := none }
theorem hN14_9 : opsN14[9]? = some qN14_9 := by kernel_rfl
def qN14_10 : Oper := { dst := some 53, op := Op.fieldAddr 46 (Operand.tmp 3) 3, type := 0, pos := "l07_operators.go:75", after := #[{ on := 0, ground := Ground.phase }, { on := 1, ground := Ground.phase }, { on := 2, ground := Ground.phase }, { on := 3, ground := Ground.phase }, { on := 4, ground := Ground.phase }, { on := 5, ground := Ground.phase }, { on := 6, ground := Ground.phase }, { on := 7, ground := Ground.phase }, { on := 8, ground := Ground.phase }, { on := 9, ground := Ground.phase }], guard := none }
theorem hN14_10 : opsN14[10]? = some qN14_10 := by kernel_rfl
def qN14_11 : Oper := { dst := none, op := Op.store 44 (Operand.tmp 53) (Operand.tmp 52), type := 0, pos := "l07_operators.go:75", after := #[{ on := 10, ground := Ground.data }, { on := 9, ground := Ground.data }, { on := 9, ground := Ground.chain }, { on := 0, ground := Ground.phase }, { on := 1, ground := Ground.phase }, { on := 2, ground := Ground.phase }, { on := 3, ground := Ground.phase }, { on := 4, ground := Ground.phase }, { on := 5, ground := Ground.phase }, { on := 6, ground := Ground.phase }, { on := 7, ground := Ground.phase }, { on := 8, ground := Ground.phase }, { on := 9, ground := Ground.phase }], guard := none }
theorem hN14_11 : opsN14[11]? = some qN14_11 := by kernel_rfl
theorem tN14_e_0 : RegT Try.prog opsN14 qN14_0 (some 43) 11 (#[false, false, false, false, false, false, false, false, false, false, false, false] : Array Bool) (#[true, false, false, false, false, false, false, false, false, false, false, false] : Array Bool) := regT hN14_0 rfl noselN14 (by kernel_rfl) (by kernel_rfl) (by kernel_rfl)
theorem tN14_0_2 : RegT Try.prog opsN14 qN14_2 (some 45) 10 (#[true, false, false, false, false, false, false, false, false, false, false, false] : Array Bool) (#[true, false, true, false, false, false, false, false, false, false, false, false] : Array Bool) := regT hN14_2 rfl noselN14 (by kernel_rfl) (by kernel_rfl) (by kernel_rfl)
theorem tN14_02_3 : RegT Try.prog opsN14 qN14_3 (some 46) 9 (#[true, false, true, false, false, false, false, false, false, false, false, false] : Array Bool) (#[true, false, true, true, false, false, false, false, false, false, false, false] : Array Bool) := regT hN14_3 rfl noselN14 (by kernel_rfl) (by kernel_rfl) (by kernel_rfl)
theorem tN14_023_4 : RegT Try.prog opsN14 qN14_4 (some 47) 8 (#[true, false, true, true, false, false, false, false, false, false, false, false] : Array Bool) (#[true, false, true, true, true, false, false, false, false, false, false, false] : Array Bool) := regT hN14_4 rfl noselN14 (by kernel_rfl) (by kernel_rfl) (by kernel_rfl)
theorem tN14_0234_5 : RegT Try.prog opsN14 qN14_5 (some 48) 7 (#[true, false, true, true, true, false, false, false, false, false, false, false] : Array Bool) (#[true, false, true, true, true, true, false, false, false, false, false, false] : Array Bool) := regT hN14_5 rfl noselN14 (by kernel_rfl) (by kernel_rfl) (by kernel_rfl)
theorem tN14_0123456_7 : RegT Try.prog opsN14 qN14_7 (some 50) 4 (#[true, true, true, true, true, true, true, false, false, false, false, false] : Array Bool) (#[true, true, true, true, true, true, true, true, false, false, false, false] : Array Bool) := regT hN14_7 rfl noselN14 (by kernel_rfl) (by kernel_rfl) (by kernel_rfl)
theorem tN14_0123456789_10 : RegT Try.prog opsN14 qN14_10 (some 53) 1 (#[true, true, true, true, true, true, true, true, true, true, false, false] : Array Bool) (#[true, true, true, true, true, true, true, true, true, true, true, false] : Array Bool) := regT hN14_10 rfl noselN14 (by kernel_rfl) (by kernel_rfl) (by kernel_rfl)
theorem cN14_0123456789_10__11 : RegC Try.prog opsN14 qN14_11 (none) 0 (#[true, true, true, true, true, true, true, true, true, true, true, false] : Array Bool) (#[true, true, true, true, true, true, true, true, true, true, true, true] : Array Bool) := regC hN14_11 rfl (by kernel_rfl) (by kernel_rfl)
theorem cN14_012345678_9 : RegC Try.prog opsN14 qN14_9 (some 52) 2 (#[true, true, true, true, true, true, true, true, true, false, false, false] : Array Bool) (#[true, true, true, true, true, true, true, true, true, true, false, false] : Array Bool) := regC hN14_9 rfl (by kernel_rfl) (by kernel_rfl)
theorem cN14_01234567_8 : RegC Try.prog opsN14 qN14_8 (some 51) 3 (#[true, true, true, true, true, true, true, true, false, false, false, false] : Array Bool) (#[true, true, true, true, true, true, true, true, true, false, false, false] : Array Bool) := regC hN14_8 rfl (by kernel_rfl) (by kernel_rfl)
theorem cN14_012345_6 : RegC Try.prog opsN14 qN14_6 (some 49) 5 (#[true, true, true, true, true, true, false, false, false, false, false, false] : Array Bool) (#[true, true, true, true, true, true, true, false, false, false, false, false] : Array Bool) := regC hN14_6 rfl (by kernel_rfl) (by kernel_rfl)
theorem tN14_023456_7 : RegT Try.prog opsN14 qN14_7 (some 50) 5 (#[true, false, true, true, true, true, true, false, false, false, false, false] : Array Bool) (#[true, false, true, true, true, true, true, true, false, false, false, false] : Array Bool) := regT hN14_7 rfl noselN14 (by kernel_rfl) (by kernel_rfl) (by kernel_rfl)
theorem cN14_02345678_1 : RegC Try.prog opsN14 qN14_1 (some 44) 3 (#[true, false, true, true, true, true, true, true, true, false, false, false] : Array Bool) (#[true, true, true, true, true, true, true, true, true, false, false, false] : Array Bool) := regC hN14_1 rfl (by kernel_rfl) (by kernel_rfl)
set_option maxRecDepth 100000 in
theorem cN14_0234567_18 {Q : Exit → Act → World → Prop} {S : World → Prop} {a : Act} {w : World}
    (h1 : ∀ K' : Act → World → Prop, Shut (∀ a w, S w → (S w → wpAnyH Try.prog .any opsN14 Q S 4 (#[true, true, true, true, true, true, true, true, false, false, false, false] : Array Bool) a w) → K' a w) → if Region.wanted qN14_1 (yielded opsN14 a.tmps) = true then Oper.wp Try.prog qN14_1 a w K' Q else K' (a.put (some 44) undef) w)
    (h8 : ∀ K' : Act → World → Prop, Shut (∀ a w, S w → (S w → wpAnyH Try.prog .any opsN14 Q S 4 (#[true, false, true, true, true, true, true, true, true, false, false, false] : Array Bool) a w) → K' a w) → if Region.wanted qN14_8 (yielded opsN14 a.tmps) = true then Oper.wp Try.prog qN14_8 a w K' Q else K' (a.put (some 51) undef) w) :
    wpAnyH Try.prog .any opsN14 Q S 5 (#[true, false, true, true, true, true, true, true, false, false, false, false] : Array Bool) a w :=
  wpAnyH_ready (rs := [1, 8]) (by kernel_rfl) (by simp) (AllReadyH.cons hN14_1 (fun K' hK => h1 K' ((show (#[true, false, true, true, true, true, true, true, false, false, false, false] : Array Bool).setIfInBounds 1 true = (#[true, true, true, true, true, true, true, true, false, false, false, false] : Array Bool) by kernel_rfl) ▸ hK)) (AllReadyH.cons hN14_8 (fun K' hK => h8 K' ((show (#[true, false, true, true, true, true, true, true, false, false, false, false] : Array Bool).setIfInBounds 8 true = (#[true, false, true, true, true, true, true, true, true, false, false, false] : Array Bool) by kernel_rfl) ▸ hK)) AllReadyH.nil))
set_option maxRecDepth 100000 in
theorem cN14_02345_16 {Q : Exit → Act → World → Prop} {S : World → Prop} {a : Act} {w : World}
    (h1 : ∀ K' : Act → World → Prop, Shut (∀ a w, S w → (S w → wpAnyH Try.prog .any opsN14 Q S 6 (#[true, true, true, true, true, true, false, false, false, false, false, false] : Array Bool) a w) → K' a w) → if Region.wanted qN14_1 (yielded opsN14 a.tmps) = true then Oper.wp Try.prog qN14_1 a w K' Q else K' (a.put (some 44) undef) w)
    (h6 : ∀ K' : Act → World → Prop, Shut (∀ a w, S w → (S w → wpAnyH Try.prog .any opsN14 Q S 6 (#[true, false, true, true, true, true, true, false, false, false, false, false] : Array Bool) a w) → K' a w) → if Region.wanted qN14_6 (yielded opsN14 a.tmps) = true then Oper.wp Try.prog qN14_6 a w K' Q else K' (a.put (some 49) undef) w) :
    wpAnyH Try.prog .any opsN14 Q S 7 (#[true, false, true, true, true, true, false, false, false, false, false, false] : Array Bool) a w :=
  wpAnyH_ready (rs := [1, 6]) (by kernel_rfl) (by simp) (AllReadyH.cons hN14_1 (fun K' hK => h1 K' ((show (#[true, false, true, true, true, true, false, false, false, false, false, false] : Array Bool).setIfInBounds 1 true = (#[true, true, true, true, true, true, false, false, false, false, false, false] : Array Bool) by kernel_rfl) ▸ hK)) (AllReadyH.cons hN14_6 (fun K' hK => h6 K' ((show (#[true, false, true, true, true, true, false, false, false, false, false, false] : Array Bool).setIfInBounds 6 true = (#[true, false, true, true, true, true, true, false, false, false, false, false] : Array Bool) by kernel_rfl) ▸ hK)) AllReadyH.nil))
end Go.Proofs.Ytbbagpnjjjohpaa.hexes

