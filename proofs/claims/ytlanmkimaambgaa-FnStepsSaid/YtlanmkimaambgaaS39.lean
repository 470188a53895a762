/-
  Graphs that a draw gave: lists of nodes that lie from a block on.
  A statement of spec.l10Cells: its operations, and a theorem a step.
  What is remembered of a drawn graph: the contract of spec.l10Cells.
-/
import Derived.Test.YtlanmkimaambgaaS38
import Derived.Test.YtlanmkimaambgaaS11
import Derived.Test.YtlanmkimaambgaaS37
import Derived.Test.YtlanmkimaambgaaS30
import Derived.Test.YtlanmkimaambgaaS7

namespace Go.Proofs.Ytlanmkimaambgaa.hexes
open Go.RowKit

/-- A list of nodes that can be read at A, all of it from block B on. -/
def NdsF (B : Nat) (w : World) (A : Option Addr) (gs : List Nd) : Prop :=
  0 < gs.length → ∃ b off, A = some ⟨b, off, none⟩ ∧ B ≤ b ∧ b < w.heap.size ∧ ∀ j, (h : j < gs.length) → ∃ v : Nv, NdFits w v gs[j] ∧ (∀ b' off', v.2.2.2.1 = some ⟨b', off', none⟩ → B ≤ b') ∧
    w.cell? ⟨b, off + j * 4, none⟩ = some (.int .i64 v.1) ∧ w.cell? ⟨b, off + j * 4 + 1, none⟩ = some (.int .i64 v.2.1) ∧ w.cell? ⟨b, off + j * 4 + 2, none⟩ = some (.int .i64 v.2.2.1) ∧ w.cell? ⟨b, off + j * 4 + 3, none⟩ = some (.slice v.2.2.2.1 v.2.2.2.2.1 v.2.2.2.2.2)

theorem NdsF.nds {B : Nat} {w : World} {A : Option Addr} {gs : List Nd} (h : NdsF B w A gs) : Nds w A gs := fun hl => by
  obtain ⟨b, off, hA, _, hlt, hz⟩ := h hl
  refine ⟨b, off, hA, hlt, fun j hj => ?_⟩
  obtain ⟨v, hf, _, hc⟩ := hz j hj
  exact ⟨v, hf, hc⟩

theorem Ints.grown {w w' : World} {A : Option Addr} {zs : List Int} {c : Nat} (h : Ints w A zs) (hg : w.grownBy w' (some c)) (hc : ∀ b off, A = some ⟨b, off, none⟩ → b ≠ c) : Ints w' A zs := fun hl => by
  obtain ⟨b, off, hA, hlt, hz⟩ := h hl
  refine ⟨b, off, hA, Nat.lt_of_lt_of_le hlt hg.size, fun j hj => ?_⟩
  rw [World.cell?_of_block (a := ⟨b, off + j, none⟩) (hg.block b hlt (by simpa using hc b off hA))]
  exact hz j hj

theorem NdsF.grown {B : Nat} {w w' : World} {A : Option Addr} {gs : List Nd} {c : Nat} (h : NdsF B w A gs) (hg : w.grownBy w' (some c)) (hc : c < B) : NdsF B w' A gs := fun hl => by
  obtain ⟨b, off, hA, hB, hlt, hz⟩ := h hl
  have key : ∀ o, w'.cell? ⟨b, o, none⟩ = w.cell? ⟨b, o, none⟩ := fun o => World.cell?_of_block (a := ⟨b, o, none⟩) (hg.block b hlt (by simp; omega))
  refine ⟨b, off, hA, hB, Nat.lt_of_lt_of_le hlt hg.size, fun j hj => ?_⟩
  obtain ⟨v, hf, hv, h0, h1, h2, h3⟩ := hz j hj
  refine ⟨v, ⟨hf.k, hf.a, hf.b, hf.len, hf.cap, hf.is.grown hg (fun b' off' e => by have := hv b' off' e; omega), hf.nil⟩, hv, ?_, ?_, ?_, ?_⟩
  · rw [key]; exact h0
  · rw [key]; exact h1
  · rw [key]; exact h2
  · rw [key]; exact h3

theorem NdsF.below {B : Nat} {w w' : World} {A : Option Addr} {gs : List Nd} (h : NdsF B w A gs) (hb : Below w.heap.size w w') : NdsF B w' A gs := fun hl => by
  obtain ⟨b, off, hA, hB, hlt, hz⟩ := h hl
  refine ⟨b, off, hA, hB, Nat.lt_of_lt_of_le hlt hb.size, fun j hj => ?_⟩
  obtain ⟨v, hf, hv, h0, h1, h2, h3⟩ := hz j hj
  exact ⟨v, hf.below hb, hv, below_keep hb h0, below_keep hb h1, below_keep hb h2, below_keep hb h3⟩

theorem NdsF.take {B : Nat} {w : World} {A : Option Addr} {gs : List Nd} (h : NdsF B w A gs) (k : Nat) : NdsF B w A (gs.take k) := fun hl => by
  have hl2 : 0 < gs.length := by rw [List.length_take] at hl; omega
  obtain ⟨b, off, hA, hB, hlt, hz⟩ := h hl2
  refine ⟨b, off, hA, hB, hlt, fun j hj => ?_⟩
  have hj2 : j < gs.length := by rw [List.length_take] at hj; omega
  rw [List.getElem_take]
  exact hz j hj2

theorem NdsF.lower {B C : Nat} {w : World} {A : Option Addr} {gs : List Nd} (h : NdsF B w A gs) (hC : C ≤ B) : NdsF C w A gs := fun hl => by
  obtain ⟨b, off, hA, hB, hlt, hz⟩ := h hl
  refine ⟨b, off, hA, Nat.le_trans hC hB, hlt, fun j hj => ?_⟩
  obtain ⟨v, hf, hv, hc⟩ := hz j hj
  exact ⟨v, hf, fun b' off' e => Nat.le_trans hC (hv b' off' e), hc⟩

/-- The nodes that a row's cells stand for. -/
theorem inn_lists {b w : World} : ∀ (vs : List Nv), (∀ v ∈ vs, Inn b w v) → ∃ gs : List Nd, gs.length = vs.length ∧ ∀ i (h1 : i < vs.length) (h2 : i < gs.length), vs[i].1 = gs[i].1 ∧ vs[i].2.1 = gs[i].2.1 ∧ vs[i].2.2.1 = gs[i].2.2.1 ∧ gs[i].2.2.2.length = vs[i].2.2.2.2.1 ∧ vs[i].2.2.2.2.1 ≤ 4 ∧ w.ownsRow b.heap.size 3 1 (.slice vs[i].2.2.2.1 vs[i].2.2.2.2.1 vs[i].2.2.2.2.2) vs[i].2.2.2.2.1 (isCells gs[i].2.2.2) := by
  intro vs
  induction vs with
  | nil => exact fun _ => ⟨[], rfl, fun i h => absurd h (by simp)⟩
  | cons v vs ih =>
    intro h
    obtain ⟨gs, hl, hz⟩ := ih (fun u hu => h u (List.mem_cons_of_mem _ hu))
    obtain ⟨h4, zs, hzl, ho⟩ := h v (by simp)
    refine ⟨(v.1, v.2.1, v.2.2.1, zs) :: gs, by simp [hl], fun i h1 h2 => ?_⟩
    cases i with
    | zero => exact ⟨rfl, rfl, rfl, hzl, h4, ho⟩
    | succ i => exact hz i (by simpa using h1) (by simpa using h2)

/-- An owned row of nodes, each with a list of its own, reads as a list of nodes. -/
theorem ndsF_of {b w : World} {A : Option Addr} {n c : Nat} {vs : List Nv} (hr : w.ownsRow b.heap.size 42 4 (.slice A n c) n (nvCells vs)) (hl : vs.length = n) (hi : ∀ v ∈ vs, Inn b w v) :
    ∃ gs : List Nd, gs.length = n ∧ (∀ x ∈ gs, x.2.2.2.length ≤ 4) ∧ NdsF b.heap.size w A gs := by
  obtain ⟨gs, hgl, hz⟩ := inn_lists vs hi
  refine ⟨gs, by rw [hgl, hl], fun x hx => ?_, fun hp => ?_⟩
  · obtain ⟨i, hi2, rfl⟩ := List.getElem_of_mem hx
    have q := hz i (by omega) hi2
    omega
  · have hn : 0 < n := by omega
    obtain ⟨A', c', he, hf⟩ := own_form hr
    simp only [Value.slice.injEq, true_and] at he
    obtain ⟨rfl, rfl⟩ := he
    obtain ⟨g, rfl⟩ := hf hn
    refine ⟨g, 0, rfl, own_ge hr g rfl, own_lt hr, fun j hj => ?_⟩
    have hjv : j < vs.length := by omega
    obtain ⟨e0, e1, e2, e3⟩ := nvCells_at vs j hjv
    obtain ⟨f0, f1, f2, f3, f4, fo⟩ := hz j hjv hj
    obtain ⟨A2, c2, he, _, hs⟩ := Ints.of_own fo
    simp only [Value.slice.injEq, true_and] at he
    obtain ⟨e5, e6⟩ := he
    have hcap : vs[j].2.2.2.2.1 ≤ vs[j].2.2.2.2.2 := by
      rcases fo.2 with ⟨h0, h00⟩ | ⟨g', cap, cur, hv, _, _, hnc, _⟩
      · omega
      · simp only [Value.slice.injEq, true_and] at hv
        omega
    refine ⟨vs[j], ⟨f0, f1, f2, f3, hcap, by rw [e5]; exact hs, own_nil fo⟩, fun b' off' e => ?_, ?_, ?_, ?_, ?_⟩
    · rcases fo.2 with ⟨h0, h00⟩ | ⟨g', cap, cur, hv, hB, _⟩
      · simp only [Value.slice.injEq] at h0
        rw [h0.1] at e; cases e
      · simp only [Value.slice.injEq] at hv
        rw [hv.1] at e
        cases e
        exact hB
    · rw [Nat.zero_add, hr.cellAt (j * 4) (by omega)]; exact e0
    · rw [Nat.zero_add, hr.cellAt (j * 4 + 1) (by omega)]; exact e1
    · rw [Nat.zero_add, hr.cellAt (j * 4 + 2) (by omega)]; exact e2
    · rw [Nat.zero_add, hr.cellAt (j * 4 + 3) (by omega)]; exact e3

/-- How a drawn graph ends. -/
def GaEnd (w : World) (c : Nat) (A : Option Addr) (len cap : Nat) (e : Ending) (w' : World) : Prop :=
  ∃ (A1 : Option Addr) (n c1 : Nat) (wk cp : Int) (gs : List Nd), n ≤ 9 ∧ gs.length = n ∧ (∀ x ∈ gs, x.2.2.2.length ≤ 4) ∧ e = .returned (.agg #[.slice A1 n c1, .int .i64 wk, .int .i64 cp]) ∧ NdsF w.heap.size w' A1 gs ∧ Cursor w' c A len cap ∧ w.grownBy w' (some c)

end Go.Proofs.Ytlanmkimaambgaa.hexes

namespace Go.Proofs.Ytlanmkimaambgaa.hexes
open Go.RowKit

def findC5 (n : Nat) : Code → Option Code
  | .region id ops d => if id = n then some (.region id ops d) else none
  | .seq a b => match findC5 n a with
    | some c => some c
    | none => findC5 n b
  | .block _ c => findC5 n c
  | .scope c => findC5 n c
  | .loop c => findC5 n c
  | .cond _ a b => match findC5 n a with
    | some c => some c
    | none => findC5 n b
  | _ => none
def opsOfC5 : Option Code → Array Oper
  | some (.region _ ops _) => ops
  | _ => #[]
noncomputable def opsC5 : Array Oper := opsOfC5 (Try.f35.body.bind (findC5 5))
theorem noselC5 : Region.noSelect opsC5 = true := by kernel_rfl
def qC5_0 : Oper := { dst := some 15, op := Op.load 26 (Operand.tmp 3), type := 26, pos := "l10_steps.go:73", after := #[], guard := none }
theorem hC5_0 : opsC5[0]? = some qC5_0 := by kernel_rfl
def qC5_1 : Oper := { dst := some 16, op := Op.move (Operand.tmp 5), type := 27, pos := "l10_steps.go:73", after := #[], guard := none }
theorem hC5_1 : opsC5[1]? = some qC5_1 := by kernel_rfl
def qC5_2 : Oper := { dst := some 17, op := Op.move (Operand.tmp 0), type := 66, pos := "l10_steps.go:73", after := #[], guard := none }
theorem hC5_2 : opsC5[2]? = some qC5_2 := by kernel_rfl
def qC5_3 : Oper := { dst := some 18, op := Op.load 26 (Operand.tmp 3), type := 26, pos := "l10_steps.go:73", after := #[], guard := none }
theorem hC5_3 : opsC5[3]? = some qC5_3 := by kernel_rfl
def qC5_4 : Oper := { dst := some 19, op := Op.call { callee := Callee.value (Operand.func 37), args := #[Operand.tmp 17, Operand.tmp 18], argTypes := #[66, 26] }, type := 31, pos := "l10_steps.go:73", after := #[{ on := 2, ground := Ground.data }, { on := 3, ground := Ground.data }], guard := none }
theorem hC5_4 : opsC5[4]? = some qC5_4 := by kernel_rfl
def qC5_5 : Oper := { dst := some 20, op := Op.call { callee := Callee.value (Operand.func 9), args := #[Operand.tmp 15, Operand.tmp 16, Operand.tmp 19], argTypes := #[26, 27, 31] }, type := 35, pos := "l10_steps.go:73", after := #[{ on := 0, ground := Ground.data }, { on := 1, ground := Ground.data }, { on := 4, ground := Ground.data }, { on := 4, ground := Ground.chain }], guard := none }
theorem hC5_5 : opsC5[5]? = some qC5_5 := by kernel_rfl
def qC5_6 : Oper := { dst := some 14, op := Op.move (Operand.tmp 20), type := 35, pos := "l10_steps.go:73", after := #[{ on := 5, ground := Ground.data }], guard := none }
theorem hC5_6 : opsC5[6]? = some qC5_6 := by kernel_rfl
def qC5_7 : Oper := { dst := some 21, op := Op.extract (Operand.tmp 14) 0, type := 27, pos := "l10_steps.go:73", after := #[{ on := 6, ground := Ground.data }], guard := none }
theorem hC5_7 : opsC5[7]? = some qC5_7 := by kernel_rfl
def qC5_8 : Oper := { dst := some 22, op := Op.extract (Operand.tmp 14) 1, type := 34, pos := "l10_steps.go:73", after := #[{ on := 6, ground := Ground.data }, { on := 10, ground := Ground.gcOnly Departure.lateStores }], guard := none }
theorem hC5_8 : opsC5[8]? = some qC5_8 := by kernel_rfl
def qC5_9 : Oper := { dst := some 23, op := Op.extract (Operand.tmp 14) 2, type := 4, pos := "l10_steps.go:73", after := #[{ on := 6, ground := Ground.data }, { on := 10, ground := Ground.gcOnly Departure.lateStores }], guard := none }
theorem hC5_9 : opsC5[9]? = some qC5_9 := by kernel_rfl
def qC5_10 : Oper := { dst := some 5, op := Op.assign (Operand.tmp 21), type := 27, pos := "l10_steps.go:73", after := #[{ on := 7, ground := Ground.data }, { on := 5, ground := Ground.chain }, { on := 0, ground := Ground.phase }, { on := 1, ground := Ground.phase }, { on := 2, ground := Ground.phase }, { on := 3, ground := Ground.phase }, { on := 4, ground := Ground.phase }, { on := 5, ground := Ground.phase }, { on := 6, ground := Ground.phase }, { on := 7, ground := Ground.phase }, { on := 8, ground := Ground.textOnly Departure.lateStores }, { on := 9, ground := Ground.textOnly Departure.lateStores }], guard := none }
theorem hC5_10 : opsC5[10]? = some qC5_10 := by kernel_rfl
theorem tC5_e_0 : RegT Try.prog opsC5 qC5_0 (some 15) 10 (#[false, false, false, false, false, false, false, false, false, false, false] : Array Bool) (#[true, false, false, false, false, false, false, false, false, false, false] : Array Bool) := regT hC5_0 rfl noselC5 (by kernel_rfl) (by kernel_rfl) (by kernel_rfl)
theorem tC5_0_1 : RegT Try.prog opsC5 qC5_1 (some 16) 9 (#[true, false, false, false, false, false, false, false, false, false, false] : Array Bool) (#[true, true, false, false, false, false, false, false, false, false, false] : Array Bool) := regT hC5_1 rfl noselC5 (by kernel_rfl) (by kernel_rfl) (by kernel_rfl)
theorem tC5_01_2 : RegT Try.prog opsC5 qC5_2 (some 17) 8 (#[true, true, false, false, false, false, false, false, false, false, false] : Array Bool) (#[true, true, true, false, false, false, false, false, false, false, false] : Array Bool) := regT hC5_2 rfl noselC5 (by kernel_rfl) (by kernel_rfl) (by kernel_rfl)
theorem tC5_012_3 : RegT Try.prog opsC5 qC5_3 (some 18) 7 (#[true, true, true, false, false, false, false, false, false, false, false] : Array Bool) (#[true, true, true, true, false, false, false, false, false, false, false] : Array Bool) := regT hC5_3 rfl noselC5 (by kernel_rfl) (by kernel_rfl) (by kernel_rfl)
theorem tC5_012345_6 : RegT Try.prog opsC5 qC5_6 (some 14) 4 (#[true, true, true, true, true, true, false, false, false, false, false] : Array Bool) (#[true, true, true, true, true, true, true, false, false, false, false] : Array Bool) := regT hC5_6 rfl noselC5 (by kernel_rfl) (by kernel_rfl) (by kernel_rfl)
theorem tC5_0123456_7 : RegT Try.prog opsC5 qC5_7 (some 21) 3 (#[true, true, true, true, true, true, true, false, false, false, false] : Array Bool) (#[true, true, true, true, true, true, true, true, false, false, false] : Array Bool) := regT hC5_7 rfl noselC5 (by kernel_rfl) (by kernel_rfl) (by kernel_rfl)
theorem tC5_01234567_8 : RegT Try.prog opsC5 qC5_8 (some 22) 2 (#[true, true, true, true, true, true, true, true, false, false, false] : Array Bool) (#[true, true, true, true, true, true, true, true, true, false, false] : Array Bool) := regT hC5_8 rfl noselC5 (by kernel_rfl) (by kernel_rfl) (by kernel_rfl)
theorem tC5_012345678_9 : RegT Try.prog opsC5 qC5_9 (some 23) 1 (#[true, true, true, true, true, true, true, true, true, false, false] : Array Bool) (#[true, true, true, true, true, true, true, true, true, true, false] : Array Bool) := regT hC5_9 rfl noselC5 (by kernel_rfl) (by kernel_rfl) (by kernel_rfl)
theorem tC5_0123456789_10 : RegT Try.prog opsC5 qC5_10 (some 5) 0 (#[true, true, true, true, true, true, true, true, true, true, false] : Array Bool) (#[true, true, true, true, true, true, true, true, true, true, true] : Array Bool) := regT hC5_10 rfl noselC5 (by kernel_rfl) (by kernel_rfl) (by kernel_rfl)
theorem cC5_01234_5 : RegC Try.prog opsC5 qC5_5 (some 20) 5 (#[true, true, true, true, true, false, false, false, false, false, false] : Array Bool) (#[true, true, true, true, true, true, false, false, false, false, false] : Array Bool) := regC hC5_5 rfl (by kernel_rfl) (by kernel_rfl)
theorem cC5_0123_4 : RegC Try.prog opsC5 qC5_4 (some 19) 6 (#[true, true, true, true, false, false, false, false, false, false, false] : Array Bool) (#[true, true, true, true, true, false, false, false, false, false, false] : Array Bool) := regC hC5_4 rfl (by kernel_rfl) (by kernel_rfl)
end Go.Proofs.Ytlanmkimaambgaa.hexes

namespace Go.Proofs.Ytlanmkimaambgaa.hexes
open Go.RowKit

/-- How a drawn operator state ends. -/
def Ce10End (w : World) (c : Nat) (A : Option Addr) (len cap : Nat) (e : Ending) (w' : World) : Prop :=
  ∃ (A3 : Option Addr) (m3 c3 : Nat) (zs : List Ce), m3 ≤ 6 ∧ zs.length = m3 ∧ e = .returned (.slice A3 m3 c3) ∧ w'.ownsRow w.heap.size 75 4 (.slice A3 m3 c3) m3 (ceCells zs) ∧ Cursor w' c A len cap ∧ w.grownBy w' (some c)
/-- What a round reads. -/
structure C10Held (g : Nat) (A1 : Option Addr) (n c1 : Nat) (wk cp : Int) (w : World) : Prop where
  g0 : w.cell? ⟨g, 0, none⟩ = some (.slice A1 n c1)
  g1 : w.cell? ⟨g, 1, none⟩ = some (.int .i64 wk)
  g2 : w.cell? ⟨g, 2, none⟩ = some (.int .i64 cp)
/-- What the drawing loop keeps from round to round. -/
structure C10 (b wx : World) (B c : Nat) (A : Option Addr) (len cap : Nat) (gs : List Nd) (wk cp : Int) (A1 : Option Addr) (n c1 : Nat) (A3 : Option Addr) (m3 c3 : Nat) (zs : List Ce) : Prop where
  c0 : Cursor b c A len cap
  cB : c < B
  cur : Cursor wx c A len cap
  gr : b.grownBy wx (some c)
  kg : Blk wx b.heap.size 26 #[.slice A1 n c1, .int .i64 wk, .int .i64 cp]
  row : wx.ownsRow b.heap.size 75 4 (.slice A3 m3 c3) m3 (ceCells zs)
  nds : NdsF B wx A1 gs
variable {b wx w' : World} {B c : Nat} {A : Option Addr} {len cap : Nat} {gs : List Nd} {wk cp : Int} {A1 : Option Addr} {n c1 : Nat} {A3 : Option Addr} {m3 c3 : Nat} {zs : List Ce}
theorem C10.fresh (S : C10 b wx B c A len cap gs wk cp A1 n c1 A3 m3 c3 zs) (hb : Below wx.heap.size wx w') : C10 b w' B c A len cap gs wk cp A1 n c1 A3 m3 c3 zs :=
  ⟨S.c0, S.cB, S.cur.belowD hb, grown_below S.gr hb, S.kg.below hb, own_below S.row hb, S.nds.below hb⟩
theorem C10.draw (S : C10 b wx B c A len cap gs wk cp A1 n c1 A3 m3 c3 zs) (hc : Cursor w' c A len cap) (g : wx.grownBy w' (some c)) : C10 b w' B c A len cap gs wk cp A1 n c1 A3 m3 c3 zs := by
  have h := S.c0.lt
  obtain ⟨i, hh, hi, hblk⟩ := S.cur.at_
  exact ⟨S.c0, S.cB, hc, grown_trans S.gr g, S.kg.grown g (by simp; omega), S.row.kept g (.inr (own_type S.row hblk (by decide))), S.nds.grown g S.cB⟩
theorem C10.step (S : C10 b wx B c A len cap gs wk cp A1 n c1 A3 m3 c3 zs) (hb : Below wx.heap.size wx w') {A5 : Option Addr} {m5 c5 : Nat} {us : List Ce} (ho : w'.ownsRow wx.heap.size 75 4 (.slice A5 m5 c5) m5 (ceCells us)) : C10 b w' B c A len cap gs wk cp A1 n c1 A5 m5 c5 us :=
  ⟨S.c0, S.cB, S.cur.belowD hb, grown_below S.gr hb, S.kg.below hb, own_base ho S.gr.size, S.nds.below hb⟩
theorem C10.held (S : C10 b wx B c A len cap gs wk cp A1 n c1 A3 m3 c3 zs) : C10Held b.heap.size A1 n c1 wk cp wx := ⟨by rw [S.kg.cell]; rfl, by rw [S.kg.cell]; rfl, by rw [S.kg.cell]; rfl⟩
theorem C10.ces (S : C10 b wx B c A len cap gs wk cp A1 n c1 A3 m3 c3 zs) : Ces wx A3 zs := by
  obtain ⟨A', c', he, _, hs⟩ := Ces.of_own S.row
  simp only [Value.slice.injEq, true_and] at he
  obtain ⟨rfl, rfl⟩ := he
  exact hs

set_option maxRecDepth 100000 in
set_option maxHeartbeats 8000000 in
theorem cells10_draw (gs : List Nd) (wk cp : Int) (A1 : Option Addr) (n c1 : Nat) (hl : gs.length = n) (ho : ∀ x ∈ gs, x.2.2.2.length ≤ 1048576) (hn : n ≤ 1048576) (w : World) (B c : Nat) (hB : c < B) (A : Option Addr) (len cap : Nat) (hlen : len ≤ 2097152) (hcur : Cursor w c A len cap) (h : NdsF B w A1 gs) :
    Calls Try.prog 35 #[.pointer (some ⟨c, 0, none⟩), .agg #[.slice A1 n c1, .int .i64 wk, .int .i64 cp]] w (Ce10End w c A len cap) := by
  have HL := Lib.hid hl
  have HO := Lib.hid ho
  have HC := Lib.hid hcur
  have HN := Lib.hid h
  clear hl ho hcur h
  obtain ⟨W, hW⟩ : ∃ z, (w.alloc (.cells #[.slice A1 n c1, .int .i64 wk, .int .i64 cp] 26)).alloc (.cells #[] 75) = z := ⟨_, rfl⟩
  have hb : Below w.heap.size w W := by rw [← hW]; exact ((Below.refl _ _).alloc (Nat.le_refl _) _).alloc (by simp) _
  have S0 := Lib.hid (show C10 w W B c A len cap gs wk cp A1 n c1 (some ⟨w.heap.size + 1, 0, none⟩) 0 0 [] from
    ⟨HC.out, hB, HC.out.belowD hb, grown_below (grown_refl w (some c)) hb, by rw [← hW]; exact ((Below.heap_alloc _ _ _ (by first | (simp; done) | (simp; omega))).trans (Blk.new _ _ _)),
     by
      rw [← hW]
      have h := World.ownsRow_lit (base := w.heap.size) (e := 75) (size := 4) (w.alloc (.cells #[.slice A1 n c1, .int .i64 wk, .int .i64 cp] 26)) #[] 0 (by simp) (by decide) (by rfl)
      rw [World.size_alloc] at h
      exact h, HN.out.below hb⟩)
  clear hb
  go_enter Try.func35, Try.ntmps35
  go_wp2_with fail
  clear hW
  go_loopw [5, 6] (fun t i wr => ∃ (j : Nat) (A3 : Option Addr) (m3 c3 : Nat) (zs : List Ce), i = .int .i64 (j : Int) ∧ j ≤ 5 ∧ t = .slice A3 m3 c3 ∧ zs.length = m3 ∧ m3 ≤ j ∧ C10 w wr B c A len cap gs wk cp A1 n c1 A3 m3 c3 zs) (fun _ i _ => 6 - (intOf i).toNat)
  case atStart => exact ⟨0, _, 0, 0, [], rfl, by omega, rfl, rfl, by omega, S0.out⟩
  case round =>
    obtain ⟨j, A3, m3, c3, zs, rfl, hj, rfl, hz, hm, hS⟩ := hrel
    have SR := Lib.hid hS
    have HZ := Lib.hid hz
    clear hS hz S0
    go_wp2_with fail
    refine (below_any 6 (by omega) (by omega) wr c A len cap hlen SR.out.cur).mono ?_
    rintro e wq ⟨x, hx, rfl, hcq, gq⟩
    have SQ := Lib.hid (SR.out.draw hcq gq)
    clear hcq gq SR
    by_cases hlt : j < x
    · have i1 : (j : Int) < (x : Int) := by omega
      obtain ⟨V9, hV⟩ : ∃ v, wq.drew = v := ⟨_, rfl⟩
      have SV := Lib.hid (show C10 w V9 B c A len cap gs wk cp A1 n c1 A3 m3 c3 zs by rw [← hV]; exact SQ.out.fresh ((Below.refl _ _).drew))
      have HV := Lib.hid SV.out.held
      clear SQ
      go_wp2_with fail
      refine wp_region_held_drew (S := C10Held w.heap.size A1 n c1 wk cp) (by kernel_rfl) ?_ (fun hHeld => ?_)
      · rw [hV]; exact HV.out
      change wpAnyH _ _ opsC5 _ _ 11 (#[false, false, false, false, false, false, false, false, false, false, false] : Array Bool) _ _
      rw [hV] at hHeld ⊢
      clear hV HV
      refine regY tC5_e_0 (.agg #[.slice A1 n c1, .int .i64 wk, .int .i64 cp]) (fun W hSw => by unfold qC5_0; obtain ⟨g0, g1, g2⟩ := hSw; go_simp) hHeld ?_
      try simp only [pt, List.set]
      refine regY tC5_0_1 (.slice A3 m3 c3) (fun W hSw => by unfold qC5_1; go_simp) hHeld ?_
      try simp only [pt, List.set]
      refine regY tC5_01_2 (.pointer (some ⟨c, 0, none⟩)) (fun W hSw => by unfold qC5_2; go_simp) hHeld ?_
      try simp only [pt, List.set]
      refine regY tC5_012_3 (.agg #[.slice A1 n c1, .int .i64 wk, .int .i64 cp]) (fun W hSw => by unfold qC5_3; obtain ⟨g0, g1, g2⟩ := hSw; go_simp) hHeld ?_
      try simp only [pt, List.set]
      refine cC5_0123_4 (fun K hK => ?_)
      rw [if_pos (by rfl)]
      unfold qC5_4
      go_simp
      refine (rec10_draw A1 n c1 wk cp (by omega) V9 c A len cap hlen SV.out.cur).mono ?_
      rintro e v1 ⟨p0, p1, p2, p3, p4, rfl, hcn, gn⟩
      have T1 := Lib.hid (SV.out.draw hcn gn)
      have H1 := T1.out.held
      clear hcn gn
      refine Shut.out hK _ _ ?_ (fun hHeld => ?_)
      · exact H1
      clear hK K
      refine cC5_01234_5 (fun K hK => ?_)
      rw [if_pos (by rfl)]
      unfold qC5_5
      go_simp
      obtain ⟨⟨⟨cs2, out⟩, ok⟩, hsg⟩ : ∃ p, stepGr gs wk cp zs (p0, (p1, p2), p3, p4) = p := ⟨_, rfl⟩
      have lc : cs2.length ≤ m3 + 1 := by have h := stepG_cells gs wk cp zs (p0, (p1, p2), p3, p4); rw [hsg, HZ.out] at h; exact h
      refine (specStep_any gs wk cp A1 n c1 HL.out HO.out (by omega) zs A3 m3 c3 HZ.out (own_nil T1.out.row) (own_capS T1.out.row) (by omega) p0 p1 p2 p3 p4 v1 T1.out.nds.nds T1.out.ces).mono ?_
      rintro e w5 ⟨A5, c5, m5, A6, c6, m6, hm5, hm6, rfl, hs5, hr6, hb⟩
      rw [hsg] at hm5 hs5 ⊢
      have HM5 := Lib.hid (show cs2.length = m5 from hm5)
      have l5 : m5 ≤ m3 + 1 := by rw [← HM5.out]; exact lc
      have T2 := Lib.hid (T1.out.step hb (show w5.ownsRow v1.heap.size 75 4 (.slice A5 m5 c5) m5 (ceCells cs2) from hs5))
      have H2 := T2.out.held
      clear hm5 hm6 hs5 hr6 hb hsg lc
      refine Shut.out hK _ _ ?_ (fun hHeld => ?_)
      · exact H2
      clear hK K
      refine regY tC5_012345_6 (.tuple #[.slice A5 m5 c5, .slice A6 m6 c6, .bool ok]) (fun W hSw => by unfold qC5_6; go_simp) hHeld ?_
      try simp only [pt, List.set]
      refine regY tC5_0123456_7 (.slice A5 m5 c5) (fun W hSw => by unfold qC5_7; go_simp) hHeld ?_
      try simp only [pt, List.set]
      refine regY tC5_01234567_8 (.slice A6 m6 c6) (fun W hSw => by unfold qC5_8; go_simp) hHeld ?_
      try simp only [pt, List.set]
      refine regY tC5_012345678_9 (.bool ok) (fun W hSw => by unfold qC5_9; go_simp) hHeld ?_
      try simp only [pt, List.set]
      refine regY tC5_0123456789_10 (.slice A5 m5 c5) (fun W hSw => by unfold qC5_10; go_simp) hHeld ?_
      try simp only [pt, List.set]
      refine wpAnyH_done (by kernel_rfl) ?_ _
      clear hHeld
      clear SV T1 H1 H2
      go_wp2
      go_roundw
      case rel => first | exact ⟨j + 1, A5, m5, c5, cs2, by go_num, by omega, rfl, HM5.out, by omega, T2.out⟩ | ((repeat apply Exists.intro); refine ⟨?_, rfl⟩; exact ⟨j + 1, A5, m5, c5, cs2, by go_num, by omega, rfl, HM5.out, by omega, T2.out⟩)
      case measure => simp [intOf]; omega
    · have dl : decide ((j : Int) < (x : Int)) = false := by simp; omega
      go_wp2
      exact bodyPost_ret (v := .slice A3 m3 c3) (by simp [results, Try.results35, go_sem]) rfl ⟨A3, m3, c3, zs, by omega, HZ.out, rfl, SQ.out.row, SQ.out.cur, SQ.out.gr⟩
end Go.Proofs.Ytlanmkimaambgaa.hexes

