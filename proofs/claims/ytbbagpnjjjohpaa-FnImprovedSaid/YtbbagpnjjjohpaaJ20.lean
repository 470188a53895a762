/-
  How Improve ends; what its emitting loop keeps.
  A statement of spec.Improve: its operations, and a theorem a step.
-/
import Derived.Test.YtbbagpnjjjohpaaJ9
import Derived.Test.YtbbagpnjjjohpaaJ12
import Derived.Test.YtbbagpnjjjohpaaJ18
import Derived.Test.YtbbagpnjjjohpaaJ19
import Derived.Test.YtbbagpnjjjohpaaJ6
import Derived.Test.YtbbagpnjjjohpaaJ4

namespace Go.Proofs.Ytbbagpnjjjohpaa.hexes
open Go.RowKit

/-- Two lists share no block. -/
def ApartC (A B : Option Addr) : Prop := ∀ g o o', A = some ⟨g, o, none⟩ → B ≠ some ⟨g, o', none⟩
/-- How Improve ends. -/
def ImpEnd (w : World) (q : List Ce × List Ce) (e : Ending) (w' : World) : Prop :=
  ∃ (A3 : Option Addr) (c3 m3 : Nat) (A4 : Option Addr) (c4 m4 : Nat), q.1.length = m3 ∧ q.2.length = m4 ∧ e = .returned (.tuple #[.slice A3 m3 c3, .slice A4 m4 c4]) ∧ Wce w' w.heap.size w'.heap.size A3 m3 c3 q.1 ∧ Wce w' w.heap.size w'.heap.size A4 m4 c4 q.2 ∧ ApartC A3 A4 ∧ Below w.heap.size w w'
theorem specRecG_rowI {kd : Int} {n m : Nat} {zs us : List Ce} {A : Option Addr} {c : Nat} {b : Bool} {x0 x1 x2 x3 : Int} (hz : zs.length = n) (hA : A = none → c = 0) (hc : n ≤ c) (hn : n ≤ 2000000) (hr : recC kd zs (x0, x1, x2, x3) = (us, b)) (hm : us.length = m) (w : World) (h : Ces w A zs) :
    Calls Try.prog 58 #[.int .i64 kd, .slice A n c, .agg #[.int .i64 x0, .int .i64 x1, .int .i64 x2, .int .i64 x3]] w fun e w' => ∃ A1 c1, e = .returned (.tuple #[.slice A1 m c1, .bool b]) ∧ Row w' w.heap.size w'.heap.size 38 4 A1 m c1 (ceCells us) ∧ Below w.heap.size w w' := by
  subst hm
  refine (specRec_any kd n zs hz A c hA hc x0 x1 x2 x3 w h hn).mono ?_
  rintro e w' ⟨v, he, ho, hb⟩
  rw [hr] at he ho
  obtain ⟨A1, c1, rfl, r⟩ := row_of ho
  exact ⟨A1, c1, he, r, hb⟩

/-- What the emitting loop reads. -/
structure ImpHeld (nb m cn bz oz j : Nat) (z : Int) (xb : Nat) (x1 : Int) (w : World) : Prop where
  c3 : w.cell? ⟨nb, 3, none⟩ = some (.slice (some ⟨bz, oz, none⟩) m cn)
  e : w.cell? ⟨bz, oz + j, none⟩ = some (.int .i64 z)
  t1 : w.cell? ⟨xb, 1, none⟩ = some (.int .i64 x1)
  tr : True
theorem ImpHeld.below {nb m cn bz oz j : Nat} {z : Int} {xb : Nat} {x1 : Int} {w w' : World} (h : ImpHeld nb m cn bz oz j z xb x1 w) (hb : Below w.heap.size w w') : ImpHeld nb m cn bz oz j z xb x1 w' :=
  ⟨below_keep hb h.c3, below_keep hb h.e, below_keep hb h.t1, trivial⟩
/-- What the emitting loop keeps from round to round. -/
structure ImpSt (w wr : World) (loS hiS bZ nb xb : Nat) (As : Option Addr) (ms cs : Nat) (us : List Ce) (An : Option Addr) (m cn : Nat) (zs : List Int) (k a b x0 x1 x2 x3 : Int) (AO : Option Addr) (j cO : Nat) (out : List Ce) : Prop where
  o : Wce wr w.heap.size wr.heap.size AO j cO out
  s : Row wr loS hiS 38 4 As ms cs (ceCells us)
  z : wr.ownsRow bZ 3 1 (.slice An m cn) m (isCells zs)
  n : Blk wr nb 46 #[.int .i64 k, .int .i64 a, .int .i64 b, .slice An m cn]
  x : Blk wr xb 38 #[.int .i64 x0, .int .i64 x1, .int .i64 x2, .int .i64 x3]
  ap : ∀ g o, AO = some ⟨g, o, none⟩ → (g < loS ∨ hiS ≤ g) ∧ g ≠ xb
  ws : w.heap.size ≤ loS
  hs : hiS ≤ wr.heap.size
  xs : xb < wr.heap.size
  bel : Below w.heap.size w wr
section
variable {w wr w' : World} {loS hiS bZ nb xb ms cs m cn j cO : Nat} {As An AO : Option Addr} {us out : List Ce} {zs : List Int} {k a b x0 x1 x2 x3 : Int}
theorem ImpSt.fresh (h : ImpSt w wr loS hiS bZ nb xb As ms cs us An m cn zs k a b x0 x1 x2 x3 AO j cO out) (hb : Below wr.heap.size wr w') : ImpSt w w' loS hiS bZ nb xb As ms cs us An m cn zs k a b x0 x1 x2 x3 AO j cO out :=
  ⟨(h.o.below hb).bounds (Nat.le_refl _) hb.size, h.s.below hb, own_below h.z hb, h.n.below hb, h.x.below hb, h.ap, h.ws, Nat.le_trans h.hs hb.size, Nat.lt_of_lt_of_le h.xs hb.size, below_chain h.bel hb⟩
theorem ImpSt.app (h : ImpSt w wr loS hiS bZ nb xb As ms cs us An m cn zs k a b x0 x1 x2 x3 AO j cO out) {r : Ce} {A2 : Option Addr} {c2 : Nat} (ho : Wce w' w.heap.size w'.heap.size A2 (j + 1) c2 (out ++ [r])) (gr : ToV wr w' w.heap.size wr.heap.size 38 4 AO) (ha : A2 = AO ∨ ∃ g o, A2 = some ⟨g, o, none⟩ ∧ wr.heap.size ≤ g) :
    ImpSt w w' loS hiS bZ nb xb As ms cs us An m cn zs k a b x0 x1 x2 x3 A2 (j + 1) c2 (out ++ [r]) := by
  refine ⟨ho, ⟨gr.apart h.s.own fun g o hA e => ?_, h.s.lt⟩, gr.kept h.z (by decide), gr.blk h.n (by decide), ?_, fun g o hA => ?_, h.ws, Nat.le_trans h.hs gr.grow, Nat.lt_of_lt_of_le h.xs gr.grow, gr.bel h.bel (Nat.le_refl _)⟩
  · have h1 := own_ge h.s.own g e
    have h2 := h.s.lt g e
    have h3 := (h.ap g o hA).1
    omega
  · obtain ⟨row, hg, hr⟩ := gr
    refine h.x.grown hg fun e => ?_
    rcases hr with rfl | ⟨g, o, _, _, _, rfl, hA, _, _⟩
    · cases e
    · exact (h.ap g o hA).2 (Option.some.inj e).symm
  · rcases ha with rfl | ⟨g2, o2, rfl, hge⟩
    · exact h.ap g o hA
    · simp only [Option.some.injEq, Addr.mk.injEq, and_true] at hA
      have h1 := h.hs
      have h2 := h.xs
      omega
theorem ImpSt.at (h : ImpSt w wr loS hiS bZ nb xb As ms cs us An m cn zs k a b x0 x1 x2 x3 AO j cO out) : zs.length = m ∧ Ints wr An zs := by
  obtain ⟨A', c', he, hl, hs⟩ := Ints.of_own h.z
  simp only [Value.slice.injEq, true_and] at he
  obtain ⟨rfl, rfl⟩ := he
  exact ⟨hl, hs⟩
theorem ImpSt.held (h : ImpSt w wr loS hiS bZ nb xb As ms cs us An m cn zs k a b x0 x1 x2 x3 AO j cO out) {bz oz i : Nat} {z : Int} (hi : i < zs.length) (hA : An = some ⟨bz, oz, none⟩) (hz : zs[i] = z) : ImpHeld nb m cn bz oz i z xb x1 wr := by
  obtain ⟨bz', oz', p, hA', hp, hc⟩ := h.at.2.at hi
  rw [hA] at hA'
  simp only [Option.some.injEq, Addr.mk.injEq, and_true] at hA'
  obtain ⟨rfl, rfl⟩ := hA'
  rw [hz] at hp
  subst hp
  exact ⟨by rw [h.n.cell, hA]; rfl, hc, by rw [h.x.cell]; rfl, trivial⟩
theorem ImpSt.done (h : ImpSt w wr loS hiS bZ nb xb As ms cs us An m cn zs k a b x0 x1 x2 x3 AO j cO out) {q : List Ce × List Ce} (hq : q = (us, out)) : ImpEnd w q (.returned (.tuple #[.slice As ms cs, .slice AO j cO])) wr := by
  subst hq
  have h1 := h.s.own.1
  rw [ceCells_length] at h1
  refine ⟨As, cs, ms, AO, cO, j, by show us.length = ms; omega, h.o.1, rfl, (Wce.of_row h.s).bounds h.ws h.hs, h.o, fun g o o' hA hB => ?_, h.bel⟩
  have h3 := (h.ap g o' hB).1
  have h4 : (Value.slice As ms cs).ownBlock = some g := by rw [hA]; rfl
  have h5 := own_ge h.s.own g h4
  have h6 := h.s.lt g h4
  omega
end
theorem emitC_step {zs : List Int} {ep ky vy : Int} {j : Nat} (hj : j < zs.length) : emitC (zs.take (j + 1)) ep ky vy = emitC (zs.take j) ep ky vy ++ [(zs[j], ep, ky, vy)] := by
  unfold emitC
  rw [take_last hj, List.map_append]
  rfl
theorem impG_no {gs : List Nd} {wk cp : Int} {best : List Ce} {c : Ce} (h : impB gs wk cp c = false) : impG gs wk cp best c = (best, []) := by
  unfold impG
  rw [h, if_neg (by simp)]
theorem impG_off {gs : List Nd} {wk cp : Int} {best us : List Ce} {c : Ce} (h : recC 5 best c = (us, false)) : impG gs wk cp best c = (best, []) := by
  have h2 : (recL best c).2 = false := by have := congrArg Prod.snd h; simpa [recC] using this
  unfold impG
  rw [h2, Bool.and_false, if_neg (by simp)]
theorem impG_on {gs : List Nd} {wk cp : Int} {best us : List Ce} {c : Ce} {k a b : Int} {zs : List Int} {q2 go : Bool} {ky vy : Int} (hb : impB gs wk cp c = true) (h : recC 5 best c = (us, true)) (hx : nodeAt gs c.1 = (k, a, b, zs)) (hq : okC k a b (dec1 a) c.2.2.1 c.2.2.2 zs = q2) (hk : chgK q2 k a c.2.2.1 = ky) (hv : chgV q2 k a c.2.2.2 = vy) (hg : chgO q2 k a b c.2.2.1 = go) : impG gs wk cp best c = (us, if go = true then emitC zs c.2.1 ky vy else []) := by
  have h2 : recL best c = (us, true) := by simpa [recC] using h
  unfold impG
  rw [hb, h2, if_pos (by rfl), hx]
  unfold moreX
  simp only [hq, hk, hv, hg]
end Go.Proofs.Ytbbagpnjjjohpaa.hexes

namespace Go.Proofs.Ytbbagpnjjjohpaa.hexes
open Go.RowKit

def findI13 (n : Nat) : Code → Option Code
  | .region id ops d => if id = n then some (.region id ops d) else none
  | .seq a b => match findI13 n a with
    | some c => some c
    | none => findI13 n b
  | .block _ c => findI13 n c
  | .scope c => findI13 n c
  | .loop c => findI13 n c
  | .cond _ a b => match findI13 n a with
    | some c => some c
    | none => findI13 n b
  | _ => none
def opsOfI13 : Option Code → Array Oper
  | some (.region _ ops _) => ops
  | _ => #[]
noncomputable def opsI13 : Array Oper := opsOfI13 (Try.f22.body.bind (findI13 13))
def schI13 : List Nat := [0, 1, 2, 3, 4, 5, 6, 7, 8, 9, 10, 11, 12, 13]
def LI13 (k : Nat) : Array Bool := ((List.range 14).map fun i => (schI13.take k).contains i).toArray
theorem noselI13 : Region.noSelect opsI13 = true := by kernel_rfl
def qI13_0 : Oper := { dst := some 86, op := Op.move (Operand.tmp 9), type := 30, pos := "l11_fixed.go:18", after := #[], guard := none }
theorem hI13_0 : opsI13[0]? = some qI13_0 := by kernel_rfl
theorem lI13_0 : (LI13 0).setIfInBounds 0 true = LI13 1 := by kernel_rfl
theorem tI13_0 : RegT Try.prog opsI13 qI13_0 (some 86) 13 (LI13 0) (LI13 1) := regT hI13_0 rfl noselI13 (by kernel_rfl) (by kernel_rfl) lI13_0
def qI13_1 : Oper := { dst := some 87, op := Op.fieldAddr 46 (Operand.tmp 10) 3, type := 0, pos := "l11_fixed.go:18", after := #[], guard := none }
theorem hI13_1 : opsI13[1]? = some qI13_1 := by kernel_rfl
theorem lI13_1 : (LI13 1).setIfInBounds 1 true = LI13 2 := by kernel_rfl
theorem tI13_1 : RegT Try.prog opsI13 qI13_1 (some 87) 12 (LI13 1) (LI13 2) := regT hI13_1 rfl noselI13 (by kernel_rfl) (by kernel_rfl) lI13_1
def qI13_2 : Oper := { dst := some 88, op := Op.load 44 (Operand.tmp 87), type := 44, pos := "l11_fixed.go:18", after := #[{ on := 1, ground := Ground.data }], guard := none }
theorem hI13_2 : opsI13[2]? = some qI13_2 := by kernel_rfl
theorem lI13_2 : (LI13 2).setIfInBounds 2 true = LI13 3 := by kernel_rfl
theorem tI13_2 : RegT Try.prog opsI13 qI13_2 (some 88) 11 (LI13 2) (LI13 3) := regT hI13_2 rfl noselI13 (by kernel_rfl) (by kernel_rfl) lI13_2
def qI13_3 : Oper := { dst := some 89, op := Op.move (Operand.tmp 17), type := 3, pos := "l11_fixed.go:18", after := #[], guard := none }
theorem hI13_3 : opsI13[3]? = some qI13_3 := by kernel_rfl
theorem lI13_3 : (LI13 3).setIfInBounds 3 true = LI13 4 := by kernel_rfl
theorem tI13_3 : RegT Try.prog opsI13 qI13_3 (some 89) 10 (LI13 3) (LI13 4) := regT hI13_3 rfl noselI13 (by kernel_rfl) (by kernel_rfl) lI13_3
def qI13_4 : Oper := { dst := some 90, op := Op.indexAddr 44 (Operand.tmp 88) (Operand.tmp 89), type := 0, pos := "l11_fixed.go:18", after := #[{ on := 2, ground := Ground.data }, { on := 3, ground := Ground.data }], guard := none }
theorem hI13_4 : opsI13[4]? = some qI13_4 := by kernel_rfl
theorem lI13_4 : (LI13 4).setIfInBounds 4 true = LI13 5 := by kernel_rfl
theorem tI13_4 : RegT Try.prog opsI13 qI13_4 (some 90) 9 (LI13 4) (LI13 5) := regT hI13_4 rfl noselI13 (by kernel_rfl) (by kernel_rfl) lI13_4
def qI13_5 : Oper := { dst := some 91, op := Op.load 3 (Operand.tmp 90), type := 3, pos := "l11_fixed.go:18", after := #[{ on := 4, ground := Ground.data }], guard := none }
theorem hI13_5 : opsI13[5]? = some qI13_5 := by kernel_rfl
theorem lI13_5 : (LI13 5).setIfInBounds 5 true = LI13 6 := by kernel_rfl
theorem tI13_5 : RegT Try.prog opsI13 qI13_5 (some 91) 8 (LI13 5) (LI13 6) := regT hI13_5 rfl noselI13 (by kernel_rfl) (by kernel_rfl) lI13_5
def qI13_6 : Oper := { dst := some 92, op := Op.fieldAddr 38 (Operand.tmp 5) 1, type := 0, pos := "l11_fixed.go:18", after := #[], guard := none }
theorem hI13_6 : opsI13[6]? = some qI13_6 := by kernel_rfl
theorem lI13_6 : (LI13 6).setIfInBounds 6 true = LI13 7 := by kernel_rfl
theorem tI13_6 : RegT Try.prog opsI13 qI13_6 (some 92) 7 (LI13 6) (LI13 7) := regT hI13_6 rfl noselI13 (by kernel_rfl) (by kernel_rfl) lI13_6
def qI13_7 : Oper := { dst := some 93, op := Op.load 3 (Operand.tmp 92), type := 3, pos := "l11_fixed.go:18", after := #[{ on := 6, ground := Ground.data }], guard := none }
theorem hI13_7 : opsI13[7]? = some qI13_7 := by kernel_rfl
theorem lI13_7 : (LI13 7).setIfInBounds 7 true = LI13 8 := by kernel_rfl
theorem tI13_7 : RegT Try.prog opsI13 qI13_7 (some 93) 6 (LI13 7) (LI13 8) := regT hI13_7 rfl noselI13 (by kernel_rfl) (by kernel_rfl) lI13_7
def qI13_8 : Oper := { dst := some 94, op := Op.move (Operand.tmp 14), type := 3, pos := "l11_fixed.go:18", after := #[], guard := none }
theorem hI13_8 : opsI13[8]? = some qI13_8 := by kernel_rfl
theorem lI13_8 : (LI13 8).setIfInBounds 8 true = LI13 9 := by kernel_rfl
theorem tI13_8 : RegT Try.prog opsI13 qI13_8 (some 94) 5 (LI13 8) (LI13 9) := regT hI13_8 rfl noselI13 (by kernel_rfl) (by kernel_rfl) lI13_8
def qI13_9 : Oper := { dst := some 95, op := Op.move (Operand.tmp 15), type := 3, pos := "l11_fixed.go:18", after := #[], guard := none }
theorem hI13_9 : opsI13[9]? = some qI13_9 := by kernel_rfl
theorem lI13_9 : (LI13 9).setIfInBounds 9 true = LI13 10 := by kernel_rfl
theorem tI13_9 : RegT Try.prog opsI13 qI13_9 (some 95) 4 (LI13 9) (LI13 10) := regT hI13_9 rfl noselI13 (by kernel_rfl) (by kernel_rfl) lI13_9
def qI13_10 : Oper := { dst := some 96, op := Op.build 38 #[(0, Operand.tmp 91), (1, Operand.tmp 93), (2, Operand.tmp 94), (3, Operand.tmp 95)], type := 38, pos := "l11_fixed.go:18", after := #[{ on := 5, ground := Ground.data }, { on := 7, ground := Ground.data }, { on := 8, ground := Ground.data }, { on := 9, ground := Ground.data }], guard := none }
theorem hI13_10 : opsI13[10]? = some qI13_10 := by kernel_rfl
theorem lI13_10 : (LI13 10).setIfInBounds 10 true = LI13 11 := by kernel_rfl
theorem tI13_10 : RegT Try.prog opsI13 qI13_10 (some 96) 3 (LI13 10) (LI13 11) := regT hI13_10 rfl noselI13 (by kernel_rfl) (by kernel_rfl) lI13_10
def qI13_11 : Oper := { dst := some 97, op := Op.buildSlice 30 1 #[(0, Operand.tmp 96)], type := 30, pos := "l11_fixed.go:18", after := #[{ on := 10, ground := Ground.data }], guard := none }
theorem hI13_11 : opsI13[11]? = some qI13_11 := by kernel_rfl
theorem lI13_11 : (LI13 11).setIfInBounds 11 true = LI13 12 := by kernel_rfl
theorem cI13_11 : RegC Try.prog opsI13 qI13_11 (some 97) 2 (LI13 11) (LI13 12) := regC hI13_11 rfl (by kernel_rfl) lI13_11
def qI13_12 : Oper := { dst := some 98, op := Op.call { callee := Callee.builtin Builtin.append, args := #[Operand.tmp 86, Operand.tmp 97], argTypes := #[30, 30] }, type := 30, pos := "l11_fixed.go:18", after := #[{ on := 0, ground := Ground.data }, { on := 11, ground := Ground.data }], guard := none }
theorem hI13_12 : opsI13[12]? = some qI13_12 := by kernel_rfl
theorem lI13_12 : (LI13 12).setIfInBounds 12 true = LI13 13 := by kernel_rfl
theorem cI13_12 : RegC Try.prog opsI13 qI13_12 (some 98) 1 (LI13 12) (LI13 13) := regC hI13_12 rfl (by kernel_rfl) lI13_12
def qI13_13 : Oper := { dst := some 9, op := Op.assign (Operand.tmp 98), type := 30, pos := "l11_fixed.go:18", after := #[{ on := 12, ground := Ground.data }, { on := 12, ground := Ground.chain }, { on := 0, ground := Ground.phase }, { on := 1, ground := Ground.phase }, { on := 2, ground := Ground.phase }, { on := 3, ground := Ground.phase }, { on := 4, ground := Ground.phase }, { on := 5, ground := Ground.phase }, { on := 6, ground := Ground.phase }, { on := 7, ground := Ground.phase }, { on := 8, ground := Ground.phase }, { on := 9, ground := Ground.phase }, { on := 10, ground := Ground.phase }, { on := 11, ground := Ground.phase }, { on := 12, ground := Ground.phase }], guard := none }
theorem hI13_13 : opsI13[13]? = some qI13_13 := by kernel_rfl
theorem lI13_13 : (LI13 13).setIfInBounds 13 true = LI13 14 := by kernel_rfl
theorem tI13_13 : RegT Try.prog opsI13 qI13_13 (some 9) 0 (LI13 13) (LI13 14) := regT hI13_13 rfl noselI13 (by kernel_rfl) (by kernel_rfl) lI13_13
end Go.Proofs.Ytbbagpnjjjohpaa.hexes

