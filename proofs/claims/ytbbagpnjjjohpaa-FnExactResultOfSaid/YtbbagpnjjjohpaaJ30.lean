/-
  A statement of spec.ResultOf: its operations, and a theorem a step.
  The reference's ResultOf: the contract of spec.ResultOf.
  A list of cells behind its first k; a list that lies above what was written; a scope whose label the run passes again and again.
  Chapter 5's plain functions of the program: the contracts of impl.OwnerOf and impl.RecordOk.
  The program's inputCells: the contract of impl.inputCells.
-/
import Derived.Test.YtbbagpnjjjohpaaJ17
import Derived.Test.YtbbagpnjjjohpaaJ27
import Derived.Test.YtbbagpnjjjohpaaJ29
import Derived.Test.YtbbagpnjjjohpaaJ24
import Derived.Test.YtbbagpnjjjohpaaJ28
import Derived.ScopeJumps
import Derived.WalkMore
import Derived.Test.YtbbagpnjjjohpaaJ26

namespace Go.Proofs.Ytbbagpnjjjohpaa.hexes
open Go.RowKit

def findR1F (n : Nat) : Code → Option Code
  | .region id ops d => if id = n then some (.region id ops d) else none
  | .seq a b => match findR1F n a with
    | some c => some c
    | none => findR1F n b
  | .block _ c => findR1F n c
  | .scope c => findR1F n c
  | .loop c => findR1F n c
  | .cond _ a b => match findR1F n a with
    | some c => some c
    | none => findR1F n b
  | _ => none
def opsOfR1F : Option Code → Array Oper
  | some (.region _ ops _) => ops
  | _ => #[]
noncomputable def opsR1F : Array Oper := opsOfR1F (Try.f17.body.bind (findR1F 1))
def schR1F : List Nat := [0, 1, 2, 3, 4, 5, 6]
def LR1F (k : Nat) : Array Bool := ((List.range 7).map fun i => (schR1F.take k).contains i).toArray
theorem noselR1F : Region.noSelect opsR1F = true := by kernel_rfl
def qR1F_0 : Oper := { dst := some 7, op := Op.load 26 (Operand.tmp 3), type := 26, pos := "l11_fixed.go:52", after := #[], guard := none }
theorem hR1F_0 : opsR1F[0]? = some qR1F_0 := by kernel_rfl
theorem lR1F_0 : (LR1F 0).setIfInBounds 0 true = LR1F 1 := by kernel_rfl
theorem tR1F_0 : RegT Try.prog opsR1F qR1F_0 (some 7) 6 (LR1F 0) (LR1F 1) := regT hR1F_0 rfl noselR1F (by kernel_rfl) (by kernel_rfl) lR1F_0
def qR1F_1 : Oper := { dst := some 8, op := Op.load 26 (Operand.tmp 3), type := 26, pos := "l11_fixed.go:52", after := #[], guard := none }
theorem hR1F_1 : opsR1F[1]? = some qR1F_1 := by kernel_rfl
theorem lR1F_1 : (LR1F 1).setIfInBounds 1 true = LR1F 2 := by kernel_rfl
theorem tR1F_1 : RegT Try.prog opsR1F qR1F_1 (some 8) 5 (LR1F 1) (LR1F 2) := regT hR1F_1 rfl noselR1F (by kernel_rfl) (by kernel_rfl) lR1F_1
def qR1F_2 : Oper := { dst := some 9, op := Op.move (Operand.tmp 1), type := 3, pos := "l11_fixed.go:52", after := #[], guard := none }
theorem hR1F_2 : opsR1F[2]? = some qR1F_2 := by kernel_rfl
theorem lR1F_2 : (LR1F 2).setIfInBounds 2 true = LR1F 3 := by kernel_rfl
theorem tR1F_2 : RegT Try.prog opsR1F qR1F_2 (some 9) 4 (LR1F 2) (LR1F 3) := regT hR1F_2 rfl noselR1F (by kernel_rfl) (by kernel_rfl) lR1F_2
def qR1F_3 : Oper := { dst := some 10, op := Op.move (Operand.tmp 2), type := 27, pos := "l11_fixed.go:52", after := #[], guard := none }
theorem hR1F_3 : opsR1F[3]? = some qR1F_3 := by kernel_rfl
theorem lR1F_3 : (LR1F 3).setIfInBounds 3 true = LR1F 4 := by kernel_rfl
theorem tR1F_3 : RegT Try.prog opsR1F qR1F_3 (some 10) 3 (LR1F 3) (LR1F 4) := regT hR1F_3 rfl noselR1F (by kernel_rfl) (by kernel_rfl) lR1F_3
def qR1F_4 : Oper := { dst := some 11, op := Op.call { callee := Callee.value (Operand.func 15), args := #[Operand.tmp 8, Operand.tmp 9, Operand.tmp 10], argTypes := #[26, 3, 27] }, type := 30, pos := "l11_fixed.go:52", after := #[{ on := 1, ground := Ground.data }, { on := 2, ground := Ground.data }, { on := 3, ground := Ground.data }], guard := none }
theorem hR1F_4 : opsR1F[4]? = some qR1F_4 := by kernel_rfl
theorem lR1F_4 : (LR1F 4).setIfInBounds 4 true = LR1F 5 := by kernel_rfl
theorem cR1F_4 : RegC Try.prog opsR1F qR1F_4 (some 11) 2 (LR1F 4) (LR1F 5) := regC hR1F_4 rfl (by kernel_rfl) lR1F_4
def qR1F_5 : Oper := { dst := some 12, op := Op.call { callee := Callee.value (Operand.func 28), args := #[Operand.tmp 7, Operand.tmp 11], argTypes := #[26, 30] }, type := 30, pos := "l11_fixed.go:52", after := #[{ on := 0, ground := Ground.data }, { on := 4, ground := Ground.data }, { on := 4, ground := Ground.chain }], guard := none }
theorem hR1F_5 : opsR1F[5]? = some qR1F_5 := by kernel_rfl
theorem lR1F_5 : (LR1F 5).setIfInBounds 5 true = LR1F 6 := by kernel_rfl
theorem cR1F_5 : RegC Try.prog opsR1F qR1F_5 (some 12) 1 (LR1F 5) (LR1F 6) := regC hR1F_5 rfl (by kernel_rfl) lR1F_5
def qR1F_6 : Oper := { dst := some 6, op := Op.assign (Operand.tmp 12), type := 30, pos := "l11_fixed.go:52", after := #[{ on := 5, ground := Ground.data }, { on := 5, ground := Ground.chain }, { on := 0, ground := Ground.phase }, { on := 1, ground := Ground.phase }, { on := 2, ground := Ground.phase }, { on := 3, ground := Ground.phase }, { on := 4, ground := Ground.phase }, { on := 5, ground := Ground.phase }], guard := none }
theorem hR1F_6 : opsR1F[6]? = some qR1F_6 := by kernel_rfl
theorem lR1F_6 : (LR1F 6).setIfInBounds 6 true = LR1F 7 := by kernel_rfl
theorem tR1F_6 : RegT Try.prog opsR1F qR1F_6 (some 6) 0 (LR1F 6) (LR1F 7) := regT hR1F_6 rfl noselR1F (by kernel_rfl) (by kernel_rfl) lR1F_6
end Go.Proofs.Ytbbagpnjjjohpaa.hexes

namespace Go.Proofs.Ytbbagpnjjjohpaa.hexes
open Go.RowKit

structure ResHeld (V : World) (g : Nat) (A : Option Addr) (n c : Nat) (wk cp : Int) (w : World) : Prop where
  g0 : w.cell? ⟨g, 0, none⟩ = some (.slice A n c)
  g1 : w.cell? ⟨g, 1, none⟩ = some (.int .i64 wk)
  g2 : w.cell? ⟨g, 2, none⟩ = some (.int .i64 cp)
  bel : Below V.heap.size V w
theorem ResHeld.below {V : World} {g : Nat} {A : Option Addr} {n c : Nat} {wk cp : Int} {w w' : World} (h : ResHeld V g A n c wk cp w) (hb : Below w.heap.size w w') : ResHeld V g A n c wk cp w' := ⟨below_keep hb h.g0, below_keep hb h.g1, below_keep hb h.g2, below_chain h.bel hb⟩

set_option maxRecDepth 1000000 in
set_option maxHeartbeats 8000000 in
theorem specRes_any (gs : List Nd) (wk cp : Int) (A : Option Addr) (n c : Nat) (hl : gs.length = n) (ho : ∀ x ∈ gs, x.2.2.2.length ≤ 1048576) (hn : n ≤ 1048576) (ep : Int) (rcs : List Rc) (A1 : Option Addr) (n1 c1 : Nat) (hl1 : rcs.length = n1) (hn1 : n1 ≤ 1048576) {q : List Ce} (hq : FixTo gs wk cp [] (startL ep rcs) q) (hql : q.length ≤ 800000) (w : World) (h : Nds w A gs) (h1 : Rcs w A1 rcs) :
    Calls Try.prog 17 #[.agg #[.slice A n c, .int .i64 wk, .int .i64 cp], .int .i64 ep, .slice A1 n1 c1] w (CesOut w (outsC gs q)) := by
  have HQ := Lib.hid hq
  have HL := Lib.hid hl
  have HO := Lib.hid ho
  have H1L := Lib.hid hl1
  have S0 := Lib.hid h
  have H1 := Lib.hid h1
  clear hq hl ho hl1 h h1
  obtain ⟨V9, hV⟩ : ∃ z, (w.alloc (.cells #[.slice A n c, .int .i64 wk, .int .i64 cp] 26)).drew = z := ⟨_, rfl⟩
  have BV := Lib.hid (show Below w.heap.size w V9 by rw [← hV]; exact ((Below.refl _ _).alloc (Nat.le_refl _) _).drew)
  have KV := Lib.hid (show Blk V9 w.heap.size 26 #[.slice A n c, .int .i64 wk, .int .i64 cp] by rw [← hV]; exact Blk.new _ _ _)
  have HD := Lib.hid (show ResHeld V9 w.heap.size A n c wk cp V9 from ⟨by rw [KV.out.cell]; rfl, by rw [KV.out.cell]; rfl, by rw [KV.out.cell]; rfl, Below.refl _ _⟩)
  go_enter Try.func17, Try.ntmps17
  go_wp2_with fail
  refine wp_region_held_drew (S := ResHeld V9 w.heap.size A n c wk cp) (by kernel_rfl) ?_ (fun hHeld => ?_)
  · skip
    rw [hV]; exact HD.out
  change wpAnyH _ _ opsR1F _ _ 7 (LR1F 0) _ _
  rw [hV] at hHeld ⊢
  clear hV
  refine regY tR1F_0 (.agg #[.slice A n c, .int .i64 wk, .int .i64 cp]) (fun W hSw => by unfold qR1F_0; obtain ⟨g0, g1, g2, _⟩ := hSw; go_simp) hHeld ?_
  try simp only [pt, List.set]
  refine regY tR1F_1 (.agg #[.slice A n c, .int .i64 wk, .int .i64 cp]) (fun W hSw => by unfold qR1F_1; obtain ⟨g0, g1, g2, _⟩ := hSw; go_simp) hHeld ?_
  try simp only [pt, List.set]
  refine regY tR1F_2 (.int .i64 ep) (fun W hSw => by unfold qR1F_2; go_simp) hHeld ?_
  try simp only [pt, List.set]
  refine regY tR1F_3 (.slice A1 n1 c1) (fun W hSw => by unfold qR1F_3; go_simp) hHeld ?_
  try simp only [pt, List.set]
  refine cR1F_4 (fun K hK => ?_)
  rw [if_pos (by rfl)]
  unfold qR1F_4
  go_simp
  refine (specFix_any gs wk cp A n c HL.out HO.out hn ep rcs A1 n1 c1 H1L.out hn1 HQ.out _ (S0.out.below (below_chain BV.out hHeld.bel)) (H1.out.below (below_chain BV.out hHeld.bel))).mono ?_
  rintro e w5 ⟨A3, c3, m3, hm3, rfl, r3, bq⟩
  have M3 := Lib.hid hm3
  have R3 := Lib.hid r3
  clear hm3 r3
  refine Shut.out hK _ _ ?_ (fun hHeld => ?_)
  · exact hHeld.below bq
  clear hK K
  try simp only [pt, List.set]
  refine cR1F_5 (fun K hK => ?_)
  rw [if_pos (by rfl)]
  unfold qR1F_5
  go_simp
  refine (specOuts_any gs wk cp A n c HL.out HO.out hn q A3 m3 c3 M3.out (by have := M3.out; omega) _ (S0.out.below (below_chain BV.out hHeld.bel)) R3.out.ce).mono ?_
  rintro e w6 ⟨A4, c4, m4, hm4, rfl, r4, bq⟩
  have M4 := Lib.hid hm4
  have R4 := Lib.hid (r4.bounds (below_chain BV.out hHeld.bel).size (Nat.le_refl _))
  clear hm4 r4
  refine Shut.out hK _ _ ?_ (fun hHeld => ?_)
  · exact hHeld.below bq
  clear hK K
  try simp only [pt, List.set]
  refine regY tR1F_6 (.slice A4 m4 c4) (fun W hSw => by unfold qR1F_6; go_simp) hHeld ?_
  try simp only [pt, List.set]
  refine wpAnyH_done (by kernel_rfl) ?_ _
  have BE := Lib.hid (below_chain BV.out hHeld.bel)
  clear hHeld HD
  go_wp2
  go_ret
  exact ⟨A4, c4, m4, M4.out, rfl, R4.out, BE.out⟩
end Go.Proofs.Ytbbagpnjjjohpaa.hexes

namespace Go.Proofs.Ytbbagpnjjjohpaa.hexes
open Go.RowKit

/-- Behind the first k. -/
theorem Wce.drop {w : World} {lo hi n c : Nat} {A : Option Addr} {zs : List Ce} (k : Nat) (hk : k ≤ n) (h : Wce w lo hi A n c zs) {T : Option Addr} (hT : ∀ g o, A = some ⟨g, o, none⟩ → k < c → T = some ⟨g, o + k * 4, none⟩) : Wce w lo hi T (n - k) (c - k) (zs.drop k) := by
  have hl := h.1
  refine ⟨by rw [List.length_drop]; omega, by rw [ceCells_length, List.length_drop]; omega, ?_⟩
  rcases h.2.2 with ⟨h0, h1⟩ | ⟨g, k0, pre, hA, hk0, hlt, ho⟩
  · exact .inl ⟨by omega, by omega⟩
  · have hc := own_capS ho
    by_cases c1 : c ≤ k
    · exact .inl ⟨by omega, by omega⟩
    · refine .inr ⟨g, k0 + k, pre ++ ceCells (zs.take k), ?_, by rw [List.length_append, hk0, ceCells_length, List.length_take]; rw [Nat.min_eq_left (by omega)]; omega, hlt, ?_⟩
      · rw [hT g (k0 * 4) hA (by omega), show (k0 + k) * 4 = k0 * 4 + k * 4 by omega]
      · rw [show k0 + k + (n - k) = k0 + n by omega, show k0 + k + (c - k) = k0 + c by omega, List.append_assoc, ← ceCells_append, List.take_append_drop]
        exact ho
/-- A list that lies above what was written. -/
theorem Wce.keptO {w w' : World} {lo hi n c lo2 hi2 : Nat} {A A' : Option Addr} {zs : List Ce} (h : Wce w lo hi A n c zs) (gr : ToV w w' lo2 hi2 38 4 A') (hd : ∀ g o, A' = some ⟨g, o, none⟩ → g < lo) : Wce w' lo hi A n c zs := by
  refine ⟨h.1, h.2.1, h.2.2.imp id ?_⟩
  rintro ⟨g, k, pre, hA, hk, hlt, ho⟩
  exact ⟨g, k, pre, hA, hk, hlt, gr.apart ho fun g2 o hA2 e => by
    have h1 := hd g2 o hA2
    have h2 := own_ge ho g rfl
    simp only [Value.ownBlock, Option.some.injEq] at e
    omega⟩
set_option maxRecDepth 100000 in
theorem slice_fromC2 (A : Option Addr) (n c k : Nat) (h : k ≤ n) : ∃ T, (∀ w, (Instr.slice 30 (.slice A n c) (some (.int .i64 (k : Int))) none none).run Try.prog w = .ok (.slice T (n - k) (c - k)) w) ∧ (∀ g o, A = some ⟨g, o, none⟩ → k < c → T = some ⟨g, o + k * 4, none⟩) ∧ ∀ b o, A = some ⟨b, o, none⟩ → ∀ g o', T = some ⟨g, o', none⟩ → g = b := by
  refine ⟨if c = k then A else A.map (·.add (k * 4)), fun w => ?_, fun g o hA hk => ?_, fun b o hA g o' hT => ?_⟩
  · have hs : (sizeOf (Try.prog.elem 30)).run Try.prog w = .ok 4 w := rfl
    rw [run_slice_l (P := Try.prog) w 30 A n c Try.underlying30 .i64 (k : Int) (by omega) (by omega), hs]
    simp [Result.andThen, sliced]
  · rw [hA, if_neg (by omega)]
    simp only [Option.map_some]
    rw [addr_add1]
  · rw [hA] at hT
    split at hT
    · simp only [Option.some.injEq, Addr.mk.injEq, and_true] at hT
      exact hT.1.symm
    · simp only [Option.map_some, Option.some.injEq] at hT
      rw [addr_add1] at hT
      simp only [Addr.mk.injEq, and_true] at hT
      exact hT.1.symm
section
variable {P : Program} {a : Act} {w : World} {Q : Exit → Act → World → Prop}
/-- A scope whose code comes to its label and jumps back to it: one walk behind the label serves both. -/
theorem wp_scope_once {c rest : Code} (l : Nat) (J : Act → World → Prop) (μ : Act → World → Nat) (hf : findLabel c l = some (Code.skip.seq rest))
    (pass : ∀ a w, J a w → rest.wp P (Exit.jump l (fun a' w' => J a' w' ∧ μ a' w' < μ a w) Q) a w)
    (first : (∀ a w, J a w → rest.wp P (Exit.jump l J Q) a w) → c.wp P (Exit.jump l J Q) a w) : (Code.scope c).wp P Q a w :=
  wp_scope_jumps l J μ hf (first fun a w hJ => wp_mono (pass a w hJ) (by
    intro e a w h
    cases e with
    | goto l' => exact ⟨h.1, h.2.1⟩
    | _ => exact h)) fun a w hJ => wp_seq (wp_skip (pass a w hJ))
end
end Go.Proofs.Ytbbagpnjjjohpaa.hexes

namespace Go.Proofs.Ytbbagpnjjjohpaa.hexes
open Go.RowKit

theorem implOkSt_is {x y : Int} {b : Bool} (h : okSt x y = b) (W : World) : Calls Try.prog 104 #[.agg #[.int .i64 x, .int .i64 y]] W fun e w' => e = .returned (.bool b) ∧ Below W.heap.size W w' := by
  subst h; exact implOk_any _ _ W

theorem implInR_is {n b : Int} {r : Bool} (h : decide (0 ≤ n ∧ n ≤ b) = r) (W : World) : Calls Try.prog 103 #[.int .i64 n, .int .i64 b] W fun e w' => e = .returned (.bool r) ∧ W = w' := by
  subst h
  by_cases h1 : 0 ≤ n
  · by_cases h2 : n ≤ b
    · have q1 : decide (n ≥ 0) = true := decide_eq_true h1
      have q2 : decide (n ≤ b) = true := decide_eq_true h2
      have q3 := Lib.hid (show decide (0 ≤ n ∧ n ≤ b) = true from decide_eq_true ⟨h1, h2⟩)
      rw [q3.out]
      clear h1 h2
      go_enter Try.func103, Try.ntmps103
      go_wp2
      go_ret
      exact ⟨rfl, rfl⟩
    · have q1 : decide (n ≥ 0) = true := decide_eq_true h1
      have q2 : decide (n ≤ b) = false := decide_eq_false h2
      have q3 := Lib.hid (show decide (0 ≤ n ∧ n ≤ b) = false from decide_eq_false (fun h => h2 h.2))
      rw [q3.out]
      clear h1 h2
      go_enter Try.func103, Try.ntmps103
      go_wp2
      go_ret
      exact ⟨rfl, rfl⟩
  · have q1 : decide (n ≥ 0) = false := decide_eq_false h1
    have q3 := Lib.hid (show decide (0 ≤ n ∧ n ≤ b) = false from decide_eq_false (fun h => h1 h.1))
    rw [q3.out]
    clear h1
    go_enter Try.func103, Try.ntmps103
    go_wp2
    go_ret
    exact ⟨rfl, rfl⟩

set_option maxRecDepth 100000 in
theorem implRcOk_any (p0 p1 p2 p3 p4 : Int) (w : World) :
    Calls Try.prog 74 #[.agg #[.int .i64 p0, .int .i64 p1, .int .i64 p2, .int .i64 p3, .int .i64 p4]] w fun e w' => e = .returned (.bool (okRc (p0, (p1, p2), p3, p4))) ∧ Below w.heap.size w w' := by
  have hb := (Below.refl w.heap.size w).alloc (Nat.le_refl _) (.cells #[.int .i64 p0, .int .i64 p1, .int .i64 p2, .int .i64 p3, .int .i64 p4] 51)
  have HB := Lib.hid hb
  clear hb
  cases h0 : decide (0 ≤ p0 ∧ p0 ≤ 7) with
  | false =>
    have HF := Lib.hid (show okRc (p0, (p1, p2), p3, p4) = false by unfold okRc; rw [h0]; rfl)
    have E0 := Lib.hid (fun W => implInR_is h0 W)
    clear h0
    go_enter Try.func74, Try.ntmps74
    go_wp2_with fail
    refine (E0.out _).mono ?_
    rintro e w1 ⟨rfl, rfl⟩
    go_wp2
    go_ret
    exact ⟨congrArg (fun b => Ending.returned (Value.bool b)) HF.out.symm, HB.out⟩
  | true =>
    have E0 := Lib.hid (fun W => implInR_is h0 W)
    have H0 := Lib.hid h0
    clear h0
    go_enter Try.func74, Try.ntmps74
    go_wp2_with fail
    refine (E0.out _).mono ?_
    rintro e w1 ⟨rfl, rfl⟩
    obtain ⟨W, hW⟩ : ∃ W, w.alloc (.cells #[.int .i64 p0, .int .i64 p1, .int .i64 p2, .int .i64 p3, .int .i64 p4] 51) = W := ⟨_, rfl⟩
    have b1 : W.cell? ⟨w.heap.size, 1, none⟩ = some (.int .i64 p1) := by rw [← hW]; simp
    have b2 : W.cell? ⟨w.heap.size, 2, none⟩ = some (.int .i64 p2) := by rw [← hW]; simp
    have b3 : W.cell? ⟨w.heap.size, 3, none⟩ = some (.int .i64 p3) := by rw [← hW]; simp
    have b4 : W.cell? ⟨w.heap.size, 4, none⟩ = some (.int .i64 p4) := by rw [← hW]; simp
    rw [hW] at HB ⊢
    clear hW E0
    cases h1 : okSt p1 p2 with
    | false =>
      have HF := Lib.hid (show okRc (p0, (p1, p2), p3, p4) = false by unfold okRc; rw [H0.out, h1]; rfl)
      have E1 := Lib.hid (fun W => implOkSt_is h1 W)
      clear h1
      go_wp2_with fail
      refine (E1.out _).mono ?_
      rintro e w2 ⟨rfl, hbd⟩
      have B2 := Lib.hid (below_chain HB.out hbd)
      clear hbd
      go_wp2
      go_ret
      exact ⟨congrArg (fun b => Ending.returned (Value.bool b)) HF.out.symm, B2.out⟩
    | true =>
      have E1 := Lib.hid (fun W => implOkSt_is h1 W)
      have H1 := Lib.hid h1
      clear h1
      go_wp2_with fail
      refine (E1.out _).mono ?_
      rintro e w2 ⟨rfl, hbd⟩
      have B2 := Lib.hid (below_chain HB.out hbd)
      have d3 := below_keep hbd b3
      have d4 := below_keep hbd b4
      clear hbd b1 b2 b3 b4 E1
      cases h2 : decide (0 ≤ p3 ∧ p3 ≤ 99) with
      | false =>
        have HF := Lib.hid (show okRc (p0, (p1, p2), p3, p4) = false by unfold okRc; rw [H0.out, H1.out, h2]; rfl)
        have E2 := Lib.hid (fun W => implInR_is h2 W)
        clear h2
        go_wp2_with fail
        refine (E2.out _).mono ?_
        rintro e w3 ⟨rfl, rfl⟩
        go_wp2
        go_ret
        exact ⟨congrArg (fun b => Ending.returned (Value.bool b)) HF.out.symm, B2.out⟩
      | true =>
        have E2 := Lib.hid (fun W => implInR_is h2 W)
        obtain ⟨r, hr⟩ : ∃ r, decide (0 ≤ p4 ∧ p4 ≤ 999) = r := ⟨_, rfl⟩
        have HF := Lib.hid (show okRc (p0, (p1, p2), p3, p4) = r by unfold okRc; rw [H0.out, H1.out, h2, hr]; simp)
        have E3 := Lib.hid (fun W => implInR_is hr W)
        clear hr
        clear h2
        go_wp2_with fail
        refine (E2.out _).mono ?_
        rintro e w3 ⟨rfl, rfl⟩
        go_wp2_with fail
        refine (E3.out _).mono ?_
        rintro e w4 ⟨rfl, rfl⟩
        go_wp2
        go_ret
        exact ⟨congrArg (fun b => Ending.returned (Value.bool b)) HF.out.symm, B2.out⟩

end Go.Proofs.Ytbbagpnjjjohpaa.hexes

namespace Go.Proofs.Ytbbagpnjjjohpaa.hexes
open Go.RowKit

theorem implRcOkF_is {p0 p1 p2 p3 p4 : Int} {b : Bool} (h : okRc (p0, (p1, p2), p3, p4) = b) (w : World) : Calls Try.prog 74 #[.agg #[.int .i64 p0, .int .i64 p1, .int .i64 p2, .int .i64 p3, .int .i64 p4]] w fun e w' => e = .returned (.bool b) ∧ Below w.heap.size w w' := by
  subst h; exact (implRcOk_any _ _ _ _ _ w).mono fun _ _ h => ⟨h.1, by first | exact h.2 | exact h.2 ▸ Below.refl _ _⟩
theorem cellOfX_any (r0 r1 r2 r3 r4 : Int) (w : World) :
    Calls Try.prog 75 #[.agg #[.int .i64 r0, .int .i64 r1, .int .i64 r2, .int .i64 r3, .int .i64 r4]] w fun e w' => e = .returned (.agg #[.int .i64 r0, .int .i64 r1, .int .i64 r3, .int .i64 r4]) ∧ Below w.heap.size w w' := by
  go_enter Try.func75, Try.ntmps75
  go_wp2
  exact bodyPost_ret (v := .agg #[.int .i64 r0, .int .i64 r1, .int .i64 r3, .int .i64 r4]) (by simp [results, Try.results75, go_sem]) rfl ⟨rfl, ((Below.refl _ _).alloc (Nat.le_refl _) _).alloc (by simp) _⟩
/-- What inputCells keeps. -/
structure InSt (w wr : World) (A4 : Option Addr) (m4 c4 : Nat) (xs : List Ce) : Prop where
  l : Wce wr w.heap.size wr.heap.size A4 m4 c4 xs
  bel : Below w.heap.size w wr
theorem InSt.fresh {w wr w' : World} {A4 : Option Addr} {m4 c4 : Nat} {xs : List Ce} (h : InSt w wr A4 m4 c4 xs) (hb : Below wr.heap.size wr w') : InSt w w' A4 m4 c4 xs :=
  ⟨(h.l.below hb).bounds (Nat.le_refl _) hb.size, below_chain h.bel hb⟩
theorem InSt.put {w wr w' : World} {A4 : Option Addr} {m4 c4 : Nat} {xs : List Ce} {g t : Nat} {cs : Array Value} (h : InSt w wr A4 m4 c4 xs) (k : Blk wr g t cs) (ht : t ≠ 38) (gr : wr.grownBy w' (some g)) (hg : w.heap.size ≤ g) : InSt w w' A4 m4 c4 xs :=
  ⟨(h.l.beside k gr ht).bounds (Nat.le_refl _) gr.size, h.bel.grown gr h.bel.size (fun q hq => by have e : g = q := Option.some.inj hq; omega)⟩

set_option maxRecDepth 1000000 in
set_option maxHeartbeats 8000000 in
theorem implIn_any (ep : Int) (rcs : List Rc) (A1 : Option Addr) (n1 c1 : Nat) (hl1 : rcs.length = n1) (hn1 : n1 ≤ 1048576) (w : World) (h1 : Rcs w A1 rcs) :
    Calls Try.prog 47 #[.int .i64 ep, .slice A1 n1 c1] w (CesOut w (startL ep rcs)) := by
  have H1L := Lib.hid hl1
  have H1 := Lib.hid h1
  clear hl1 h1
  obtain ⟨V, hW⟩ : ∃ z, (w.alloc (.cells #[] 38)) = z := ⟨_, rfl⟩
  have hb : Below w.heap.size w V := by rw [← hW]; exact ((Below.refl _ _).alloc (by first | (simp; done) | (simp; omega) | omega) _)
  have az : V.heap.size = w.heap.size + 1 := by rw [← hW]; simp
  have NE := Lib.hid (show Blk V (w.heap.size) 38 #[] by rw [← hW]; exact (Blk.new _ _ _))
  have AZV := Lib.hid az
  clear az
  have sz1 := hb.size
  have B1 := Lib.hid (hb)
  clear hb
  have E_1 := NE
  clear NE
  have ltE : w.heap.size < V.heap.size := E_1.out.lt
  have L0 := Lib.hid (show InSt w V (some ⟨w.heap.size, 0, none⟩) 0 0 [] from ⟨Wce.empty _ _ _ _, B1.out⟩)
  go_enter Try.func47, Try.ntmps47
  go_wp2_with fail
  clear hW
  go_loopw [5, 11] (fun v i wr => ∃ (j : Nat) (AL : Option Addr) (m cL : Nat) (out : List Ce), j ≤ n1 ∧ i = .int .i64 (j : Int) ∧ v = .slice AL m cL ∧ m ≤ j ∧ startL ep (rcs.take j) = out ∧ InSt w wr AL m cL out) (fun _ i _ => n1 - (intOf i).toNat)
  case atStart => exact ⟨0, _, 0, 0, [], Nat.zero_le _, rfl, rfl, Nat.le_refl _, rfl, L0.out⟩
  case round =>
    obtain ⟨j, AL, m, cL, out, hj, rfl, rfl, hmj, hout, hS⟩ := hrel
    have SR := Lib.hid hS
    have HU := Lib.hid hout
    clear hS hout
    by_cases hlt : j < n1
    · have lj : j < rcs.length := by rw [H1L.out]; exact hlt
      obtain ⟨b1, o1, p0, p1, p2, p3, p4, rfl, hz, f0, f1, f2, f3, f4⟩ := (H1.out.below SR.out.bel).at lj
      have i0 : (0 : Int) ≤ (j : Int) := by omega
      have i1 : (j : Int) < (n1 : Int) := by omega
      obtain ⟨rk, hrk⟩ : ∃ b, okRc (p0, (p1, p2), p3, p4) = b := ⟨_, rfl⟩
      have ST := Lib.hid (show startL ep (rcs.take (j + 1)) = out ++ (if (decide (p1 = ep) && rk) = true then [(0, ep, p3, p4)] else []) by rw [start_step lj, HU.out, hz]; unfold startB; rw [hrk])
      have HRK := Lib.hid hrk
      clear hz hrk lj
      obtain ⟨W, hW⟩ : ∃ z, wr.alloc (.cells #[.int .i64 p0, .int .i64 p1, .int .i64 p2, .int .i64 p3, .int .i64 p4] 51) = z := ⟨_, rfl⟩
      have hbW : Below wr.heap.size wr W := by rw [← hW]; exact (Below.refl _ _).alloc (Nat.le_refl _) _
      have RW := Lib.hid (show Blk W wr.heap.size 51 #[.int .i64 p0, .int .i64 p1, .int .i64 p2, .int .i64 p3, .int .i64 p4] by rw [← hW]; exact Blk.new _ _ _)
      have SW := Lib.hid (SR.out.fresh hbW)
      have wr0 : w.heap.size ≤ wr.heap.size := SR.out.bel.size
      clear hbW
      have x0 : W.cell? ⟨wr.heap.size, 0, none⟩ = some (.int .i64 p0) := by rw [RW.out.cell]; rfl
      have x1 : W.cell? ⟨wr.heap.size, 1, none⟩ = some (.int .i64 p1) := by rw [RW.out.cell]; rfl
      have x2 : W.cell? ⟨wr.heap.size, 2, none⟩ = some (.int .i64 p2) := by rw [RW.out.cell]; rfl
      have x3 : W.cell? ⟨wr.heap.size, 3, none⟩ = some (.int .i64 p3) := by rw [RW.out.cell]; rfl
      have x4 : W.cell? ⟨wr.heap.size, 4, none⟩ = some (.int .i64 p4) := by rw [RW.out.cell]; rfl
      go_wp2_with fail
      clear hW f0 f1 f2 f3 f4 x0 x1 x2 x3 x4
      refine (implRcOkF_is HRK.out _).mono ?_
      rintro e w2 ⟨rfl, hb⟩
      have S2 := Lib.hid (SW.out.fresh hb)
      have R2 := Lib.hid (RW.out.below hb)
      clear hb SW RW
      cases rk with
      | false =>
        have ST2 := Lib.hid (show startL ep (rcs.take (j + 1)) = out by rw [ST.out]; simp)
        clear R2
        go_wp2
        go_roundw
        case rel => exact ⟨j + 1, AL, m, cL, out, by omega, by go_num, rfl, by omega, ST2.out, S2.out⟩
        case measure => simp [intOf]; omega
      | true =>
        have y1 : w2.cell? ⟨wr.heap.size, 1, none⟩ = some (.int .i64 p1) := by rw [R2.out.cell]; rfl
        by_cases he : p1 = ep
        · have de : (p1 == ep) = true := by simpa using he
          have ST2 := Lib.hid (show startL ep (rcs.take (j + 1)) = out ++ [(0, p1, p3, p4)] by rw [ST.out]; simp [he])
          clear ST he
          have fr0 := R2.out.frozen 0
          have y0 : w2.cell? ⟨wr.heap.size, 0, none⟩ = some (.int .i64 p0) := by rw [R2.out.cell]; rfl
          obtain ⟨W3, hW⟩ : ∃ W, w2.setCell ⟨wr.heap.size, 0, none⟩ (.int .i64 0) = W := ⟨_, rfl⟩
          have R3 := Lib.hid (show Blk W3 wr.heap.size 51 #[.int .i64 0, .int .i64 p1, .int .i64 p2, .int .i64 p3, .int .i64 p4] by rw [← hW]; exact R2.out.put 0 _)
          have S3 := Lib.hid (S2.out.put R2.out (by decide) (show w2.grownBy W3 (some wr.heap.size) by rw [← hW]; exact grown_set _ _ _) wr0)
          clear S2 R2
          have z0 : W3.cell? ⟨wr.heap.size, 0, none⟩ = some (.int .i64 0) := by rw [R3.out.cell]; rfl
          have z1 : W3.cell? ⟨wr.heap.size, 1, none⟩ = some (.int .i64 p1) := by rw [R3.out.cell]; rfl
          have z2 : W3.cell? ⟨wr.heap.size, 2, none⟩ = some (.int .i64 p2) := by rw [R3.out.cell]; rfl
          have z3 : W3.cell? ⟨wr.heap.size, 3, none⟩ = some (.int .i64 p3) := by rw [R3.out.cell]; rfl
          have z4 : W3.cell? ⟨wr.heap.size, 4, none⟩ = some (.int .i64 p4) := by rw [R3.out.cell]; rfl
          go_wp2_with fail
          clear y0 y1 z0 z1 z2 z3 z4 fr0 hW
          refine (cellOfX_any 0 p1 p2 p3 p4 _).mono ?_
          rintro e w4 ⟨rfl, hb⟩
          have S4 := Lib.hid (S3.out.fresh hb)
          clear hb S3 R3
          obtain ⟨U, hU⟩ : ∃ z, w4.alloc (.cells #[.int .i64 0, .int .i64 p1, .int .i64 p3, .int .i64 p4] 38) = z := ⟨_, rfl⟩
          have hbU : Below w4.heap.size w4 U := by rw [← hU]; exact (Below.refl _ _).alloc (Nat.le_refl _) _
          have NU := Lib.hid (show Ces U (some ⟨w4.heap.size, 0, none⟩) [(0, p1, p3, p4)] by rw [← hU]; exact ce_new _ _ _ _ _)
          have SU := Lib.hid (S4.out.fresh hbU)
          clear hbU
          go_wp2_with (at_builtin; refine wpList_append_wce rfl (.tmp 25) (.tmp 28) (by rfl) (by rfl) SU.out.l (some ⟨w4.heap.size, 0, none⟩) 1 1 [(0, p1, p3, p4)] (by rfl) (fun h => by cases h) rfl NU.out (by omega) SU.out.bel.size ?_; intro A8 c8 w8 own8 gr8 ha8; generalize hG : wpList _ _ _ _ _ _ = GG)
          have N8 := Lib.hid (show InSt w w8 A8 (m + 1) c8 (out ++ [(0, p1, p3, p4)]) from ⟨own8, gr8.bel SU.out.bel (Nat.le_refl _)⟩)
          clear own8 gr8 ha8 SU NU S4 hU
          subst hG
          go_wp2
          go_roundw
          case rel => exact ⟨j + 1, A8, m + 1, c8, _, by omega, by go_num, rfl, by omega, ST2.out, N8.out⟩
          case measure => simp [intOf]; omega
        · have de : (p1 == ep) = false := by simpa using he
          have ST2 := Lib.hid (show startL ep (rcs.take (j + 1)) = out by rw [ST.out]; simp [he])
          clear ST he
          go_wp2
          go_roundw
          case rel => exact ⟨j + 1, AL, m, cL, out, by omega, by go_num, rfl, by omega, ST2.out, S2.out⟩
          case measure => simp [intOf]; omega
    · obtain rfl : j = n1 := by omega
      have HE := Lib.hid (show startL ep rcs = out by rw [← HU.out, List.take_of_length_le (Nat.le_of_eq H1L.out)])
      have dl : decide (j < j) = false := by simp
      clear hlt
      go_wp2
      go_ret
      exact ⟨AL, cL, m, by rw [HE.out]; exact SR.out.l.1, rfl, by rw [HE.out]; exact SR.out.l, SR.out.bel⟩
end Go.Proofs.Ytbbagpnjjjohpaa.hexes

