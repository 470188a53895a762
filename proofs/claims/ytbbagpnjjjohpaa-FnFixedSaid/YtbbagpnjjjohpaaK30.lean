/-
  A statement of spec.ResultOf: its operations, and a theorem a step.
  The reference's ResultOf: the contract of spec.ResultOf.
  The program's ResultOf: the contract of impl.ResultOf.
  A statement of spec.NoWorse: its operations, and a theorem a step.
-/
import Derived.Test.YtbbagpnjjjohpaaK10
import Derived.Test.YtbbagpnjjjohpaaK27
import Derived.Test.YtbbagpnjjjohpaaK29
import Derived.Test.YtbbagpnjjjohpaaK28

namespace Go.Proofs.Ytbbagpnjjjohpaa.hexes
open Go.RowKit

def findR1F (n : Nat) : Code → Option Code
  | .region id ops d => if id = n then some (.region id ops d) else none
  | .seq a b => match findR1F n a with
    | some c => some c
    | none => findR1F n b
  | .block _ c => findR1F n c
  | .scope c => findR1F n c
  | .loop c => findR1F n c
  | .cond _ a b => match findR1F n a with
    | some c => some c
    | none => findR1F n b
  | _ => none
def opsOfR1F : Option Code → Array Oper
  | some (.region _ ops _) => ops
  | _ => #[]
noncomputable def opsR1F : Array Oper := opsOfR1F (Try.f17.body.bind (findR1F 1))
def schR1F : List Nat := [0, 1, 2, 3, 4, 5, 6]
def LR1F (k : Nat) : Array Bool := ((List.range 7).map fun i => (schR1F.take k).contains i).toArray
theorem noselR1F : Region.noSelect opsR1F = true := by kernel_rfl
def qR1F_0 : Oper := { dst := some 7, op := Op.load 26 (Operand.tmp 3), type := 26, pos := "l11_fixed.go:52", after := #[], guard := none }
theorem hR1F_0 : opsR1F[0]? = some qR1F_0 := by kernel_rfl
theorem lR1F_0 : (LR1F 0).setIfInBounds 0 true = LR1F 1 := by kernel_rfl
theorem tR1F_0 : RegT Try.prog opsR1F qR1F_0 (some 7) 6 (LR1F 0) (LR1F 1) := regT hR1F_0 rfl noselR1F (by kernel_rfl) (by kernel_rfl) lR1F_0
def qR1F_1 : Oper := { dst := some 8, op := Op.load 26 (Operand.tmp 3), type := 26, pos := "l11_fixed.go:52", after := #[], guard := none }
theorem hR1F_1 : opsR1F[1]? = some qR1F_1 := by kernel_rfl
theorem lR1F_1 : (LR1F 1).setIfInBounds 1 true = LR1F 2 := by kernel_rfl
theorem tR1F_1 : RegT Try.prog opsR1F qR1F_1 (some 8) 5 (LR1F 1) (LR1F 2) := regT hR1F_1 rfl noselR1F (by kernel_rfl) (by kernel_rfl) lR1F_1
def qR1F_2 : Oper := { dst := some 9, op := Op.move (Operand.tmp 1), type := 3, pos := "l11_fixed.go:52", after := #[], guard := none }
theorem hR1F_2 : opsR1F[2]? = some qR1F_2 := by kernel_rfl
theorem lR1F_2 : (LR1F 2).setIfInBounds 2 true = LR1F 3 := by kernel_rfl
theorem tR1F_2 : RegT Try.prog opsR1F qR1F_2 (some 9) 4 (LR1F 2) (LR1F 3) := regT hR1F_2 rfl noselR1F (by kernel_rfl) (by kernel_rfl) lR1F_2
def qR1F_3 : Oper := { dst := some 10, op := Op.move (Operand.tmp 2), type := 27, pos := "l11_fixed.go:52", after := #[], guard := none }
theorem hR1F_3 : opsR1F[3]? = some qR1F_3 := by kernel_rfl
theorem lR1F_3 : (LR1F 3).setIfInBounds 3 true = LR1F 4 := by kernel_rfl
theorem tR1F_3 : RegT Try.prog opsR1F qR1F_3 (some 10) 3 (LR1F 3) (LR1F 4) := regT hR1F_3 rfl noselR1F (by kernel_rfl) (by kernel_rfl) lR1F_3
def qR1F_4 : Oper := { dst := some 11, op := Op.call { callee := Callee.value (Operand.func 15), args := #[Operand.tmp 8, Operand.tmp 9, Operand.tmp 10], argTypes := #[26, 3, 27] }, type := 30, pos := "l11_fixed.go:52", after := #[{ on := 1, ground := Ground.data }, { on := 2, ground := Ground.data }, { on := 3, ground := Ground.data }], guard := none }
theorem hR1F_4 : opsR1F[4]? = some qR1F_4 := by kernel_rfl
theorem lR1F_4 : (LR1F 4).setIfInBounds 4 true = LR1F 5 := by kernel_rfl
theorem cR1F_4 : RegC Try.prog opsR1F qR1F_4 (some 11) 2 (LR1F 4) (LR1F 5) := regC hR1F_4 rfl (by kernel_rfl) lR1F_4
def qR1F_5 : Oper := { dst := some 12, op := Op.call { callee := Callee.value (Operand.func 28), args := #[Operand.tmp 7, Operand.tmp 11], argTypes := #[26, 30] }, type := 30, pos := "l11_fixed.go:52", after := #[{ on := 0, ground := Ground.data }, { on := 4, ground := Ground.data }, { on := 4, ground := Ground.chain }], guard := none }
theorem hR1F_5 : opsR1F[5]? = some qR1F_5 := by kernel_rfl
theorem lR1F_5 : (LR1F 5).setIfInBounds 5 true = LR1F 6 := by kernel_rfl
theorem cR1F_5 : RegC Try.prog opsR1F qR1F_5 (some 12) 1 (LR1F 5) (LR1F 6) := regC hR1F_5 rfl (by kernel_rfl) lR1F_5
def qR1F_6 : Oper := { dst := some 6, op := Op.assign (Operand.tmp 12), type := 30, pos := "l11_fixed.go:52", after := #[{ on := 5, ground := Ground.data }, { on := 5, ground := Ground.chain }, { on := 0, ground := Ground.phase }, { on := 1, ground := Ground.phase }, { on := 2, ground := Ground.phase }, { on := 3, ground := Ground.phase }, { on := 4, ground := Ground.phase }, { on := 5, ground := Ground.phase }], guard := none }
theorem hR1F_6 : opsR1F[6]? = some qR1F_6 := by kernel_rfl
theorem lR1F_6 : (LR1F 6).setIfInBounds 6 true = LR1F 7 := by kernel_rfl
theorem tR1F_6 : RegT Try.prog opsR1F qR1F_6 (some 6) 0 (LR1F 6) (LR1F 7) := regT hR1F_6 rfl noselR1F (by kernel_rfl) (by kernel_rfl) lR1F_6
end Go.Proofs.Ytbbagpnjjjohpaa.hexes

namespace Go.Proofs.Ytbbagpnjjjohpaa.hexes
open Go.RowKit

structure ResHeld (V : World) (g : Nat) (A : Option Addr) (n c : Nat) (wk cp : Int) (w : World) : Prop where
  g0 : w.cell? ⟨g, 0, none⟩ = some (.slice A n c)
  g1 : w.cell? ⟨g, 1, none⟩ = some (.int .i64 wk)
  g2 : w.cell? ⟨g, 2, none⟩ = some (.int .i64 cp)
  bel : Below V.heap.size V w
theorem ResHeld.below {V : World} {g : Nat} {A : Option Addr} {n c : Nat} {wk cp : Int} {w w' : World} (h : ResHeld V g A n c wk cp w) (hb : Below w.heap.size w w') : ResHeld V g A n c wk cp w' := ⟨below_keep hb h.g0, below_keep hb h.g1, below_keep hb h.g2, below_chain h.bel hb⟩

set_option maxRecDepth 1000000 in
set_option maxHeartbeats 8000000 in
theorem specRes_any (gs : List Nd) (wk cp : Int) (A : Option Addr) (n c : Nat) (hl : gs.length = n) (ho : ∀ x ∈ gs, x.2.2.2.length ≤ 1048576) (hn : n ≤ 1048576) (ep : Int) (rcs : List Rc) (A1 : Option Addr) (n1 c1 : Nat) (hl1 : rcs.length = n1) (hn1 : n1 ≤ 1048576) {q : List Ce} (hq : FixTo gs wk cp [] (startL ep rcs) q) (hql : q.length ≤ 800000) (w : World) (h : Nds w A gs) (h1 : Rcs w A1 rcs) :
    Calls Try.prog 17 #[.agg #[.slice A n c, .int .i64 wk, .int .i64 cp], .int .i64 ep, .slice A1 n1 c1] w (CesOut w (outsC gs q)) := by
  have HQ := Lib.hid hq
  have HL := Lib.hid hl
  have HO := Lib.hid ho
  have H1L := Lib.hid hl1
  have S0 := Lib.hid h
  have H1 := Lib.hid h1
  clear hq hl ho hl1 h h1
  obtain ⟨V9, hV⟩ : ∃ z, (w.alloc (.cells #[.slice A n c, .int .i64 wk, .int .i64 cp] 26)).drew = z := ⟨_, rfl⟩
  have BV := Lib.hid (show Below w.heap.size w V9 by rw [← hV]; exact ((Below.refl _ _).alloc (Nat.le_refl _) _).drew)
  have KV := Lib.hid (show Blk V9 w.heap.size 26 #[.slice A n c, .int .i64 wk, .int .i64 cp] by rw [← hV]; exact Blk.new _ _ _)
  have HD := Lib.hid (show ResHeld V9 w.heap.size A n c wk cp V9 from ⟨by rw [KV.out.cell]; rfl, by rw [KV.out.cell]; rfl, by rw [KV.out.cell]; rfl, Below.refl _ _⟩)
  go_enter Try.func17, Try.ntmps17
  go_wp2_with fail
  refine wp_region_held_drew (S := ResHeld V9 w.heap.size A n c wk cp) (by kernel_rfl) ?_ (fun hHeld => ?_)
  · skip
    rw [hV]; exact HD.out
  change wpAnyH _ _ opsR1F _ _ 7 (LR1F 0) _ _
  rw [hV] at hHeld ⊢
  clear hV
  refine regY tR1F_0 (.agg #[.slice A n c, .int .i64 wk, .int .i64 cp]) (fun W hSw => by unfold qR1F_0; obtain ⟨g0, g1, g2, _⟩ := hSw; go_simp) hHeld ?_
  try simp only [pt, List.set]
  refine regY tR1F_1 (.agg #[.slice A n c, .int .i64 wk, .int .i64 cp]) (fun W hSw => by unfold qR1F_1; obtain ⟨g0, g1, g2, _⟩ := hSw; go_simp) hHeld ?_
  try simp only [pt, List.set]
  refine regY tR1F_2 (.int .i64 ep) (fun W hSw => by unfold qR1F_2; go_simp) hHeld ?_
  try simp only [pt, List.set]
  refine regY tR1F_3 (.slice A1 n1 c1) (fun W hSw => by unfold qR1F_3; go_simp) hHeld ?_
  try simp only [pt, List.set]
  refine cR1F_4 (fun K hK => ?_)
  rw [if_pos (by rfl)]
  unfold qR1F_4
  go_simp
  refine (specFix_any gs wk cp A n c HL.out HO.out hn ep rcs A1 n1 c1 H1L.out hn1 HQ.out _ (S0.out.below (below_chain BV.out hHeld.bel)) (H1.out.below (below_chain BV.out hHeld.bel))).mono ?_
  rintro e w5 ⟨A3, c3, m3, hm3, rfl, r3, bq⟩
  have M3 := Lib.hid hm3
  have R3 := Lib.hid r3
  clear hm3 r3
  refine Shut.out hK _ _ ?_ (fun hHeld => ?_)
  · exact hHeld.below bq
  clear hK K
  try simp only [pt, List.set]
  refine cR1F_5 (fun K hK => ?_)
  rw [if_pos (by rfl)]
  unfold qR1F_5
  go_simp
  refine (specOuts_any gs wk cp A n c HL.out HO.out hn q A3 m3 c3 M3.out (by have := M3.out; omega) _ (S0.out.below (below_chain BV.out hHeld.bel)) R3.out.ce).mono ?_
  rintro e w6 ⟨A4, c4, m4, hm4, rfl, r4, bq⟩
  have M4 := Lib.hid hm4
  have R4 := Lib.hid (r4.bounds (below_chain BV.out hHeld.bel).size (Nat.le_refl _))
  clear hm4 r4
  refine Shut.out hK _ _ ?_ (fun hHeld => ?_)
  · exact hHeld.below bq
  clear hK K
  try simp only [pt, List.set]
  refine regY tR1F_6 (.slice A4 m4 c4) (fun W hSw => by unfold qR1F_6; go_simp) hHeld ?_
  try simp only [pt, List.set]
  refine wpAnyH_done (by kernel_rfl) ?_ _
  have BE := Lib.hid (below_chain BV.out hHeld.bel)
  clear hHeld HD
  go_wp2
  go_ret
  exact ⟨A4, c4, m4, M4.out, rfl, R4.out, BE.out⟩
end Go.Proofs.Ytbbagpnjjjohpaa.hexes

namespace Go.Proofs.Ytbbagpnjjjohpaa.hexes
open Go.RowKit

set_option maxRecDepth 1000000 in
set_option maxHeartbeats 8000000 in
theorem implRes_any (gs : List Nd) (wk cp : Int) (A : Option Addr) (n c : Nat) (hl : gs.length = n) (ho : ∀ x ∈ gs, x.2.2.2.length ≤ 1048576) (hn : n ≤ 1048576) (ep : Int) (rcs : List Rc) (A1 : Option Addr) (n1 c1 : Nat) (hl1 : rcs.length = n1) (hn1 : n1 ≤ 1048576) {q : List Ce} (hq : FixTo gs wk cp [] (startL ep rcs) q) (hql : q.length ≤ 800000) (w : World) (h : Nds w A gs) (h1 : Rcs w A1 rcs) :
    Calls Try.prog 16 #[.agg #[.slice A n c, .int .i64 wk, .int .i64 cp], .int .i64 ep, .slice A1 n1 c1] w (CesOut w (outsC gs q)) := by
  have HQ := Lib.hid hq
  have HL := Lib.hid hl
  have HO := Lib.hid ho
  have H1L := Lib.hid hl1
  have S0 := Lib.hid h
  have H1 := Lib.hid h1
  clear hq hl ho hl1 h h1
  obtain ⟨V9, hV⟩ : ∃ z, (w.alloc (.cells #[.slice A n c, .int .i64 wk, .int .i64 cp] 26)).drew = z := ⟨_, rfl⟩
  have BV := Lib.hid (show Below w.heap.size w V9 by rw [← hV]; exact ((Below.refl _ _).alloc (Nat.le_refl _) _).drew)
  have KV := Lib.hid (show Blk V9 w.heap.size 26 #[.slice A n c, .int .i64 wk, .int .i64 cp] by rw [← hV]; exact Blk.new _ _ _)
  have HD := Lib.hid (show ResHeld V9 w.heap.size A n c wk cp V9 from ⟨by rw [KV.out.cell]; rfl, by rw [KV.out.cell]; rfl, by rw [KV.out.cell]; rfl, Below.refl _ _⟩)
  go_enter Try.func16, Try.ntmps16
  go_wp2_with fail
  refine wp_region_held_drew (S := ResHeld V9 w.heap.size A n c wk cp) (by kernel_rfl) ?_ (fun hHeld => ?_)
  · skip
    rw [hV]; exact HD.out
  change wpAnyH _ _ opsR2F _ _ 7 (LR2F 0) _ _
  rw [hV] at hHeld ⊢
  clear hV
  refine regY tR2F_0 (.agg #[.slice A n c, .int .i64 wk, .int .i64 cp]) (fun W hSw => by unfold qR2F_0; obtain ⟨g0, g1, g2, _⟩ := hSw; go_simp) hHeld ?_
  try simp only [pt, List.set]
  refine regY tR2F_1 (.agg #[.slice A n c, .int .i64 wk, .int .i64 cp]) (fun W hSw => by unfold qR2F_1; obtain ⟨g0, g1, g2, _⟩ := hSw; go_simp) hHeld ?_
  try simp only [pt, List.set]
  refine regY tR2F_2 (.int .i64 ep) (fun W hSw => by unfold qR2F_2; go_simp) hHeld ?_
  try simp only [pt, List.set]
  refine regY tR2F_3 (.slice A1 n1 c1) (fun W hSw => by unfold qR2F_3; go_simp) hHeld ?_
  try simp only [pt, List.set]
  refine cR2F_4 (fun K hK => ?_)
  rw [if_pos (by rfl)]
  unfold qR2F_4
  go_simp
  refine (implFix_any gs wk cp A n c HL.out HO.out hn ep rcs A1 n1 c1 H1L.out hn1 HQ.out _ (S0.out.below (below_chain BV.out hHeld.bel)) (H1.out.below (below_chain BV.out hHeld.bel))).mono ?_
  rintro e w5 ⟨A3, c3, m3, hm3, rfl, r3, bq⟩
  have M3 := Lib.hid hm3
  have R3 := Lib.hid r3
  clear hm3 r3
  refine Shut.out hK _ _ ?_ (fun hHeld => ?_)
  · exact hHeld.below bq
  clear hK K
  try simp only [pt, List.set]
  refine cR2F_5 (fun K hK => ?_)
  rw [if_pos (by rfl)]
  unfold qR2F_5
  go_simp
  refine (implOnly_any gs wk cp A n c HL.out HO.out hn q A3 m3 c3 M3.out (by have := M3.out; omega) _ (S0.out.below (below_chain BV.out hHeld.bel)) R3.out.ce).mono ?_
  rintro e w6 ⟨A4, c4, m4, hm4, rfl, r4, bq⟩
  have M4 := Lib.hid hm4
  have R4 := Lib.hid (r4.bounds (below_chain BV.out hHeld.bel).size (Nat.le_refl _))
  clear hm4 r4
  refine Shut.out hK _ _ ?_ (fun hHeld => ?_)
  · exact hHeld.below bq
  clear hK K
  try simp only [pt, List.set]
  refine regY tR2F_6 (.slice A4 m4 c4) (fun W hSw => by unfold qR2F_6; go_simp) hHeld ?_
  try simp only [pt, List.set]
  refine wpAnyH_done (by kernel_rfl) ?_ _
  have BE := Lib.hid (below_chain BV.out hHeld.bel)
  clear hHeld HD
  go_wp2
  go_ret
  exact ⟨A4, c4, m4, M4.out, rfl, R4.out, BE.out⟩
end Go.Proofs.Ytbbagpnjjjohpaa.hexes

namespace Go.Proofs.Ytbbagpnjjjohpaa.hexes
open Go.RowKit

def findW4 (n : Nat) : Code → Option Code
  | .region id ops d => if id = n then some (.region id ops d) else none
  | .seq a b => match findW4 n a with
    | some c => some c
    | none => findW4 n b
  | .block _ c => findW4 n c
  | .scope c => findW4 n c
  | .loop c => findW4 n c
  | .cond _ a b => match findW4 n a with
    | some c => some c
    | none => findW4 n b
  | _ => none
def opsOfW4 : Option Code → Array Oper
  | some (.region _ ops _) => ops
  | _ => #[]
noncomputable def opsW4 : Array Oper := opsOfW4 (Try.f26.body.bind (findW4 4))
def schW4 : List Nat := [0, 1, 2, 3, 4, 5, 6, 7, 8, 9, 10, 11, 12, 13, 14, 15, 16, 17, 18, 19, 20, 21]
def LW4 (k : Nat) : Array Bool := ((List.range 22).map fun i => (schW4.take k).contains i).toArray
theorem noselW4 : Region.noSelect opsW4 = true := by kernel_rfl
def qW4_0 : Oper := { dst := some 15, op := Op.move (Operand.tmp 0), type := 30, pos := "l11_fixed.go:57", after := #[], guard := none }
theorem hW4_0 : opsW4[0]? = some qW4_0 := by kernel_rfl
theorem lW4_0 : (LW4 0).setIfInBounds 0 true = LW4 1 := by kernel_rfl
theorem tW4_0 : RegT Try.prog opsW4 qW4_0 (some 15) 21 (LW4 0) (LW4 1) := regT hW4_0 rfl noselW4 (by kernel_rfl) (by kernel_rfl) lW4_0
def qW4_1 : Oper := { dst := some 16, op := Op.move (Operand.tmp 1), type := 30, pos := "l11_fixed.go:57", after := #[], guard := none }
theorem hW4_1 : opsW4[1]? = some qW4_1 := by kernel_rfl
theorem lW4_1 : (LW4 1).setIfInBounds 1 true = LW4 2 := by kernel_rfl
theorem tW4_1 : RegT Try.prog opsW4 qW4_1 (some 16) 20 (LW4 1) (LW4 2) := regT hW4_1 rfl noselW4 (by kernel_rfl) (by kernel_rfl) lW4_1
def qW4_2 : Oper := { dst := some 17, op := Op.move (Operand.tmp 5), type := 3, pos := "l11_fixed.go:57", after := #[], guard := none }
theorem hW4_2 : opsW4[2]? = some qW4_2 := by kernel_rfl
theorem lW4_2 : (LW4 2).setIfInBounds 2 true = LW4 3 := by kernel_rfl
theorem tW4_2 : RegT Try.prog opsW4 qW4_2 (some 17) 19 (LW4 2) (LW4 3) := regT hW4_2 rfl noselW4 (by kernel_rfl) (by kernel_rfl) lW4_2
def qW4_3 : Oper := { dst := some 18, op := Op.indexAddr 30 (Operand.tmp 16) (Operand.tmp 17), type := 0, pos := "l11_fixed.go:57", after := #[{ on := 1, ground := Ground.data }, { on := 2, ground := Ground.data }], guard := none }
theorem hW4_3 : opsW4[3]? = some qW4_3 := by kernel_rfl
theorem lW4_3 : (LW4 3).setIfInBounds 3 true = LW4 4 := by kernel_rfl
theorem tW4_3 : RegT Try.prog opsW4 qW4_3 (some 18) 18 (LW4 3) (LW4 4) := regT hW4_3 rfl noselW4 (by kernel_rfl) (by kernel_rfl) lW4_3
def qW4_4 : Oper := { dst := some 19, op := Op.fieldAddr 38 (Operand.tmp 18) 0, type := 0, pos := "l11_fixed.go:57", after := #[{ on := 3, ground := Ground.data }], guard := none }
theorem hW4_4 : opsW4[4]? = some qW4_4 := by kernel_rfl
theorem lW4_4 : (LW4 4).setIfInBounds 4 true = LW4 5 := by kernel_rfl
theorem tW4_4 : RegT Try.prog opsW4 qW4_4 (some 19) 17 (LW4 4) (LW4 5) := regT hW4_4 rfl noselW4 (by kernel_rfl) (by kernel_rfl) lW4_4
def qW4_5 : Oper := { dst := some 20, op := Op.load 3 (Operand.tmp 19), type := 3, pos := "l11_fixed.go:57", after := #[{ on := 4, ground := Ground.data }], guard := none }
theorem hW4_5 : opsW4[5]? = some qW4_5 := by kernel_rfl
theorem lW4_5 : (LW4 5).setIfInBounds 5 true = LW4 6 := by kernel_rfl
theorem tW4_5 : RegT Try.prog opsW4 qW4_5 (some 20) 16 (LW4 5) (LW4 6) := regT hW4_5 rfl noselW4 (by kernel_rfl) (by kernel_rfl) lW4_5
def qW4_6 : Oper := { dst := some 21, op := Op.move (Operand.tmp 1), type := 30, pos := "l11_fixed.go:57", after := #[], guard := none }
theorem hW4_6 : opsW4[6]? = some qW4_6 := by kernel_rfl
theorem lW4_6 : (LW4 6).setIfInBounds 6 true = LW4 7 := by kernel_rfl
theorem tW4_6 : RegT Try.prog opsW4 qW4_6 (some 21) 15 (LW4 6) (LW4 7) := regT hW4_6 rfl noselW4 (by kernel_rfl) (by kernel_rfl) lW4_6
def qW4_7 : Oper := { dst := some 22, op := Op.move (Operand.tmp 5), type := 3, pos := "l11_fixed.go:57", after := #[], guard := none }
theorem hW4_7 : opsW4[7]? = some qW4_7 := by kernel_rfl
theorem lW4_7 : (LW4 7).setIfInBounds 7 true = LW4 8 := by kernel_rfl
theorem tW4_7 : RegT Try.prog opsW4 qW4_7 (some 22) 14 (LW4 7) (LW4 8) := regT hW4_7 rfl noselW4 (by kernel_rfl) (by kernel_rfl) lW4_7
def qW4_8 : Oper := { dst := some 23, op := Op.indexAddr 30 (Operand.tmp 21) (Operand.tmp 22), type := 0, pos := "l11_fixed.go:57", after := #[{ on := 6, ground := Ground.data }, { on := 7, ground := Ground.data }], guard := none }
theorem hW4_8 : opsW4[8]? = some qW4_8 := by kernel_rfl
theorem lW4_8 : (LW4 8).setIfInBounds 8 true = LW4 9 := by kernel_rfl
theorem tW4_8 : RegT Try.prog opsW4 qW4_8 (some 23) 13 (LW4 8) (LW4 9) := regT hW4_8 rfl noselW4 (by kernel_rfl) (by kernel_rfl) lW4_8
def qW4_9 : Oper := { dst := some 24, op := Op.fieldAddr 38 (Operand.tmp 23) 1, type := 0, pos := "l11_fixed.go:57", after := #[{ on := 8, ground := Ground.data }], guard := none }
theorem hW4_9 : opsW4[9]? = some qW4_9 := by kernel_rfl
theorem lW4_9 : (LW4 9).setIfInBounds 9 true = LW4 10 := by kernel_rfl
theorem tW4_9 : RegT Try.prog opsW4 qW4_9 (some 24) 12 (LW4 9) (LW4 10) := regT hW4_9 rfl noselW4 (by kernel_rfl) (by kernel_rfl) lW4_9
def qW4_10 : Oper := { dst := some 25, op := Op.load 3 (Operand.tmp 24), type := 3, pos := "l11_fixed.go:57", after := #[{ on := 9, ground := Ground.data }], guard := none }
theorem hW4_10 : opsW4[10]? = some qW4_10 := by kernel_rfl
theorem lW4_10 : (LW4 10).setIfInBounds 10 true = LW4 11 := by kernel_rfl
theorem tW4_10 : RegT Try.prog opsW4 qW4_10 (some 25) 11 (LW4 10) (LW4 11) := regT hW4_10 rfl noselW4 (by kernel_rfl) (by kernel_rfl) lW4_10
def qW4_11 : Oper := { dst := some 26, op := Op.move (Operand.tmp 1), type := 30, pos := "l11_fixed.go:57", after := #[], guard := none }
theorem hW4_11 : opsW4[11]? = some qW4_11 := by kernel_rfl
theorem lW4_11 : (LW4 11).setIfInBounds 11 true = LW4 12 := by kernel_rfl
theorem tW4_11 : RegT Try.prog opsW4 qW4_11 (some 26) 10 (LW4 11) (LW4 12) := regT hW4_11 rfl noselW4 (by kernel_rfl) (by kernel_rfl) lW4_11
def qW4_12 : Oper := { dst := some 27, op := Op.move (Operand.tmp 5), type := 3, pos := "l11_fixed.go:57", after := #[], guard := none }
theorem hW4_12 : opsW4[12]? = some qW4_12 := by kernel_rfl
theorem lW4_12 : (LW4 12).setIfInBounds 12 true = LW4 13 := by kernel_rfl
theorem tW4_12 : RegT Try.prog opsW4 qW4_12 (some 27) 9 (LW4 12) (LW4 13) := regT hW4_12 rfl noselW4 (by kernel_rfl) (by kernel_rfl) lW4_12
def qW4_13 : Oper := { dst := some 28, op := Op.indexAddr 30 (Operand.tmp 26) (Operand.tmp 27), type := 0, pos := "l11_fixed.go:57", after := #[{ on := 11, ground := Ground.data }, { on := 12, ground := Ground.data }], guard := none }
theorem hW4_13 : opsW4[13]? = some qW4_13 := by kernel_rfl
theorem lW4_13 : (LW4 13).setIfInBounds 13 true = LW4 14 := by kernel_rfl
theorem tW4_13 : RegT Try.prog opsW4 qW4_13 (some 28) 8 (LW4 13) (LW4 14) := regT hW4_13 rfl noselW4 (by kernel_rfl) (by kernel_rfl) lW4_13
def qW4_14 : Oper := { dst := some 29, op := Op.fieldAddr 38 (Operand.tmp 28) 2, type := 0, pos := "l11_fixed.go:57", after := #[{ on := 13, ground := Ground.data }], guard := none }
theorem hW4_14 : opsW4[14]? = some qW4_14 := by kernel_rfl
theorem lW4_14 : (LW4 14).setIfInBounds 14 true = LW4 15 := by kernel_rfl
theorem tW4_14 : RegT Try.prog opsW4 qW4_14 (some 29) 7 (LW4 14) (LW4 15) := regT hW4_14 rfl noselW4 (by kernel_rfl) (by kernel_rfl) lW4_14
def qW4_15 : Oper := { dst := some 30, op := Op.load 3 (Operand.tmp 29), type := 3, pos := "l11_fixed.go:57", after := #[{ on := 14, ground := Ground.data }], guard := none }
theorem hW4_15 : opsW4[15]? = some qW4_15 := by kernel_rfl
theorem lW4_15 : (LW4 15).setIfInBounds 15 true = LW4 16 := by kernel_rfl
theorem tW4_15 : RegT Try.prog opsW4 qW4_15 (some 30) 6 (LW4 15) (LW4 16) := regT hW4_15 rfl noselW4 (by kernel_rfl) (by kernel_rfl) lW4_15
def qW4_16 : Oper := { dst := some 31, op := Op.call { callee := Callee.value (Operand.func 31), args := #[Operand.tmp 15, Operand.tmp 20, Operand.tmp 25, Operand.tmp 30], argTypes := #[30, 3, 3, 3] }, type := 53, pos := "l11_fixed.go:57", after := #[{ on := 0, ground := Ground.data }, { on := 5, ground := Ground.data }, { on := 10, ground := Ground.data }, { on := 15, ground := Ground.data }], guard := none }
theorem hW4_16 : opsW4[16]? = some qW4_16 := by kernel_rfl
theorem lW4_16 : (LW4 16).setIfInBounds 16 true = LW4 17 := by kernel_rfl
theorem cW4_16 : RegC Try.prog opsW4 qW4_16 (some 31) 5 (LW4 16) (LW4 17) := regC hW4_16 rfl (by kernel_rfl) lW4_16
def qW4_17 : Oper := { dst := some 14, op := Op.move (Operand.tmp 31), type := 53, pos := "l11_fixed.go:57", after := #[{ on := 16, ground := Ground.data }], guard := none }
theorem hW4_17 : opsW4[17]? = some qW4_17 := by kernel_rfl
theorem lW4_17 : (LW4 17).setIfInBounds 17 true = LW4 18 := by kernel_rfl
theorem tW4_17 : RegT Try.prog opsW4 qW4_17 (some 14) 4 (LW4 17) (LW4 18) := regT hW4_17 rfl noselW4 (by kernel_rfl) (by kernel_rfl) lW4_17
def qW4_18 : Oper := { dst := some 32, op := Op.extract (Operand.tmp 14) 0, type := 3, pos := "l11_fixed.go:57", after := #[{ on := 17, ground := Ground.data }], guard := none }
theorem hW4_18 : opsW4[18]? = some qW4_18 := by kernel_rfl
theorem lW4_18 : (LW4 18).setIfInBounds 18 true = LW4 19 := by kernel_rfl
theorem tW4_18 : RegT Try.prog opsW4 qW4_18 (some 32) 3 (LW4 18) (LW4 19) := regT hW4_18 rfl noselW4 (by kernel_rfl) (by kernel_rfl) lW4_18
def qW4_19 : Oper := { dst := some 33, op := Op.extract (Operand.tmp 14) 1, type := 4, pos := "l11_fixed.go:57", after := #[{ on := 17, ground := Ground.data }, { on := 20, ground := Ground.gcOnly Departure.lateStores }], guard := none }
theorem hW4_19 : opsW4[19]? = some qW4_19 := by kernel_rfl
theorem lW4_19 : (LW4 19).setIfInBounds 19 true = LW4 20 := by kernel_rfl
theorem tW4_19 : RegT Try.prog opsW4 qW4_19 (some 33) 2 (LW4 19) (LW4 20) := regT hW4_19 rfl noselW4 (by kernel_rfl) (by kernel_rfl) lW4_19
def qW4_20 : Oper := { dst := some 6, op := Op.assign (Operand.tmp 32), type := 3, pos := "l11_fixed.go:57", after := #[{ on := 18, ground := Ground.data }, { on := 16, ground := Ground.chain }, { on := 0, ground := Ground.phase }, { on := 1, ground := Ground.phase }, { on := 2, ground := Ground.phase }, { on := 3, ground := Ground.phase }, { on := 4, ground := Ground.phase }, { on := 5, ground := Ground.phase }, { on := 6, ground := Ground.phase }, { on := 7, ground := Ground.phase }, { on := 8, ground := Ground.phase }, { on := 9, ground := Ground.phase }, { on := 10, ground := Ground.phase }, { on := 11, ground := Ground.phase }, { on := 12, ground := Ground.phase }, { on := 13, ground := Ground.phase }, { on := 14, ground := Ground.phase }, { on := 15, ground := Ground.phase }, { on := 16, ground := Ground.phase }, { on := 17, ground := Ground.phase }, { on := 18, ground := Ground.phase }, { on := 19, ground := Ground.textOnly Departure.lateStores }], guard := none }
theorem hW4_20 : opsW4[20]? = some qW4_20 := by kernel_rfl
theorem lW4_20 : (LW4 20).setIfInBounds 20 true = LW4 21 := by kernel_rfl
theorem tW4_20 : RegT Try.prog opsW4 qW4_20 (some 6) 1 (LW4 20) (LW4 21) := regT hW4_20 rfl noselW4 (by kernel_rfl) (by kernel_rfl) lW4_20
def qW4_21 : Oper := { dst := some 7, op := Op.assign (Operand.tmp 33), type := 4, pos := "l11_fixed.go:57", after := #[{ on := 19, ground := Ground.data }, { on := 20, ground := Ground.chain }, { on := 0, ground := Ground.phase }, { on := 1, ground := Ground.phase }, { on := 2, ground := Ground.phase }, { on := 3, ground := Ground.phase }, { on := 4, ground := Ground.phase }, { on := 5, ground := Ground.phase }, { on := 6, ground := Ground.phase }, { on := 7, ground := Ground.phase }, { on := 8, ground := Ground.phase }, { on := 9, ground := Ground.phase }, { on := 10, ground := Ground.phase }, { on := 11, ground := Ground.phase }, { on := 12, ground := Ground.phase }, { on := 13, ground := Ground.phase }, { on := 14, ground := Ground.phase }, { on := 15, ground := Ground.phase }, { on := 16, ground := Ground.phase }, { on := 17, ground := Ground.phase }, { on := 18, ground := Ground.phase }, { on := 19, ground := Ground.phase }, { on := 20, ground := Ground.phase }], guard := none }
theorem hW4_21 : opsW4[21]? = some qW4_21 := by kernel_rfl
theorem lW4_21 : (LW4 21).setIfInBounds 21 true = LW4 22 := by kernel_rfl
theorem tW4_21 : RegT Try.prog opsW4 qW4_21 (some 7) 0 (LW4 21) (LW4 22) := regT hW4_21 rfl noselW4 (by kernel_rfl) (by kernel_rfl) lW4_21
end Go.Proofs.Ytbbagpnjjjohpaa.hexes

