/-
  A statement of spec.NoWorse: its operations, and a theorem a step.
  The reference's NoWorse: the contract of spec.NoWorse.
-/
import Derived.Test.YtbbagpnjjjohpaaJ16
import Derived.Test.YtbbagpnjjjohpaaJ14
import Derived.Test.YtbbagpnjjjohpaaJ23

namespace Go.Proofs.Ytbbagpnjjjohpaa.hexes
open Go.RowKit

def findW4 (n : Nat) : Code → Option Code
  | .region id ops d => if id = n then some (.region id ops d) else none
  | .seq a b => match findW4 n a with
    | some c => some c
    | none => findW4 n b
  | .block _ c => findW4 n c
  | .scope c => findW4 n c
  | .loop c => findW4 n c
  | .cond _ a b => match findW4 n a with
    | some c => some c
    | none => findW4 n b
  | _ => none
def opsOfW4 : Option Code → Array Oper
  | some (.region _ ops _) => ops
  | _ => #[]
noncomputable def opsW4 : Array Oper := opsOfW4 (Try.f26.body.bind (findW4 4))
def schW4 : List Nat := [0, 1, 2, 3, 4, 5, 6, 7, 8, 9, 10, 11, 12, 13, 14, 15, 16, 17, 18, 19, 20, 21]
def LW4 (k : Nat) : Array Bool := ((List.range 22).map fun i => (schW4.take k).contains i).toArray
theorem noselW4 : Region.noSelect opsW4 = true := by kernel_rfl
def qW4_0 : Oper := { dst := some 15, op := Op.move (Operand.tmp 0), type := 30, pos := "l11_fixed.go:57", after := #[], guard := none }
theorem hW4_0 : opsW4[0]? = some qW4_0 := by kernel_rfl
theorem lW4_0 : (LW4 0).setIfInBounds 0 true = LW4 1 := by kernel_rfl
theorem tW4_0 : RegT Try.prog opsW4 qW4_0 (some 15) 21 (LW4 0) (LW4 1) := regT hW4_0 rfl noselW4 (by kernel_rfl) (by kernel_rfl) lW4_0
def qW4_1 : Oper := { dst := some 16, op := Op.move (Operand.tmp 1), type := 30, pos := "l11_fixed.go:57", after := #[], guard := none }
theorem hW4_1 : opsW4[1]? = some qW4_1 := by kernel_rfl
theorem lW4_1 : (LW4 1).setIfInBounds 1 true = LW4 2 := by kernel_rfl
theorem tW4_1 : RegT Try.prog opsW4 qW4_1 (some 16) 20 (LW4 1) (LW4 2) := regT hW4_1 rfl noselW4 (by kernel_rfl) (by kernel_rfl) lW4_1
def qW4_2 : Oper := { dst := some 17, op := Op.move (Operand.tmp 5), type := 3, pos := "l11_fixed.go:57", after := #[], guard := none }
theorem hW4_2 : opsW4[2]? = some qW4_2 := by kernel_rfl
theorem lW4_2 : (LW4 2).setIfInBounds 2 true = LW4 3 := by kernel_rfl
theorem tW4_2 : RegT Try.prog opsW4 qW4_2 (some 17) 19 (LW4 2) (LW4 3) := regT hW4_2 rfl noselW4 (by kernel_rfl) (by kernel_rfl) lW4_2
def qW4_3 : Oper := { dst := some 18, op := Op.indexAddr 30 (Operand.tmp 16) (Operand.tmp 17), type := 0, pos := "l11_fixed.go:57", after := #[{ on := 1, ground := Ground.data }, { on := 2, ground := Ground.data }], guard := none }
theorem hW4_3 : opsW4[3]? = some qW4_3 := by kernel_rfl
theorem lW4_3 : (LW4 3).setIfInBounds 3 true = LW4 4 := by kernel_rfl
theorem tW4_3 : RegT Try.prog opsW4 qW4_3 (some 18) 18 (LW4 3) (LW4 4) := regT hW4_3 rfl noselW4 (by kernel_rfl) (by kernel_rfl) lW4_3
def qW4_4 : Oper := { dst := some 19, op := Op.fieldAddr 38 (Operand.tmp 18) 0, type := 0, pos := "l11_fixed.go:57", after := #[{ on := 3, ground := Ground.data }], guard := none }
theorem hW4_4 : opsW4[4]? = some qW4_4 := by kernel_rfl
theorem lW4_4 : (LW4 4).setIfInBounds 4 true = LW4 5 := by kernel_rfl
theorem tW4_4 : RegT Try.prog opsW4 qW4_4 (some 19) 17 (LW4 4) (LW4 5) := regT hW4_4 rfl noselW4 (by kernel_rfl) (by kernel_rfl) lW4_4
def qW4_5 : Oper := { dst := some 20, op := Op.load 3 (Operand.tmp 19), type := 3, pos := "l11_fixed.go:57", after := #[{ on := 4, ground := Ground.data }], guard := none }
theorem hW4_5 : opsW4[5]? = some qW4_5 := by kernel_rfl
theorem lW4_5 : (LW4 5).setIfInBounds 5 true = LW4 6 := by kernel_rfl
theorem tW4_5 : RegT Try.prog opsW4 qW4_5 (some 20) 16 (LW4 5) (LW4 6) := regT hW4_5 rfl noselW4 (by kernel_rfl) (by kernel_rfl) lW4_5
def qW4_6 : Oper := { dst := some 21, op := Op.move (Operand.tmp 1), type := 30, pos := "l11_fixed.go:57", after := #[], guard := none }
theorem hW4_6 : opsW4[6]? = some qW4_6 := by kernel_rfl
theorem lW4_6 : (LW4 6).setIfInBounds 6 true = LW4 7 := by kernel_rfl
theorem tW4_6 : RegT Try.prog opsW4 qW4_6 (some 21) 15 (LW4 6) (LW4 7) := regT hW4_6 rfl noselW4 (by kernel_rfl) (by kernel_rfl) lW4_6
def qW4_7 : Oper := { dst := some 22, op := Op.move (Operand.tmp 5), type := 3, pos := "l11_fixed.go:57", after := #[], guard := none }
theorem hW4_7 : opsW4[7]? = some qW4_7 := by kernel_rfl
theorem lW4_7 : (LW4 7).setIfInBounds 7 true = LW4 8 := by kernel_rfl
theorem tW4_7 : RegT Try.prog opsW4 qW4_7 (some 22) 14 (LW4 7) (LW4 8) := regT hW4_7 rfl noselW4 (by kernel_rfl) (by kernel_rfl) lW4_7
def qW4_8 : Oper := { dst := some 23, op := Op.indexAddr 30 (Operand.tmp 21) (Operand.tmp 22), type := 0, pos := "l11_fixed.go:57", after := #[{ on := 6, ground := Ground.data }, { on := 7, ground := Ground.data }], guard := none }
theorem hW4_8 : opsW4[8]? = some qW4_8 := by kernel_rfl
theorem lW4_8 : (LW4 8).setIfInBounds 8 true = LW4 9 := by kernel_rfl
theorem tW4_8 : RegT Try.prog opsW4 qW4_8 (some 23) 13 (LW4 8) (LW4 9) := regT hW4_8 rfl noselW4 (by kernel_rfl) (by kernel_rfl) lW4_8
def qW4_9 : Oper := { dst := some 24, op := Op.fieldAddr 38 (Operand.tmp 23) 1, type := 0, pos := "l11_fixed.go:57", after := #[{ on := 8, ground := Ground.data }], guard := none }
theorem hW4_9 : opsW4[9]? = some qW4_9 := by kernel_rfl
theorem lW4_9 : (LW4 9).setIfInBounds 9 true = LW4 10 := by kernel_rfl
theorem tW4_9 : RegT Try.prog opsW4 qW4_9 (some 24) 12 (LW4 9) (LW4 10) := regT hW4_9 rfl noselW4 (by kernel_rfl) (by kernel_rfl) lW4_9
def qW4_10 : Oper := { dst := some 25, op := Op.load 3 (Operand.tmp 24), type := 3, pos := "l11_fixed.go:57", after := #[{ on := 9, ground := Ground.data }], guard := none }
theorem hW4_10 : opsW4[10]? = some qW4_10 := by kernel_rfl
theorem lW4_10 : (LW4 10).setIfInBounds 10 true = LW4 11 := by kernel_rfl
theorem tW4_10 : RegT Try.prog opsW4 qW4_10 (some 25) 11 (LW4 10) (LW4 11) := regT hW4_10 rfl noselW4 (by kernel_rfl) (by kernel_rfl) lW4_10
def qW4_11 : Oper := { dst := some 26, op := Op.move (Operand.tmp 1), type := 30, pos := "l11_fixed.go:57", after := #[], guard := none }
theorem hW4_11 : opsW4[11]? = some qW4_11 := by kernel_rfl
theorem lW4_11 : (LW4 11).setIfInBounds 11 true = LW4 12 := by kernel_rfl
theorem tW4_11 : RegT Try.prog opsW4 qW4_11 (some 26) 10 (LW4 11) (LW4 12) := regT hW4_11 rfl noselW4 (by kernel_rfl) (by kernel_rfl) lW4_11
def qW4_12 : Oper := { dst := some 27, op := Op.move (Operand.tmp 5), type := 3, pos := "l11_fixed.go:57", after := #[], guard := none }
theorem hW4_12 : opsW4[12]? = some qW4_12 := by kernel_rfl
theorem lW4_12 : (LW4 12).setIfInBounds 12 true = LW4 13 := by kernel_rfl
theorem tW4_12 : RegT Try.prog opsW4 qW4_12 (some 27) 9 (LW4 12) (LW4 13) := regT hW4_12 rfl noselW4 (by kernel_rfl) (by kernel_rfl) lW4_12
def qW4_13 : Oper := { dst := some 28, op := Op.indexAddr 30 (Operand.tmp 26) (Operand.tmp 27), type := 0, pos := "l11_fixed.go:57", after := #[{ on := 11, ground := Ground.data }, { on := 12, ground := Ground.data }], guard := none }
theorem hW4_13 : opsW4[13]? = some qW4_13 := by kernel_rfl
theorem lW4_13 : (LW4 13).setIfInBounds 13 true = LW4 14 := by kernel_rfl
theorem tW4_13 : RegT Try.prog opsW4 qW4_13 (some 28) 8 (LW4 13) (LW4 14) := regT hW4_13 rfl noselW4 (by kernel_rfl) (by kernel_rfl) lW4_13
def qW4_14 : Oper := { dst := some 29, op := Op.fieldAddr 38 (Operand.tmp 28) 2, type := 0, pos := "l11_fixed.go:57", after := #[{ on := 13, ground := Ground.data }], guard := none }
theorem hW4_14 : opsW4[14]? = some qW4_14 := by kernel_rfl
theorem lW4_14 : (LW4 14).setIfInBounds 14 true = LW4 15 := by kernel_rfl
theorem tW4_14 : RegT Try.prog opsW4 qW4_14 (some 29) 7 (LW4 14) (LW4 15) := regT hW4_14 rfl noselW4 (by kernel_rfl) (by kernel_rfl) lW4_14
def qW4_15 : Oper := { dst := some 30, op := Op.load 3 (Operand.tmp 29), type := 3, pos := "l11_fixed.go:57", after := #[{ on := 14, ground := Ground.data }], guard := none }
theorem hW4_15 : opsW4[15]? = some qW4_15 := by kernel_rfl
theorem lW4_15 : (LW4 15).setIfInBounds 15 true = LW4 16 := by kernel_rfl
theorem tW4_15 : RegT Try.prog opsW4 qW4_15 (some 30) 6 (LW4 15) (LW4 16) := regT hW4_15 rfl noselW4 (by kernel_rfl) (by kernel_rfl) lW4_15
def qW4_16 : Oper := { dst := some 31, op := Op.call { callee := Callee.value (Operand.func 31), args := #[Operand.tmp 15, Operand.tmp 20, Operand.tmp 25, Operand.tmp 30], argTypes := #[30, 3, 3, 3] }, type := 53, pos := "l11_fixed.go:57", after := #[{ on := 0, ground := Ground.data }, { on := 5, ground := Ground.data }, { on := 10, ground := Ground.data }, { on := 15, ground := Ground.data }], guard := none }
theorem hW4_16 : opsW4[16]? = some qW4_16 := by kernel_rfl
theorem lW4_16 : (LW4 16).setIfInBounds 16 true = LW4 17 := by kernel_rfl
theorem cW4_16 : RegC Try.prog opsW4 qW4_16 (some 31) 5 (LW4 16) (LW4 17) := regC hW4_16 rfl (by kernel_rfl) lW4_16
def qW4_17 : Oper := { dst := some 14, op := Op.move (Operand.tmp 31), type := 53, pos := "l11_fixed.go:57", after := #[{ on := 16, ground := Ground.data }], guard := none }
theorem hW4_17 : opsW4[17]? = some qW4_17 := by kernel_rfl
theorem lW4_17 : (LW4 17).setIfInBounds 17 true = LW4 18 := by kernel_rfl
theorem tW4_17 : RegT Try.prog opsW4 qW4_17 (some 14) 4 (LW4 17) (LW4 18) := regT hW4_17 rfl noselW4 (by kernel_rfl) (by kernel_rfl) lW4_17
def qW4_18 : Oper := { dst := some 32, op := Op.extract (Operand.tmp 14) 0, type := 3, pos := "l11_fixed.go:57", after := #[{ on := 17, ground := Ground.data }], guard := none }
theorem hW4_18 : opsW4[18]? = some qW4_18 := by kernel_rfl
theorem lW4_18 : (LW4 18).setIfInBounds 18 true = LW4 19 := by kernel_rfl
theorem tW4_18 : RegT Try.prog opsW4 qW4_18 (some 32) 3 (LW4 18) (LW4 19) := regT hW4_18 rfl noselW4 (by kernel_rfl) (by kernel_rfl) lW4_18
def qW4_19 : Oper := { dst := some 33, op := Op.extract (Operand.tmp 14) 1, type := 4, pos := "l11_fixed.go:57", after := #[{ on := 17, ground := Ground.data }, { on := 20, ground := Ground.gcOnly Departure.lateStores }], guard := none }
theorem hW4_19 : opsW4[19]? = some qW4_19 := by kernel_rfl
theorem lW4_19 : (LW4 19).setIfInBounds 19 true = LW4 20 := by kernel_rfl
theorem tW4_19 : RegT Try.prog opsW4 qW4_19 (some 33) 2 (LW4 19) (LW4 20) := regT hW4_19 rfl noselW4 (by kernel_rfl) (by kernel_rfl) lW4_19
def qW4_20 : Oper := { dst := some 6, op := Op.assign (Operand.tmp 32), type := 3, pos := "l11_fixed.go:57", after := #[{ on := 18, ground := Ground.data }, { on := 16, ground := Ground.chain }, { on := 0, ground := Ground.phase }, { on := 1, ground := Ground.phase }, { on := 2, ground := Ground.phase }, { on := 3, ground := Ground.phase }, { on := 4, ground := Ground.phase }, { on := 5, ground := Ground.phase }, { on := 6, ground := Ground.phase }, { on := 7, ground := Ground.phase }, { on := 8, ground := Ground.phase }, { on := 9, ground := Ground.phase }, { on := 10, ground := Ground.phase }, { on := 11, ground := Ground.phase }, { on := 12, ground := Ground.phase }, { on := 13, ground := Ground.phase }, { on := 14, ground := Ground.phase }, { on := 15, ground := Ground.phase }, { on := 16, ground := Ground.phase }, { on := 17, ground := Ground.phase }, { on := 18, ground := Ground.phase }, { on := 19, ground := Ground.textOnly Departure.lateStores }], guard := none }
theorem hW4_20 : opsW4[20]? = some qW4_20 := by kernel_rfl
theorem lW4_20 : (LW4 20).setIfInBounds 20 true = LW4 21 := by kernel_rfl
theorem tW4_20 : RegT Try.prog opsW4 qW4_20 (some 6) 1 (LW4 20) (LW4 21) := regT hW4_20 rfl noselW4 (by kernel_rfl) (by kernel_rfl) lW4_20
def qW4_21 : Oper := { dst := some 7, op := Op.assign (Operand.tmp 33), type := 4, pos := "l11_fixed.go:57", after := #[{ on := 19, ground := Ground.data }, { on := 20, ground := Ground.chain }, { on := 0, ground := Ground.phase }, { on := 1, ground := Ground.phase }, { on := 2, ground := Ground.phase }, { on := 3, ground := Ground.phase }, { on := 4, ground := Ground.phase }, { on := 5, ground := Ground.phase }, { on := 6, ground := Ground.phase }, { on := 7, ground := Ground.phase }, { on := 8, ground := Ground.phase }, { on := 9, ground := Ground.phase }, { on := 10, ground := Ground.phase }, { on := 11, ground := Ground.phase }, { on := 12, ground := Ground.phase }, { on := 13, ground := Ground.phase }, { on := 14, ground := Ground.phase }, { on := 15, ground := Ground.phase }, { on := 16, ground := Ground.phase }, { on := 17, ground := Ground.phase }, { on := 18, ground := Ground.phase }, { on := 19, ground := Ground.phase }, { on := 20, ground := Ground.phase }], guard := none }
theorem hW4_21 : opsW4[21]? = some qW4_21 := by kernel_rfl
theorem lW4_21 : (LW4 21).setIfInBounds 21 true = LW4 22 := by kernel_rfl
theorem tW4_21 : RegT Try.prog opsW4 qW4_21 (some 7) 0 (LW4 21) (LW4 22) := regT hW4_21 rfl noselW4 (by kernel_rfl) (by kernel_rfl) lW4_21
end Go.Proofs.Ytbbagpnjjjohpaa.hexes

namespace Go.Proofs.Ytbbagpnjjjohpaa.hexes
open Go.RowKit

/-- What a round reads. -/
structure NwHeld (V : World) (b o : Nat) (p0 p1 p2 p3 : Int) (w : World) : Prop where
  c0 : w.cell? ⟨b, o, none⟩ = some (.int .i64 p0)
  c1 : w.cell? ⟨b, o + 1, none⟩ = some (.int .i64 p1)
  c2 : w.cell? ⟨b, o + 2, none⟩ = some (.int .i64 p2)
  c3 : w.cell? ⟨b, o + 3, none⟩ = some (.int .i64 p3)
  bel : Below V.heap.size V w
theorem NwHeld.below {V : World} {b o : Nat} {p0 p1 p2 p3 : Int} {w w' : World} (h : NwHeld V b o p0 p1 p2 p3 w) (hb : Below w.heap.size w w') : NwHeld V b o p0 p1 p2 p3 w' :=
  ⟨below_keep hb h.c0, below_keep hb h.c1, below_keep hb h.c2, below_keep hb h.c3, below_chain h.bel hb⟩

set_option maxRecDepth 1000000 in
set_option maxHeartbeats 8000000 in
theorem specNw_any (ys bs : List Ce) (A1 : Option Addr) (n1 c1 : Nat) (hl1 : ys.length = n1) (hn1 : n1 ≤ 2000000) (A2 : Option Addr) (n2 c2 : Nat) (hl2 : bs.length = n2) (hn2 : n2 ≤ 2000000) (w : World) (h1 : Ces w A1 ys) (h2 : Ces w A2 bs) :
    Calls Try.prog 26 #[.slice A1 n1 c1, .slice A2 n2 c2] w fun e w' => e = .returned (.bool (nwC ys bs)) ∧ Below w.heap.size w w' := by
  obtain ⟨q, hq⟩ : ∃ q, nwC ys bs = q := ⟨_, rfl⟩
  rw [hq]
  have HQ := Lib.hid hq
  have H1L := Lib.hid hl1
  have H2L := Lib.hid hl2
  have H1 := Lib.hid h1
  have H2 := Lib.hid h2
  clear hq hl1 hl2 h1 h2
  go_enter Try.func26, Try.ntmps26
  go_wp2_with fail
  go_loopw [5] (fun i wr => ∃ j : Nat, j ≤ n2 ∧ i = .int .i64 (j : Int) ∧ (bs.take j).all (nwB ys) = true ∧ Below w.heap.size w wr) (fun i _ => n2 - (intOf i).toNat)
  case atStart => exact ⟨0, Nat.zero_le _, rfl, by simp, Below.refl _ _⟩
  case round =>
    obtain ⟨j, hj, rfl, ht, hb⟩ := hrel
    have HT := Lib.hid ht
    have HB := Lib.hid hb
    clear ht hb
    by_cases hlt : j < n2
    · have lj : j < bs.length := by rw [H2L.out]; exact hlt
      obtain ⟨b1, o1, p0, p1, p2, p3, rfl, hz, e0, e1, e2, e3⟩ := (H2.out.below HB.out).at lj
      have i0 : (0 : Int) ≤ (j : Int) := by omega
      have i1 : (j : Int) < (n2 : Int) := by omega
      obtain ⟨l, lb, hlb⟩ : ∃ l b, leastC ys p0 p1 p2 = (l, b) := ⟨_, _, rfl⟩
      have HN := Lib.hid (show nwB ys bs[j] = (lb && decide (l ≤ p3)) by rw [hz]; unfold nwB; rw [hlb])
      have HLB := Lib.hid hlb
      have HLJ := Lib.hid lj
      clear hz hlb
      obtain ⟨V9, hV⟩ : ∃ v, wr.drew = v := ⟨_, rfl⟩
      have BV := Lib.hid (below_chain HB.out (show Below wr.heap.size wr V9 by rw [← hV]; exact (Below.refl _ _).drew))
      have HD := Lib.hid (show NwHeld V9 b1 (o1 + j * 4) p0 p1 p2 p3 V9 by rw [← hV]; exact ⟨e0, e1, e2, e3, Below.refl _ _⟩)
      clear e0 e1 e2 e3
      go_wp2_with fail
      refine wp_region_held_drew (S := NwHeld V9 b1 (o1 + j * 4) p0 p1 p2 p3) (by kernel_rfl) ?_ (fun hHeld => ?_)
      · skip
        rw [hV]; exact HD.out
      change wpAnyH _ _ opsW4 _ _ 22 (LW4 0) _ _
      rw [hV] at hHeld ⊢
      clear hV
      refine regY tW4_0 (.slice A1 n1 c1) (fun W hSw => by unfold qW4_0; go_simp) hHeld ?_
      try simp only [pt, List.set]
      refine regY tW4_1 (.slice (some ⟨b1, o1, none⟩) n2 c2) (fun W hSw => by unfold qW4_1; go_simp) hHeld ?_
      try simp only [pt, List.set]
      refine regY tW4_2 (.int .i64 (j : Int)) (fun W hSw => by unfold qW4_2; go_simp) hHeld ?_
      try simp only [pt, List.set]
      refine regY tW4_3 (.pointer (some ⟨b1, o1 + j * 4, none⟩)) (fun W hSw => by unfold qW4_3; go_simp) hHeld ?_
      try simp only [pt, List.set]
      refine regY tW4_4 (.pointer (some ⟨b1, o1 + j * 4, none⟩)) (fun W hSw => by unfold qW4_4; go_simp) hHeld ?_
      try simp only [pt, List.set]
      refine regY tW4_5 (.int .i64 p0) (fun W hSw => by unfold qW4_5; obtain ⟨c0, c1, c2, c3, _⟩ := hSw; go_simp) hHeld ?_
      try simp only [pt, List.set]
      refine regY tW4_6 (.slice (some ⟨b1, o1, none⟩) n2 c2) (fun W hSw => by unfold qW4_6; go_simp) hHeld ?_
      try simp only [pt, List.set]
      refine regY tW4_7 (.int .i64 (j : Int)) (fun W hSw => by unfold qW4_7; go_simp) hHeld ?_
      try simp only [pt, List.set]
      refine regY tW4_8 (.pointer (some ⟨b1, o1 + j * 4, none⟩)) (fun W hSw => by unfold qW4_8; go_simp) hHeld ?_
      try simp only [pt, List.set]
      refine regY tW4_9 (.pointer (some ⟨b1, o1 + j * 4 + 1, none⟩)) (fun W hSw => by unfold qW4_9; go_simp) hHeld ?_
      try simp only [pt, List.set]
      refine regY tW4_10 (.int .i64 p1) (fun W hSw => by unfold qW4_10; obtain ⟨c0, c1, c2, c3, _⟩ := hSw; go_simp) hHeld ?_
      try simp only [pt, List.set]
      refine regY tW4_11 (.slice (some ⟨b1, o1, none⟩) n2 c2) (fun W hSw => by unfold qW4_11; go_simp) hHeld ?_
      try simp only [pt, List.set]
      refine regY tW4_12 (.int .i64 (j : Int)) (fun W hSw => by unfold qW4_12; go_simp) hHeld ?_
      try simp only [pt, List.set]
      refine regY tW4_13 (.pointer (some ⟨b1, o1 + j * 4, none⟩)) (fun W hSw => by unfold qW4_13; go_simp) hHeld ?_
      try simp only [pt, List.set]
      refine regY tW4_14 (.pointer (some ⟨b1, o1 + j * 4 + 2, none⟩)) (fun W hSw => by unfold qW4_14; go_simp) hHeld ?_
      try simp only [pt, List.set]
      refine regY tW4_15 (.int .i64 p2) (fun W hSw => by unfold qW4_15; obtain ⟨c0, c1, c2, c3, _⟩ := hSw; go_simp) hHeld ?_
      try simp only [pt, List.set]
      refine cW4_16 (fun K hK => ?_)
      rw [if_pos (by rfl)]
      unfold qW4_16
      go_simp
      refine (specLeast_is H1L.out HLB.out (by omega) _ (H1.out.below (below_chain BV.out hHeld.bel)) (c := c1)).mono ?_
      rintro e w5 ⟨rfl, bq⟩
      refine Shut.out hK _ _ ?_ (fun hHeld => ?_)
      · exact hHeld.below bq
      clear hK K
      try simp only [pt, List.set]
      refine regY tW4_17 (.tuple #[.int .i64 l, .bool lb]) (fun W hSw => by unfold qW4_17; go_simp) hHeld ?_
      try simp only [pt, List.set]
      refine regY tW4_18 (.int .i64 l) (fun W hSw => by unfold qW4_18; go_simp) hHeld ?_
      try simp only [pt, List.set]
      refine regY tW4_19 (.bool lb) (fun W hSw => by unfold qW4_19; go_simp) hHeld ?_
      try simp only [pt, List.set]
      refine regY tW4_20 (.int .i64 l) (fun W hSw => by unfold qW4_20; go_simp) hHeld ?_
      try simp only [pt, List.set]
      refine regY tW4_21 (.bool lb) (fun W hSw => by unfold qW4_21; go_simp) hHeld ?_
      try simp only [pt, List.set]
      refine wpAnyH_done (by kernel_rfl) ?_ _
      have d3 := hHeld.c3
      have BE := Lib.hid (below_chain BV.out hHeld.bel)
      clear hHeld HD BV HB
      cases lb with
      | false =>
        obtain rfl : q = false := by rw [← HQ.out, nwC_eq]; exact all_off HLJ.out (by rw [HN.out]; rfl)
        go_wp2
        go_ret
        exact ⟨rfl, BE.out⟩
      | true =>
        by_cases hle : l ≤ p3
        · have dg : decide (p3 < l) = false := by simp; omega
          have HT2 := Lib.hid (all_on HLJ.out HT.out (by rw [HN.out]; simp [hle]))
          clear hle HT HN
          go_wp2
          go_roundw
          case rel => exact ⟨j + 1, by omega, by go_num, HT2.out, BE.out⟩
          case measure => simp [intOf]; omega
        · have dg : decide (p3 < l) = true := by simp; omega
          obtain rfl : q = false := by rw [← HQ.out, nwC_eq]; exact all_off HLJ.out (by rw [HN.out]; simp [hle])
          clear hle HT HN
          go_wp2
          go_ret
          exact ⟨rfl, BE.out⟩
    · obtain rfl : j = n2 := by omega
      obtain rfl : q = true := by rw [← HQ.out, nwC_eq]; exact all_whole (Nat.le_of_eq H2L.out) HT.out
      have dl : decide (j < j) = false := by simp
      clear hlt
      go_wp2
      go_ret
      exact ⟨rfl, HB.out⟩
theorem specNw_is {ys bs : List Ce} {q : Bool} (hq : nwC ys bs = q) {A1 : Option Addr} {n1 c1 : Nat} (hl1 : ys.length = n1) (hn1 : n1 ≤ 2000000) {A2 : Option Addr} {n2 c2 : Nat} (hl2 : bs.length = n2) (hn2 : n2 ≤ 2000000) (w : World) (h1 : Ces w A1 ys) (h2 : Ces w A2 bs) :
    Calls Try.prog 26 #[.slice A1 n1 c1, .slice A2 n2 c2] w fun e w' => e = .returned (.bool q) ∧ Below w.heap.size w w' := by
  subst hq; exact specNw_any ys bs A1 n1 c1 hl1 hn1 A2 n2 c2 hl2 hn2 w h1 h2
end Go.Proofs.Ytbbagpnjjjohpaa.hexes

