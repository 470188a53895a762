/-
  The reference's NoWorse: the contract of spec.NoWorse.
  A statement of spec.IsClosed: its operations, and a theorem a step.
  The reference's IsClosed: the contract of spec.IsClosed.
-/
import Derived.Test.YtbbagpnjjjohpaaK7
import Derived.Test.YtbbagpnjjjohpaaK15
import Derived.Test.YtbbagpnjjjohpaaK30
import Derived.Test.YtbbagpnjjjohpaaK10
import Derived.Test.YtbbagpnjjjohpaaK26

namespace Go.Proofs.Ytbbagpnjjjohpaa.hexes
open Go.RowKit

/-- What a round reads. -/
structure NwHeld (V : World) (b o : Nat) (p0 p1 p2 p3 : Int) (w : World) : Prop where
  c0 : w.cell? ⟨b, o, none⟩ = some (.int .i64 p0)
  c1 : w.cell? ⟨b, o + 1, none⟩ = some (.int .i64 p1)
  c2 : w.cell? ⟨b, o + 2, none⟩ = some (.int .i64 p2)
  c3 : w.cell? ⟨b, o + 3, none⟩ = some (.int .i64 p3)
  bel : Below V.heap.size V w
theorem NwHeld.below {V : World} {b o : Nat} {p0 p1 p2 p3 : Int} {w w' : World} (h : NwHeld V b o p0 p1 p2 p3 w) (hb : Below w.heap.size w w') : NwHeld V b o p0 p1 p2 p3 w' :=
  ⟨below_keep hb h.c0, below_keep hb h.c1, below_keep hb h.c2, below_keep hb h.c3, below_chain h.bel hb⟩

set_option maxRecDepth 1000000 in
set_option maxHeartbeats 8000000 in
theorem specNw_any (ys bs : List Ce) (A1 : Option Addr) (n1 c1 : Nat) (hl1 : ys.length = n1) (hn1 : n1 ≤ 2000000) (A2 : Option Addr) (n2 c2 : Nat) (hl2 : bs.length = n2) (hn2 : n2 ≤ 2000000) (w : World) (h1 : Ces w A1 ys) (h2 : Ces w A2 bs) :
    Calls Try.prog 26 #[.slice A1 n1 c1, .slice A2 n2 c2] w fun e w' => e = .returned (.bool (nwC ys bs)) ∧ Below w.heap.size w w' := by
  obtain ⟨q, hq⟩ : ∃ q, nwC ys bs = q := ⟨_, rfl⟩
  rw [hq]
  have HQ := Lib.hid hq
  have H1L := Lib.hid hl1
  have H2L := Lib.hid hl2
  have H1 := Lib.hid h1
  have H2 := Lib.hid h2
  clear hq hl1 hl2 h1 h2
  go_enter Try.func26, Try.ntmps26
  go_wp2_with fail
  go_loopw [5] (fun i wr => ∃ j : Nat, j ≤ n2 ∧ i = .int .i64 (j : Int) ∧ (bs.take j).all (nwB ys) = true ∧ Below w.heap.size w wr) (fun i _ => n2 - (intOf i).toNat)
  case atStart => exact ⟨0, Nat.zero_le _, rfl, by simp, Below.refl _ _⟩
  case round =>
    obtain ⟨j, hj, rfl, ht, hb⟩ := hrel
    have HT := Lib.hid ht
    have HB := Lib.hid hb
    clear ht hb
    by_cases hlt : j < n2
    · have lj : j < bs.length := by rw [H2L.out]; exact hlt
      obtain ⟨b1, o1, p0, p1, p2, p3, rfl, hz, e0, e1, e2, e3⟩ := (H2.out.below HB.out).at lj
      have i0 : (0 : Int) ≤ (j : Int) := by omega
      have i1 : (j : Int) < (n2 : Int) := by omega
      obtain ⟨l, lb, hlb⟩ : ∃ l b, leastC ys p0 p1 p2 = (l, b) := ⟨_, _, rfl⟩
      have HN := Lib.hid (show nwB ys bs[j] = (lb && decide (l ≤ p3)) by rw [hz]; unfold nwB; rw [hlb])
      have HLB := Lib.hid hlb
      have HLJ := Lib.hid lj
      clear hz hlb
      obtain ⟨V9, hV⟩ : ∃ v, wr.drew = v := ⟨_, rfl⟩
      have BV := Lib.hid (below_chain HB.out (show Below wr.heap.size wr V9 by rw [← hV]; exact (Below.refl _ _).drew))
      have HD := Lib.hid (show NwHeld V9 b1 (o1 + j * 4) p0 p1 p2 p3 V9 by rw [← hV]; exact ⟨e0, e1, e2, e3, Below.refl _ _⟩)
      clear e0 e1 e2 e3
      go_wp2_with fail
      refine wp_region_held_drew (S := NwHeld V9 b1 (o1 + j * 4) p0 p1 p2 p3) (by kernel_rfl) ?_ (fun hHeld => ?_)
      · skip
        rw [hV]; exact HD.out
      change wpAnyH _ _ opsW4 _ _ 22 (LW4 0) _ _
      rw [hV] at hHeld ⊢
      clear hV
      refine regY tW4_0 (.slice A1 n1 c1) (fun W hSw => by unfold qW4_0; go_simp) hHeld ?_
      try simp only [pt, List.set]
      refine regY tW4_1 (.slice (some ⟨b1, o1, none⟩) n2 c2) (fun W hSw => by unfold qW4_1; go_simp) hHeld ?_
      try simp only [pt, List.set]
      refine regY tW4_2 (.int .i64 (j : Int)) (fun W hSw => by unfold qW4_2; go_simp) hHeld ?_
      try simp only [pt, List.set]
      refine regY tW4_3 (.pointer (some ⟨b1, o1 + j * 4, none⟩)) (fun W hSw => by unfold qW4_3; go_simp) hHeld ?_
      try simp only [pt, List.set]
      refine regY tW4_4 (.pointer (some ⟨b1, o1 + j * 4, none⟩)) (fun W hSw => by unfold qW4_4; go_simp) hHeld ?_
      try simp only [pt, List.set]
      refine regY tW4_5 (.int .i64 p0) (fun W hSw => by unfold qW4_5; obtain ⟨c0, c1, c2, c3, _⟩ := hSw; go_simp) hHeld ?_
      try simp only [pt, List.set]
      refine regY tW4_6 (.slice (some ⟨b1, o1, none⟩) n2 c2) (fun W hSw => by unfold qW4_6; go_simp) hHeld ?_
      try simp only [pt, List.set]
      refine regY tW4_7 (.int .i64 (j : Int)) (fun W hSw => by unfold qW4_7; go_simp) hHeld ?_
      try simp only [pt, List.set]
      refine regY tW4_8 (.pointer (some ⟨b1, o1 + j * 4, none⟩)) (fun W hSw => by unfold qW4_8; go_simp) hHeld ?_
      try simp only [pt, List.set]
      refine regY tW4_9 (.pointer (some ⟨b1, o1 + j * 4 + 1, none⟩)) (fun W hSw => by unfold qW4_9; go_simp) hHeld ?_
      try simp only [pt, List.set]
      refine regY tW4_10 (.int .i64 p1) (fun W hSw => by unfold qW4_10; obtain ⟨c0, c1, c2, c3, _⟩ := hSw; go_simp) hHeld ?_
      try simp only [pt, List.set]
      refine regY tW4_11 (.slice (some ⟨b1, o1, none⟩) n2 c2) (fun W hSw => by unfold qW4_11; go_simp) hHeld ?_
      try simp only [pt, List.set]
      refine regY tW4_12 (.int .i64 (j : Int)) (fun W hSw => by unfold qW4_12; go_simp) hHeld ?_
      try simp only [pt, List.set]
      refine regY tW4_13 (.pointer (some ⟨b1, o1 + j * 4, none⟩)) (fun W hSw => by unfold qW4_13; go_simp) hHeld ?_
      try simp only [pt, List.set]
      refine regY tW4_14 (.pointer (some ⟨b1, o1 + j * 4 + 2, none⟩)) (fun W hSw => by unfold qW4_14; go_simp) hHeld ?_
      try simp only [pt, List.set]
      refine regY tW4_15 (.int .i64 p2) (fun W hSw => by unfold qW4_15; obtain ⟨c0, c1, c2, c3, _⟩ := hSw; go_simp) hHeld ?_
      try simp only [pt, List.set]
      refine cW4_16 (fun K hK => ?_)
      rw [if_pos (by rfl)]
      unfold qW4_16
      go_simp
      refine (specLeast_is H1L.out HLB.out (by omega) _ (H1.out.below (below_chain BV.out hHeld.bel)) (c := c1)).mono ?_
      rintro e w5 ⟨rfl, bq⟩
      refine Shut.out hK _ _ ?_ (fun hHeld => ?_)
      · exact hHeld.below bq
      clear hK K
      try simp only [pt, List.set]
      refine regY tW4_17 (.tuple #[.int .i64 l, .bool lb]) (fun W hSw => by unfold qW4_17; go_simp) hHeld ?_
      try simp only [pt, List.set]
      refine regY tW4_18 (.int .i64 l) (fun W hSw => by unfold qW4_18; go_simp) hHeld ?_
      try simp only [pt, List.set]
      refine regY tW4_19 (.bool lb) (fun W hSw => by unfold qW4_19; go_simp) hHeld ?_
      try simp only [pt, List.set]
      refine regY tW4_20 (.int .i64 l) (fun W hSw => by unfold qW4_20; go_simp) hHeld ?_
      try simp only [pt, List.set]
      refine regY tW4_21 (.bool lb) (fun W hSw => by unfold qW4_21; go_simp) hHeld ?_
      try simp only [pt, List.set]
      refine wpAnyH_done (by kernel_rfl) ?_ _
      have d3 := hHeld.c3
      have BE := Lib.hid (below_chain BV.out hHeld.bel)
      clear hHeld HD BV HB
      cases lb with
      | false =>
        obtain rfl : q = false := by rw [← HQ.out, nwC_eq]; exact all_off HLJ.out (by rw [HN.out]; rfl)
        go_wp2
        go_ret
        exact ⟨rfl, BE.out⟩
      | true =>
        by_cases hle : l ≤ p3
        · have dg : decide (p3 < l) = false := by simp; omega
          have HT2 := Lib.hid (all_on HLJ.out HT.out (by rw [HN.out]; simp [hle]))
          clear hle HT HN
          go_wp2
          go_roundw
          case rel => exact ⟨j + 1, by omega, by go_num, HT2.out, BE.out⟩
          case measure => simp [intOf]; omega
        · have dg : decide (p3 < l) = true := by simp; omega
          obtain rfl : q = false := by rw [← HQ.out, nwC_eq]; exact all_off HLJ.out (by rw [HN.out]; simp [hle])
          clear hle HT HN
          go_wp2
          go_ret
          exact ⟨rfl, BE.out⟩
    · obtain rfl : j = n2 := by omega
      obtain rfl : q = true := by rw [← HQ.out, nwC_eq]; exact all_whole (Nat.le_of_eq H2L.out) HT.out
      have dl : decide (j < j) = false := by simp
      clear hlt
      go_wp2
      go_ret
      exact ⟨rfl, HB.out⟩
theorem specNw_is {ys bs : List Ce} {q : Bool} (hq : nwC ys bs = q) {A1 : Option Addr} {n1 c1 : Nat} (hl1 : ys.length = n1) (hn1 : n1 ≤ 2000000) {A2 : Option Addr} {n2 c2 : Nat} (hl2 : bs.length = n2) (hn2 : n2 ≤ 2000000) (w : World) (h1 : Ces w A1 ys) (h2 : Ces w A2 bs) :
    Calls Try.prog 26 #[.slice A1 n1 c1, .slice A2 n2 c2] w fun e w' => e = .returned (.bool q) ∧ Below w.heap.size w w' := by
  subst hq; exact specNw_any ys bs A1 n1 c1 hl1 hn1 A2 n2 c2 hl2 hn2 w h1 h2
end Go.Proofs.Ytbbagpnjjjohpaa.hexes

namespace Go.Proofs.Ytbbagpnjjjohpaa.hexes
open Go.RowKit

def findJ4C (n : Nat) : Code → Option Code
  | .region id ops d => if id = n then some (.region id ops d) else none
  | .seq a b => match findJ4C n a with
    | some c => some c
    | none => findJ4C n b
  | .block _ c => findJ4C n c
  | .scope c => findJ4C n c
  | .loop c => findJ4C n c
  | .cond _ a b => match findJ4C n a with
    | some c => some c
    | none => findJ4C n b
  | _ => none
def opsOfJ4C : Option Code → Array Oper
  | some (.region _ ops _) => ops
  | _ => #[]
noncomputable def opsJ4C : Array Oper := opsOfJ4C (Try.f24.body.bind (findJ4C 4))
def schJ4C : List Nat := [0, 2, 3, 4, 5, 1, 6, 7, 8, 9, 10, 11]
def LJ4C (k : Nat) : Array Bool := ((List.range 12).map fun i => (schJ4C.take k).contains i).toArray
theorem noselJ4C : Region.noSelect opsJ4C = true := by kernel_rfl
def qJ4C_0 : Oper := { dst := some 15, op := Op.load 26 (Operand.tmp 2), type := 26, pos := "l11_fixed.go:67", after := #[], guard := none }
theorem hJ4C_0 : opsJ4C[0]? = some qJ4C_0 := by kernel_rfl
theorem lJ4C_0 : (LJ4C 0).setIfInBounds 0 true = LJ4C 1 := by kernel_rfl
theorem tJ4C_0 : RegT Try.prog opsJ4C qJ4C_0 (some 15) 11 (LJ4C 0) (LJ4C 1) := regT hJ4C_0 rfl noselJ4C (by kernel_rfl) (by kernel_rfl) lJ4C_0
def qJ4C_2 : Oper := { dst := some 17, op := Op.move (Operand.tmp 1), type := 30, pos := "l11_fixed.go:67", after := #[], guard := none }
theorem hJ4C_2 : opsJ4C[2]? = some qJ4C_2 := by kernel_rfl
theorem lJ4C_1 : (LJ4C 1).setIfInBounds 2 true = LJ4C 2 := by kernel_rfl
theorem tJ4C_1 : RegT Try.prog opsJ4C qJ4C_2 (some 17) 10 (LJ4C 1) (LJ4C 2) := regT hJ4C_2 rfl noselJ4C (by kernel_rfl) (by kernel_rfl) lJ4C_1
def qJ4C_3 : Oper := { dst := some 18, op := Op.move (Operand.tmp 5), type := 3, pos := "l11_fixed.go:67", after := #[], guard := none }
theorem hJ4C_3 : opsJ4C[3]? = some qJ4C_3 := by kernel_rfl
theorem lJ4C_2 : (LJ4C 2).setIfInBounds 3 true = LJ4C 3 := by kernel_rfl
theorem tJ4C_2 : RegT Try.prog opsJ4C qJ4C_3 (some 18) 9 (LJ4C 2) (LJ4C 3) := regT hJ4C_3 rfl noselJ4C (by kernel_rfl) (by kernel_rfl) lJ4C_2
def qJ4C_4 : Oper := { dst := some 19, op := Op.indexAddr 30 (Operand.tmp 17) (Operand.tmp 18), type := 0, pos := "l11_fixed.go:67", after := #[{ on := 2, ground := Ground.data }, { on := 3, ground := Ground.data }], guard := none }
theorem hJ4C_4 : opsJ4C[4]? = some qJ4C_4 := by kernel_rfl
theorem lJ4C_3 : (LJ4C 3).setIfInBounds 4 true = LJ4C 4 := by kernel_rfl
theorem tJ4C_3 : RegT Try.prog opsJ4C qJ4C_4 (some 19) 8 (LJ4C 3) (LJ4C 4) := regT hJ4C_4 rfl noselJ4C (by kernel_rfl) (by kernel_rfl) lJ4C_3
def qJ4C_5 : Oper := { dst := some 20, op := Op.load 38 (Operand.tmp 19), type := 38, pos := "l11_fixed.go:67", after := #[{ on := 4, ground := Ground.data }], guard := none }
theorem hJ4C_5 : opsJ4C[5]? = some qJ4C_5 := by kernel_rfl
theorem lJ4C_4 : (LJ4C 4).setIfInBounds 5 true = LJ4C 5 := by kernel_rfl
theorem tJ4C_4 : RegT Try.prog opsJ4C qJ4C_5 (some 20) 7 (LJ4C 4) (LJ4C 5) := regT hJ4C_5 rfl noselJ4C (by kernel_rfl) (by kernel_rfl) lJ4C_4
def qJ4C_1 : Oper := { dst := some 16, op := Op.buildSlice 30 0 #[], type := 30, pos := "l11_fixed.go:67", after := #[], guard := none }
theorem hJ4C_1 : opsJ4C[1]? = some qJ4C_1 := by kernel_rfl
theorem lJ4C_5 : (LJ4C 5).setIfInBounds 1 true = LJ4C 6 := by kernel_rfl
theorem cJ4C_5 : RegC Try.prog opsJ4C qJ4C_1 (some 16) 6 (LJ4C 5) (LJ4C 6) := regC hJ4C_1 rfl (by kernel_rfl) lJ4C_5
def qJ4C_6 : Oper := { dst := some 21, op := Op.call { callee := Callee.value (Operand.func 22), args := #[Operand.tmp 15, Operand.tmp 16, Operand.tmp 20], argTypes := #[26, 30, 38] }, type := 35, pos := "l11_fixed.go:67", after := #[{ on := 0, ground := Ground.data }, { on := 1, ground := Ground.data }, { on := 5, ground := Ground.data }], guard := none }
theorem hJ4C_6 : opsJ4C[6]? = some qJ4C_6 := by kernel_rfl
theorem lJ4C_6 : (LJ4C 6).setIfInBounds 6 true = LJ4C 7 := by kernel_rfl
theorem cJ4C_6 : RegC Try.prog opsJ4C qJ4C_6 (some 21) 5 (LJ4C 6) (LJ4C 7) := regC hJ4C_6 rfl (by kernel_rfl) lJ4C_6
def qJ4C_7 : Oper := { dst := some 14, op := Op.move (Operand.tmp 21), type := 35, pos := "l11_fixed.go:67", after := #[{ on := 6, ground := Ground.data }], guard := none }
theorem hJ4C_7 : opsJ4C[7]? = some qJ4C_7 := by kernel_rfl
theorem lJ4C_7 : (LJ4C 7).setIfInBounds 7 true = LJ4C 8 := by kernel_rfl
theorem tJ4C_7 : RegT Try.prog opsJ4C qJ4C_7 (some 14) 4 (LJ4C 7) (LJ4C 8) := regT hJ4C_7 rfl noselJ4C (by kernel_rfl) (by kernel_rfl) lJ4C_7
def qJ4C_8 : Oper := { dst := some 22, op := Op.extract (Operand.tmp 14) 0, type := 30, pos := "l11_fixed.go:67", after := #[{ on := 7, ground := Ground.data }], guard := none }
theorem hJ4C_8 : opsJ4C[8]? = some qJ4C_8 := by kernel_rfl
theorem lJ4C_8 : (LJ4C 8).setIfInBounds 8 true = LJ4C 9 := by kernel_rfl
theorem tJ4C_8 : RegT Try.prog opsJ4C qJ4C_8 (some 22) 3 (LJ4C 8) (LJ4C 9) := regT hJ4C_8 rfl noselJ4C (by kernel_rfl) (by kernel_rfl) lJ4C_8
def qJ4C_9 : Oper := { dst := some 23, op := Op.extract (Operand.tmp 14) 1, type := 30, pos := "l11_fixed.go:67", after := #[{ on := 7, ground := Ground.data }, { on := 10, ground := Ground.gcOnly Departure.lateStores }], guard := none }
theorem hJ4C_9 : opsJ4C[9]? = some qJ4C_9 := by kernel_rfl
theorem lJ4C_9 : (LJ4C 9).setIfInBounds 9 true = LJ4C 10 := by kernel_rfl
theorem tJ4C_9 : RegT Try.prog opsJ4C qJ4C_9 (some 23) 2 (LJ4C 9) (LJ4C 10) := regT hJ4C_9 rfl noselJ4C (by kernel_rfl) (by kernel_rfl) lJ4C_9
def qJ4C_10 : Oper := { dst := some 6, op := Op.assign (Operand.tmp 22), type := 30, pos := "l11_fixed.go:67", after := #[{ on := 8, ground := Ground.data }, { on := 6, ground := Ground.chain }, { on := 0, ground := Ground.phase }, { on := 1, ground := Ground.phase }, { on := 2, ground := Ground.phase }, { on := 3, ground := Ground.phase }, { on := 4, ground := Ground.phase }, { on := 5, ground := Ground.phase }, { on := 6, ground := Ground.phase }, { on := 7, ground := Ground.phase }, { on := 8, ground := Ground.phase }, { on := 9, ground := Ground.textOnly Departure.lateStores }], guard := none }
theorem hJ4C_10 : opsJ4C[10]? = some qJ4C_10 := by kernel_rfl
theorem lJ4C_10 : (LJ4C 10).setIfInBounds 10 true = LJ4C 11 := by kernel_rfl
theorem tJ4C_10 : RegT Try.prog opsJ4C qJ4C_10 (some 6) 1 (LJ4C 10) (LJ4C 11) := regT hJ4C_10 rfl noselJ4C (by kernel_rfl) (by kernel_rfl) lJ4C_10
def qJ4C_11 : Oper := { dst := some 7, op := Op.assign (Operand.tmp 23), type := 30, pos := "l11_fixed.go:67", after := #[{ on := 9, ground := Ground.data }, { on := 10, ground := Ground.chain }, { on := 0, ground := Ground.phase }, { on := 1, ground := Ground.phase }, { on := 2, ground := Ground.phase }, { on := 3, ground := Ground.phase }, { on := 4, ground := Ground.phase }, { on := 5, ground := Ground.phase }, { on := 6, ground := Ground.phase }, { on := 7, ground := Ground.phase }, { on := 8, ground := Ground.phase }, { on := 9, ground := Ground.phase }, { on := 10, ground := Ground.phase }], guard := none }
theorem hJ4C_11 : opsJ4C[11]? = some qJ4C_11 := by kernel_rfl
theorem lJ4C_11 : (LJ4C 11).setIfInBounds 11 true = LJ4C 12 := by kernel_rfl
theorem tJ4C_11 : RegT Try.prog opsJ4C qJ4C_11 (some 7) 0 (LJ4C 11) (LJ4C 12) := regT hJ4C_11 rfl noselJ4C (by kernel_rfl) (by kernel_rfl) lJ4C_11
end Go.Proofs.Ytbbagpnjjjohpaa.hexes

namespace Go.Proofs.Ytbbagpnjjjohpaa.hexes
open Go.RowKit

/-- What a round reads. -/
structure ClHeld (V : World) (g : Nat) (A : Option Addr) (n c : Nat) (wk cp : Int) (b o : Nat) (p0 p1 p2 p3 : Int) (w : World) : Prop where
  g0 : w.cell? ⟨g, 0, none⟩ = some (.slice A n c)
  g1 : w.cell? ⟨g, 1, none⟩ = some (.int .i64 wk)
  g2 : w.cell? ⟨g, 2, none⟩ = some (.int .i64 cp)
  c0 : w.cell? ⟨b, o, none⟩ = some (.int .i64 p0)
  c1 : w.cell? ⟨b, o + 1, none⟩ = some (.int .i64 p1)
  c2 : w.cell? ⟨b, o + 2, none⟩ = some (.int .i64 p2)
  c3 : w.cell? ⟨b, o + 3, none⟩ = some (.int .i64 p3)
  bel : Below V.heap.size V w
theorem ClHeld.below {V : World} {g : Nat} {A : Option Addr} {n c : Nat} {wk cp : Int} {b o : Nat} {p0 p1 p2 p3 : Int} {w w' : World} (h : ClHeld V g A n c wk cp b o p0 p1 p2 p3 w) (hb : Below w.heap.size w w') : ClHeld V g A n c wk cp b o p0 p1 p2 p3 w' :=
  ⟨below_keep hb h.g0, below_keep hb h.g1, below_keep hb h.g2, below_keep hb h.c0, below_keep hb h.c1, below_keep hb h.c2, below_keep hb h.c3, below_chain h.bel hb⟩

set_option maxRecDepth 1000000 in
set_option maxHeartbeats 8000000 in
theorem specCl_any (gs : List Nd) (wk cp : Int) (A : Option Addr) (n c : Nat) (hl : gs.length = n) (ho : ∀ x ∈ gs, x.2.2.2.length ≤ 1048576) (hn : n ≤ 1048576) (bs : List Ce) (A2 : Option Addr) (n2 c2 : Nat) (hl2 : bs.length = n2) (hn2 : n2 ≤ 2000000) (w : World) (h : Nds w A gs) (h2 : Ces w A2 bs) :
    Calls Try.prog 24 #[.agg #[.slice A n c, .int .i64 wk, .int .i64 cp], .slice A2 n2 c2] w fun e w' => e = .returned (.bool (closedG gs wk cp bs)) ∧ Below w.heap.size w w' := by
  obtain ⟨q, hq⟩ : ∃ q, closedG gs wk cp bs = q := ⟨_, rfl⟩
  rw [hq]
  obtain ⟨gk, hgk⟩ : ∃ q, okGr gs dec1 wk cp = q := ⟨_, rfl⟩
  have HQ := Lib.hid (show q = (bs.all (clB gs wk cp bs) && gk) by rw [← hq, closedG_eq, hgk])
  have HGK := Lib.hid hgk
  have HL := Lib.hid hl
  have HO := Lib.hid ho
  have H2L := Lib.hid hl2
  have S0 := Lib.hid h
  have H2 := Lib.hid h2
  clear hq hgk hl ho hl2 h h2
  obtain ⟨V, hW⟩ : ∃ z, (w.alloc (.cells #[.slice A n c, .int .i64 wk, .int .i64 cp] 26)) = z := ⟨_, rfl⟩
  have hb : Below w.heap.size w V := by rw [← hW]; exact ((Below.refl _ _).alloc (by first | (simp; done) | (simp; omega) | omega) _)
  have az : V.heap.size = w.heap.size + 1 := by rw [← hW]; simp
  have NG := Lib.hid (show Blk V (w.heap.size) 26 #[.slice A n c, .int .i64 wk, .int .i64 cp] by rw [← hW]; exact (Blk.new _ _ _))
  have AZV := Lib.hid az
  clear az
  have sz1 := hb.size
  have B1 := Lib.hid (hb)
  clear hb
  have G_1 := NG
  clear NG
  have ltG : w.heap.size < V.heap.size := G_1.out.lt
  go_enter Try.func24, Try.ntmps24
  go_wp2_with fail
  clear hW
  go_loopw [5] (fun i wr => ∃ j : Nat, j ≤ n2 ∧ i = .int .i64 (j : Int) ∧ (bs.take j).all (clB gs wk cp bs) = true ∧ Below V.heap.size V wr) (fun i _ => n2 - (intOf i).toNat)
  case atStart => exact ⟨0, Nat.zero_le _, rfl, by simp, Below.refl _ _⟩
  case round =>
    obtain ⟨j, hj, rfl, ht, hb⟩ := hrel
    have HT := Lib.hid ht
    have GR := Lib.hid (G_1.out.below hb)
    have HB := Lib.hid (below_chain B1.out hb)
    have HB0 := Lib.hid hb
    clear ht hb
    by_cases hlt : j < n2
    · have lj : j < bs.length := by rw [H2L.out]; exact hlt
      obtain ⟨b1, o1, p0, p1, p2, p3, rfl, hz, e0, e1, e2, e3⟩ := (H2.out.below HB.out).at lj
      have i0 : (0 : Int) ≤ (j : Int) := by omega
      have i1 : (j : Int) < (n2 : Int) := by omega
      obtain ⟨more, hmo⟩ : ∃ m, (impG gs wk cp [] (p0, p1, p2, p3)).2 = m := ⟨_, rfl⟩
      obtain ⟨nb, hnb⟩ : ∃ q, nwC bs more = q := ⟨_, rfl⟩
      have HN := Lib.hid (show clB gs wk cp bs bs[j] = nb by rw [hz]; unfold clB; rw [hmo, hnb])
      have lm : more.length ≤ 2 := by rw [← hmo]; exact impG_more _ _ _ _ _
      have HIM := Lib.hid hmo
      have HNB := Lib.hid hnb
      have HLJ := Lib.hid lj
      clear hz hmo hnb
      obtain ⟨V9, hV⟩ : ∃ v, wr.drew = v := ⟨_, rfl⟩
      have BV := Lib.hid (below_chain HB.out (show Below wr.heap.size wr V9 by rw [← hV]; exact (Below.refl _ _).drew))
      have BV0 := Lib.hid (below_chain HB0.out (show Below wr.heap.size wr V9 by rw [← hV]; exact (Below.refl _ _).drew))
      have HD := Lib.hid (show ClHeld V9 w.heap.size A n c wk cp b1 (o1 + j * 4) p0 p1 p2 p3 V9 by rw [← hV]; exact ⟨by show wr.cell? _ = _; rw [GR.out.cell]; rfl, by show wr.cell? _ = _; rw [GR.out.cell]; rfl, by show wr.cell? _ = _; rw [GR.out.cell]; rfl, e0, e1, e2, e3, Below.refl _ _⟩)
      clear e0 e1 e2 e3
      go_wp2_with fail
      refine wp_region_held_drew (S := ClHeld V9 w.heap.size A n c wk cp b1 (o1 + j * 4) p0 p1 p2 p3) (by kernel_rfl) ?_ (fun hHeld => ?_)
      · skip
        rw [hV]; exact HD.out
      change wpAnyH _ _ opsJ4C _ _ 12 (LJ4C 0) _ _
      rw [hV] at hHeld ⊢
      clear hV
      refine regY tJ4C_0 (.agg #[.slice A n c, .int .i64 wk, .int .i64 cp]) (fun W hSw => by unfold qJ4C_0; obtain ⟨g0, g1, g2, c0, c1, c2, c3, _⟩ := hSw; go_simp) hHeld ?_
      try simp only [pt, List.set]
      refine regY tJ4C_1 (.slice (some ⟨b1, o1, none⟩) n2 c2) (fun W hSw => by unfold qJ4C_2; go_simp) hHeld ?_
      try simp only [pt, List.set]
      refine regY tJ4C_2 (.int .i64 (j : Int)) (fun W hSw => by unfold qJ4C_3; go_simp) hHeld ?_
      try simp only [pt, List.set]
      refine regY tJ4C_3 (.pointer (some ⟨b1, o1 + j * 4, none⟩)) (fun W hSw => by unfold qJ4C_4; go_simp) hHeld ?_
      try simp only [pt, List.set]
      refine regY tJ4C_4 (.agg #[.int .i64 p0, .int .i64 p1, .int .i64 p2, .int .i64 p3]) (fun W hSw => by unfold qJ4C_5; obtain ⟨g0, g1, g2, c0, c1, c2, c3, _⟩ := hSw; go_simp) hHeld ?_
      try simp only [pt, List.set]
      refine cJ4C_5 (fun K hK => ?_)
      rw [if_pos (by rfl)]
      unfold qJ4C_1
      go_simp
      obtain ⟨g, hg⟩ : ∃ g, g = V9.heap.size := ⟨_, rfl⟩
      rw [← hg]
      generalize hU : World.alloc _ _ = U
      have bU : Below V9.heap.size V9 U := by rw [← hU]; exact (Below.refl _ _).alloc (Nat.le_refl _) _
      have HU := hHeld.below bU
      clear hU hg bU
      refine Shut.out hK _ _ ?_ (fun hHeld => ?_)
      · exact HU
      clear hK K
      try simp only [pt, List.set]
      refine cJ4C_6 (fun K hK => ?_)
      rw [if_pos (by rfl)]
      unfold qJ4C_6
      go_simp
      refine (specImp_any gs wk cp A n c HL.out HO.out hn [] (some ⟨g, 0, none⟩) 0 0 rfl (fun h => by cases h) (Nat.le_refl _) (by omega) p0 p1 p2 p3 _ (S0.out.below (below_chain BV.out hHeld.bel)) (fun h => absurd h (by simp))).mono ?_
      rintro e w5 ⟨A5, c5, m5, A6, c6, m6, hm5, hm6, rfl, _, hr6, _, bq⟩
      rw [HIM.out] at hm6 hr6
      have M6 := Lib.hid (show more.length = m6 from hm6)
      have R6 := Lib.hid (show Wce w5 _ _ A6 m6 c6 more from hr6)
      clear hm5 hm6 hr6
      refine Shut.out hK _ _ ?_ (fun hHeld => ?_)
      · exact hHeld.below bq
      clear hK K
      try simp only [pt, List.set]
      refine regY tJ4C_7 (.tuple #[.slice A5 m5 c5, .slice A6 m6 c6]) (fun W hSw => by unfold qJ4C_7; go_simp) hHeld ?_
      try simp only [pt, List.set]
      refine regY tJ4C_8 (.slice A5 m5 c5) (fun W hSw => by unfold qJ4C_8; go_simp) hHeld ?_
      try simp only [pt, List.set]
      refine regY tJ4C_9 (.slice A6 m6 c6) (fun W hSw => by unfold qJ4C_9; go_simp) hHeld ?_
      try simp only [pt, List.set]
      refine regY tJ4C_10 (.slice A5 m5 c5) (fun W hSw => by unfold qJ4C_10; go_simp) hHeld ?_
      try simp only [pt, List.set]
      refine regY tJ4C_11 (.slice A6 m6 c6) (fun W hSw => by unfold qJ4C_11; go_simp) hHeld ?_
      try simp only [pt, List.set]
      refine wpAnyH_done (by kernel_rfl) ?_ _
      have BE := Lib.hid (below_chain BV.out hHeld.bel)
      have BE0 := Lib.hid (below_chain BV0.out hHeld.bel)
      clear hHeld HD BV BV0 HB HB0 GR
      go_wp2_with fail
      refine (specNw_is HNB.out H2L.out hn2 M6.out (by have := M6.out; omega) w5 (H2.out.below BE.out) R6.out.ce).mono ?_
      rintro e w6 ⟨rfl, hb⟩
      have BF := Lib.hid (below_chain BE.out hb)
      have BF0 := Lib.hid (below_chain BE0.out hb)
      clear hb BE BE0 R6
      cases nb with
      | false =>
        obtain rfl : q = false := by rw [HQ.out, all_off HLJ.out HN.out]; rfl
        go_wp2
        go_ret
        exact ⟨rfl, BF.out⟩
      | true =>
        have HT2 := Lib.hid (all_on HLJ.out HT.out HN.out)
        clear HT HN
        go_wp2
        go_roundw
        case rel => exact ⟨j + 1, by omega, by go_num, HT2.out, BF0.out⟩
        case measure => simp [intOf]; omega
    · obtain rfl : j = n2 := by omega
      obtain rfl : q = gk := by rw [HQ.out, all_whole (Nat.le_of_eq H2L.out) HT.out]; rfl
      have dl : decide (j < j) = false := by simp
      clear hlt
      have x0 : wr.cell? ⟨w.heap.size, 0, none⟩ = some (.slice A n c) := by rw [GR.out.cell]; rfl
      have x1 : wr.cell? ⟨w.heap.size, 1, none⟩ = some (.int .i64 wk) := by rw [GR.out.cell]; rfl
      have x2 : wr.cell? ⟨w.heap.size, 2, none⟩ = some (.int .i64 cp) := by rw [GR.out.cell]; rfl
      go_wp2_with fail
      refine (specGrOk_any gs wk cp A n c HL.out HO.out hn HGK.out _ (S0.out.below HB.out)).mono ?_
      rintro e w6 ⟨rfl, hb⟩
      have BF := Lib.hid (below_chain HB.out hb)
      clear hb x0 x1 x2
      go_wp2
      go_ret
      exact ⟨rfl, BF.out⟩
end Go.Proofs.Ytbbagpnjjjohpaa.hexes

