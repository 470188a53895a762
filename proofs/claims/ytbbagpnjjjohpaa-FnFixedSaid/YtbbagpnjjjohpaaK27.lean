/-
  A statement of spec.Fixpoint: its operations, and a theorem a step.
  The reference's Fixpoint: the contract of spec.Fixpoint.
-/
import Derived.Test.YtbbagpnjjjohpaaK10
import Derived.Test.YtbbagpnjjjohpaaK16
import Derived.Test.YtbbagpnjjjohpaaK26
import Derived.Test.YtbbagpnjjjohpaaK8
import Derived.Lib.SliceRun

namespace Go.Proofs.Ytbbagpnjjjohpaa.hexes
open Go.RowKit

def findX10 (n : Nat) : Code → Option Code
  | .region id ops d => if id = n then some (.region id ops d) else none
  | .seq a b => match findX10 n a with
    | some c => some c
    | none => findX10 n b
  | .block _ c => findX10 n c
  | .scope c => findX10 n c
  | .loop c => findX10 n c
  | .cond _ a b => match findX10 n a with
    | some c => some c
    | none => findX10 n b
  | _ => none
def opsOfX10 : Option Code → Array Oper
  | some (.region _ ops _) => ops
  | _ => #[]
noncomputable def opsX10 : Array Oper := opsOfX10 (Try.f15.body.bind (findX10 10))
def schX10 : List Nat := [0, 1, 2, 3, 4, 5, 6, 7, 8, 9, 10]
def LX10 (k : Nat) : Array Bool := ((List.range 11).map fun i => (schX10.take k).contains i).toArray
theorem noselX10 : Region.noSelect opsX10 = true := by kernel_rfl
def qX10_0 : Oper := { dst := some 47, op := Op.load 26 (Operand.tmp 3), type := 26, pos := "l11_fixed.go:33", after := #[], guard := none }
theorem hX10_0 : opsX10[0]? = some qX10_0 := by kernel_rfl
theorem lX10_0 : (LX10 0).setIfInBounds 0 true = LX10 1 := by kernel_rfl
theorem tX10_0 : RegT Try.prog opsX10 qX10_0 (some 47) 10 (LX10 0) (LX10 1) := regT hX10_0 rfl noselX10 (by kernel_rfl) (by kernel_rfl) lX10_0
def qX10_1 : Oper := { dst := some 48, op := Op.move (Operand.tmp 7), type := 30, pos := "l11_fixed.go:33", after := #[], guard := none }
theorem hX10_1 : opsX10[1]? = some qX10_1 := by kernel_rfl
theorem lX10_1 : (LX10 1).setIfInBounds 1 true = LX10 2 := by kernel_rfl
theorem tX10_1 : RegT Try.prog opsX10 qX10_1 (some 48) 9 (LX10 1) (LX10 2) := regT hX10_1 rfl noselX10 (by kernel_rfl) (by kernel_rfl) lX10_1
def qX10_2 : Oper := { dst := some 49, op := Op.move (Operand.tmp 8), type := 30, pos := "l11_fixed.go:33", after := #[], guard := none }
theorem hX10_2 : opsX10[2]? = some qX10_2 := by kernel_rfl
theorem lX10_2 : (LX10 2).setIfInBounds 2 true = LX10 3 := by kernel_rfl
theorem tX10_2 : RegT Try.prog opsX10 qX10_2 (some 49) 8 (LX10 2) (LX10 3) := regT hX10_2 rfl noselX10 (by kernel_rfl) (by kernel_rfl) lX10_2
def qX10_3 : Oper := { dst := some 50, op := Op.indexAddr 30 (Operand.tmp 49) (Operand.const (Value.int IntKind.i64 0)), type := 0, pos := "l11_fixed.go:33", after := #[{ on := 2, ground := Ground.data }], guard := none }
theorem hX10_3 : opsX10[3]? = some qX10_3 := by kernel_rfl
theorem lX10_3 : (LX10 3).setIfInBounds 3 true = LX10 4 := by kernel_rfl
theorem tX10_3 : RegT Try.prog opsX10 qX10_3 (some 50) 7 (LX10 3) (LX10 4) := regT hX10_3 rfl noselX10 (by kernel_rfl) (by kernel_rfl) lX10_3
def qX10_4 : Oper := { dst := some 51, op := Op.load 38 (Operand.tmp 50), type := 38, pos := "l11_fixed.go:33", after := #[{ on := 3, ground := Ground.data }], guard := none }
theorem hX10_4 : opsX10[4]? = some qX10_4 := by kernel_rfl
theorem lX10_4 : (LX10 4).setIfInBounds 4 true = LX10 5 := by kernel_rfl
theorem tX10_4 : RegT Try.prog opsX10 qX10_4 (some 51) 6 (LX10 4) (LX10 5) := regT hX10_4 rfl noselX10 (by kernel_rfl) (by kernel_rfl) lX10_4
def qX10_5 : Oper := { dst := some 52, op := Op.call { callee := Callee.value (Operand.func 22), args := #[Operand.tmp 47, Operand.tmp 48, Operand.tmp 51], argTypes := #[26, 30, 38] }, type := 35, pos := "l11_fixed.go:33", after := #[{ on := 0, ground := Ground.data }, { on := 1, ground := Ground.data }, { on := 4, ground := Ground.data }], guard := none }
theorem hX10_5 : opsX10[5]? = some qX10_5 := by kernel_rfl
theorem lX10_5 : (LX10 5).setIfInBounds 5 true = LX10 6 := by kernel_rfl
theorem cX10_5 : RegC Try.prog opsX10 qX10_5 (some 52) 5 (LX10 5) (LX10 6) := regC hX10_5 rfl (by kernel_rfl) lX10_5
def qX10_6 : Oper := { dst := some 46, op := Op.move (Operand.tmp 52), type := 35, pos := "l11_fixed.go:33", after := #[{ on := 5, ground := Ground.data }], guard := none }
theorem hX10_6 : opsX10[6]? = some qX10_6 := by kernel_rfl
theorem lX10_6 : (LX10 6).setIfInBounds 6 true = LX10 7 := by kernel_rfl
theorem tX10_6 : RegT Try.prog opsX10 qX10_6 (some 46) 4 (LX10 6) (LX10 7) := regT hX10_6 rfl noselX10 (by kernel_rfl) (by kernel_rfl) lX10_6
def qX10_7 : Oper := { dst := some 53, op := Op.extract (Operand.tmp 46) 0, type := 30, pos := "l11_fixed.go:33", after := #[{ on := 6, ground := Ground.data }], guard := none }
theorem hX10_7 : opsX10[7]? = some qX10_7 := by kernel_rfl
theorem lX10_7 : (LX10 7).setIfInBounds 7 true = LX10 8 := by kernel_rfl
theorem tX10_7 : RegT Try.prog opsX10 qX10_7 (some 53) 3 (LX10 7) (LX10 8) := regT hX10_7 rfl noselX10 (by kernel_rfl) (by kernel_rfl) lX10_7
def qX10_8 : Oper := { dst := some 54, op := Op.extract (Operand.tmp 46) 1, type := 30, pos := "l11_fixed.go:33", after := #[{ on := 6, ground := Ground.data }, { on := 9, ground := Ground.gcOnly Departure.lateStores }], guard := none }
theorem hX10_8 : opsX10[8]? = some qX10_8 := by kernel_rfl
theorem lX10_8 : (LX10 8).setIfInBounds 8 true = LX10 9 := by kernel_rfl
theorem tX10_8 : RegT Try.prog opsX10 qX10_8 (some 54) 2 (LX10 8) (LX10 9) := regT hX10_8 rfl noselX10 (by kernel_rfl) (by kernel_rfl) lX10_8
def qX10_9 : Oper := { dst := some 11, op := Op.assign (Operand.tmp 53), type := 30, pos := "l11_fixed.go:33", after := #[{ on := 7, ground := Ground.data }, { on := 5, ground := Ground.chain }, { on := 0, ground := Ground.phase }, { on := 1, ground := Ground.phase }, { on := 2, ground := Ground.phase }, { on := 3, ground := Ground.phase }, { on := 4, ground := Ground.phase }, { on := 5, ground := Ground.phase }, { on := 6, ground := Ground.phase }, { on := 7, ground := Ground.phase }, { on := 8, ground := Ground.textOnly Departure.lateStores }], guard := none }
theorem hX10_9 : opsX10[9]? = some qX10_9 := by kernel_rfl
theorem lX10_9 : (LX10 9).setIfInBounds 9 true = LX10 10 := by kernel_rfl
theorem tX10_9 : RegT Try.prog opsX10 qX10_9 (some 11) 1 (LX10 9) (LX10 10) := regT hX10_9 rfl noselX10 (by kernel_rfl) (by kernel_rfl) lX10_9
def qX10_10 : Oper := { dst := some 12, op := Op.assign (Operand.tmp 54), type := 30, pos := "l11_fixed.go:33", after := #[{ on := 8, ground := Ground.data }, { on := 9, ground := Ground.chain }, { on := 0, ground := Ground.phase }, { on := 1, ground := Ground.phase }, { on := 2, ground := Ground.phase }, { on := 3, ground := Ground.phase }, { on := 4, ground := Ground.phase }, { on := 5, ground := Ground.phase }, { on := 6, ground := Ground.phase }, { on := 7, ground := Ground.phase }, { on := 8, ground := Ground.phase }, { on := 9, ground := Ground.phase }], guard := none }
theorem hX10_10 : opsX10[10]? = some qX10_10 := by kernel_rfl
theorem lX10_10 : (LX10 10).setIfInBounds 10 true = LX10 11 := by kernel_rfl
theorem tX10_10 : RegT Try.prog opsX10 qX10_10 (some 12) 0 (LX10 10) (LX10 11) := regT hX10_10 rfl noselX10 (by kernel_rfl) (by kernel_rfl) lX10_10
end Go.Proofs.Ytbbagpnjjjohpaa.hexes

namespace Go.Proofs.Ytbbagpnjjjohpaa.hexes
open Go.RowKit

theorem specRcOkF_is {p0 p1 p2 p3 p4 : Int} {b : Bool} (h : okRc (p0, (p1, p2), p3, p4) = b) (w : World) : Calls Try.prog 30 #[.agg #[.int .i64 p0, .int .i64 p1, .int .i64 p2, .int .i64 p3, .int .i64 p4]] w fun e w' => e = .returned (.bool b) ∧ Below w.heap.size w w' := by
  subst h; exact specRcOk_any _ _ _ _ _ w

set_option maxRecDepth 1000000 in
set_option maxHeartbeats 16000000 in
theorem specFix_any (gs : List Nd) (wk cp : Int) (A : Option Addr) (n c : Nat) (hl : gs.length = n) (ho : ∀ x ∈ gs, x.2.2.2.length ≤ 1048576) (hn : n ≤ 1048576) (ep : Int) (rcs : List Rc) (A1 : Option Addr) (n1 c1 : Nat) (hl1 : rcs.length = n1) (hn1 : n1 ≤ 1048576) {q : List Ce} (hq : FixTo gs wk cp [] (startL ep rcs) q) (w : World) (h : Nds w A gs) (h1 : Rcs w A1 rcs) :
    Calls Try.prog 15 #[.agg #[.slice A n c, .int .i64 wk, .int .i64 cp], .int .i64 ep, .slice A1 n1 c1] w (CesOut w q) := by
  have HQ := Lib.hid hq
  have HL := Lib.hid hl
  have HO := Lib.hid ho
  have H1L := Lib.hid hl1
  have S0 := Lib.hid h
  have H1 := Lib.hid h1
  clear hq hl ho hl1 h h1
  obtain ⟨V, hW⟩ : ∃ z, (((w.alloc (.cells #[.slice A n c, .int .i64 wk, .int .i64 cp] 26)).alloc (.cells #[] 38)).alloc (.cells #[] 38)) = z := ⟨_, rfl⟩
  have hb : Below w.heap.size w V := by rw [← hW]; exact ((((Below.refl _ _).alloc (by first | (simp; done) | (simp; omega) | omega) _).alloc (by first | (simp; done) | (simp; omega) | omega) _).alloc (by first | (simp; done) | (simp; omega) | omega) _)
  have az : V.heap.size = w.heap.size + 3 := by rw [← hW]; simp
  have NG := Lib.hid (show Blk V (w.heap.size) 26 #[.slice A n c, .int .i64 wk, .int .i64 cp] by rw [← hW]; exact ((Below.heap_alloc _ _ _ (by first | (simp; done) | (simp; omega))).trans ((Below.heap_alloc _ _ _ (by first | (simp; done) | (simp; omega))).trans (Blk.new _ _ _))))
  have NE := Lib.hid (show Blk V (w.heap.size + 1) 38 #[] by rw [← hW]; exact ((Below.heap_alloc _ _ _ (by first | (simp; done) | (simp; omega))).trans ((show w.heap.size + 1 = ((w.alloc _)).heap.size by simp) ▸ Blk.new _ _ _)))
  have NF := Lib.hid (show Blk V (w.heap.size + 2) 38 #[] by rw [← hW]; exact ((show w.heap.size + 2 = (((w.alloc _).alloc _)).heap.size by simp) ▸ Blk.new _ _ _))
  have AZV := Lib.hid az
  clear az
  have sz1 := hb.size
  have B1 := Lib.hid (hb)
  clear hb
  have G_1 := NG
  clear NG
  have ltG : w.heap.size < V.heap.size := G_1.out.lt
  have E_1 := NE
  clear NE
  have ltE : w.heap.size + 1 < V.heap.size := E_1.out.lt
  have F_1 := NF
  clear NF
  have ltF : w.heap.size + 2 < V.heap.size := F_1.out.lt
  have L0 := Lib.hid (show FixSt w V gs wk cp A n c (some ⟨w.heap.size + 1, 0, none⟩) 0 0 [] (some ⟨w.heap.size + 1 + 1, 0, none⟩) 0 0 [] from ⟨Wce.empty _ _ _ _, Wce.empty _ _ _ _, G_1.out, B1.out, S0.out⟩)
  go_enter Try.func15, Try.ntmps15
  go_wp2_with fail
  clear hW
  go_loopw [8, 9] (fun v i wr => ∃ (j : Nat) (AL : Option Addr) (m cL : Nat) (out : List Ce), j ≤ n1 ∧ i = .int .i64 (j : Int) ∧ v = .slice AL m cL ∧ m ≤ j ∧ startL ep (rcs.take j) = out ∧ FixSt w wr gs wk cp A n c (some ⟨w.heap.size + 1, 0, none⟩) 0 0 [] AL m cL out) (fun _ i _ => n1 - (intOf i).toNat)
  case atStart => exact ⟨0, _, 0, 0, [], Nat.zero_le _, rfl, rfl, Nat.le_refl _, rfl, L0.out⟩
  case round =>
    obtain ⟨j, AL, m, cL, out, hj, rfl, rfl, hmj, hout, hS⟩ := hrel
    have SR := Lib.hid hS
    have HU := Lib.hid hout
    clear hS hout
    by_cases hlt : j < n1
    · have lj : j < rcs.length := by rw [H1L.out]; exact hlt
      obtain ⟨b1, o1, p0, p1, p2, p3, p4, rfl, hz, f0, f1, f2, f3, f4⟩ := (H1.out.below SR.out.bel).at lj
      have i0 : (0 : Int) ≤ (j : Int) := by omega
      have i1 : (j : Int) < (n1 : Int) := by omega
      obtain ⟨rk, hrk⟩ : ∃ b, okRc (p0, (p1, p2), p3, p4) = b := ⟨_, rfl⟩
      have ST := Lib.hid (show startL ep (rcs.take (j + 1)) = out ++ (if (decide (p1 = ep) && rk) = true then [(0, ep, p3, p4)] else []) by rw [start_step lj, HU.out, hz]; unfold startB; rw [hrk])
      have HRK := Lib.hid hrk
      clear hz hrk lj
      obtain ⟨W, hW⟩ : ∃ z, wr.alloc (.cells #[.int .i64 p0, .int .i64 p1, .int .i64 p2, .int .i64 p3, .int .i64 p4] 51) = z := ⟨_, rfl⟩
      have hbW : Below wr.heap.size wr W := by rw [← hW]; exact (Below.refl _ _).alloc (Nat.le_refl _) _
      have RW := Lib.hid (show Blk W wr.heap.size 51 #[.int .i64 p0, .int .i64 p1, .int .i64 p2, .int .i64 p3, .int .i64 p4] by rw [← hW]; exact Blk.new _ _ _)
      have SW := Lib.hid (SR.out.fresh hbW)
      clear hbW
      have x0 : W.cell? ⟨wr.heap.size, 0, none⟩ = some (.int .i64 p0) := by rw [RW.out.cell]; rfl
      have x1 : W.cell? ⟨wr.heap.size, 1, none⟩ = some (.int .i64 p1) := by rw [RW.out.cell]; rfl
      have x2 : W.cell? ⟨wr.heap.size, 2, none⟩ = some (.int .i64 p2) := by rw [RW.out.cell]; rfl
      have x3 : W.cell? ⟨wr.heap.size, 3, none⟩ = some (.int .i64 p3) := by rw [RW.out.cell]; rfl
      have x4 : W.cell? ⟨wr.heap.size, 4, none⟩ = some (.int .i64 p4) := by rw [RW.out.cell]; rfl
      by_cases he : p1 = ep
      · have de : (p1 == ep) = true := by simpa using he
        have ST1 := Lib.hid (show startL ep (rcs.take (j + 1)) = out ++ (if rk = true then [(0, ep, p3, p4)] else []) by rw [ST.out]; simp [he])
        clear ST he
        go_wp2_with fail
        clear hW f0 f1 f2 f3 f4 x0 x1 x2 x3 x4
        refine (specRcOkF_is HRK.out _).mono ?_
        rintro e w2 ⟨rfl, hb⟩
        have S2 := Lib.hid (SW.out.fresh hb)
        have R2 := Lib.hid (RW.out.below hb)
        clear hb SW RW
        cases rk with
        | true =>
          obtain ⟨g, hg⟩ : ∃ g, g = w2.heap.size := ⟨_, rfl⟩
          obtain ⟨U, hU⟩ : ∃ z, w2.alloc (.cells #[.int .i64 0, .int .i64 ep, .int .i64 p3, .int .i64 p4] 38) = z := ⟨_, rfl⟩
          have hbU : Below w2.heap.size w2 U := by rw [← hU]; exact (Below.refl _ _).alloc (Nat.le_refl _) _
          have NU := Lib.hid (show Ces U (some ⟨w2.heap.size, 0, none⟩) [(0, ep, p3, p4)] by rw [← hU]; exact ce_new _ _ _ _ _)
          have SU := Lib.hid (S2.out.fresh hbU)
          clear hbU hg g
          have x3 : w2.cell? ⟨wr.heap.size, 3, none⟩ = some (.int .i64 p3) := by rw [R2.out.cell]; rfl
          have x4 : w2.cell? ⟨wr.heap.size, 4, none⟩ = some (.int .i64 p4) := by rw [R2.out.cell]; rfl
          go_wp2_with (at_builtin; refine wpList_append_wce rfl (.tmp 34) (.tmp 41) (by rfl) (by rfl) SU.out.l (some ⟨w2.heap.size, 0, none⟩) 1 1 [(0, ep, p3, p4)] (by rfl) (fun h => by cases h) rfl NU.out (by omega) SU.out.bel.size ?_; intro A8 c8 w8 own8 gr8 ha8; generalize hG : wpList _ _ _ _ _ _ = GG)
          have N8 := Lib.hid (show FixSt w w8 gs wk cp A n c (some ⟨w.heap.size + 1, 0, none⟩) 0 0 [] A8 (m + 1) c8 (out ++ [(0, ep, p3, p4)]) from ⟨Wce.empty _ _ _ _, own8, gr8.blk SU.out.g (by decide), gr8.bel SU.out.bel (Nat.le_refl _), SU.out.n0⟩)
          clear own8 gr8 ha8 SU NU S2 R2 hU
          have ST2 := Lib.hid (show startL ep (rcs.take (j + 1)) = out ++ [(0, ep, p3, p4)] by rw [ST1.out]; simp)
          subst hG
          go_wp2
          go_roundw
          case rel => exact ⟨j + 1, A8, m + 1, c8, _, by omega, by go_num, rfl, by omega, ST2.out, N8.out⟩
          case measure => simp [intOf]; omega
        | false =>
          have ST2 := Lib.hid (show startL ep (rcs.take (j + 1)) = out by rw [ST1.out]; simp)
          clear R2
          go_wp2
          go_roundw
          case rel => exact ⟨j + 1, AL, m, cL, out, by omega, by go_num, rfl, by omega, ST2.out, S2.out⟩
          case measure => simp [intOf]; omega
      · have de : (p1 == ep) = false := by simpa using he
        have ST2 := Lib.hid (show startL ep (rcs.take (j + 1)) = out by rw [ST.out]; simp [he])
        clear ST he
        go_wp2
        go_roundw
        case rel => exact ⟨j + 1, AL, m, cL, out, by omega, by go_num, rfl, by omega, ST2.out, SW.out⟩
        case measure => simp [intOf]; omega
    · obtain rfl : j = n1 := by omega
      obtain ⟨q', hq'⟩ : ∃ q', q' = q := ⟨_, rfl⟩
      have HU2 := Lib.hid (show startL ep rcs = out by rw [← HU.out, List.take_of_length_le (Nat.le_of_eq H1L.out)])
      have FT := Lib.hid (show FixTo gs wk cp [] out q by rw [← HU2.out]; exact HQ.out)
      have FI := Lib.hid (show FixIn ep j [] out by rw [← HU2.out]; exact FixIn.start start_ep (by rw [← H1L.out]; exact start_len _ _))
      have dl : decide (j < j) = false := by simp
      obtain ⟨wo, hwo⟩ : ∃ z, z = wr := ⟨_, rfl⟩
      subst hwo
      clear hlt hq' HU HU2 HQ H1
      go_wp2_with fail
      go_loopw [7, 8] (fun t7 t8 wr => ∃ (A3 : Option Addr) (m3 c3 : Nat) (best : List Ce) (A4 : Option Addr) (m4 c4 : Nat) (xs : List Ce), t7 = .slice A3 m3 c3 ∧ t8 = .slice A4 m4 c4 ∧ FixTo gs wk cp best xs q ∧ FixIn ep j best xs ∧ FixSt w wr gs wk cp A n c A3 m3 c3 best A4 m4 c4 xs) (fun t7 t8 wr => meas (readCe wr t7) ep (readCe wr t8))
      case atStart => exact ⟨_, 0, 0, [], AL, m, cL, out, rfl, rfl, FT.out, FI.out, SR.out⟩
      case round =>
        obtain ⟨A3, m3, c3, best, A4, m4, c4, xs, rfl, rfl, hft, hfi, hS⟩ := hrel
        have TT := Lib.hid hft
        have II := Lib.hid hfi
        have SS := Lib.hid hS
        have ll := hfi.len
        have l3 : m3 ≤ 800000 := by rw [← hS.b.1]; exact ll.1
        have l4 : m4 ≤ 2648576 := by rw [← hS.l.1]; exact Nat.le_trans ll.2 (by omega)
        clear hft hfi hS ll FT FI SR
        cases xs with
        | nil =>
          obtain rfl : m4 = 0 := by have := SS.out.l.1; simp at this; omega
          obtain rfl : q = best := TT.out.nil
          go_wp2
          go_ret
          exact ⟨A3, c3, m3, SS.out.b.1, rfl, SS.out.b, SS.out.bel⟩
        | cons x xs =>
          have hm4 : 0 < m4 := by have := SS.out.l.1; simp at this; omega
          have qk : decide ((m4 : Int) > 0) = true := by simp; omega
          have i0 : (0 : Int) < (m4 : Int) := by omega
          obtain ⟨⟨next, more⟩, him⟩ : ∃ p, impG gs wk cp best x = p := ⟨_, rfl⟩
          have T2 := Lib.hid (show FixTo gs wk cp next (xs ++ more) q by have h := TT.out.next; rw [him] at h; exact h)
          have I2 := Lib.hid (show FixIn ep j next (xs ++ more) by have h := II.out.next (gs := gs) (wk := wk) (cp := cp); rw [him] at h; exact h)
          have MS := Lib.hid (show meas next ep (xs ++ more) < meas best ep (x :: xs) by have h := meas_next (gs := gs) (wk := wk) (cp := cp) (best := best) (xs := xs) (II.out.eps x (by simp)); rw [him] at h; exact h)
          have lmo : more.length ≤ 2 := by have h := impG_more gs wk cp best x; rw [him] at h; exact h
          obtain ⟨p0, p1, p2, p3⟩ := x
          have HIM := Lib.hid him
          have ME := Lib.hid (SS.out.meas ep)
          clear him TT II
          obtain ⟨b4, o4, rfl, hh⟩ := SS.out.held
          obtain ⟨V9, hV⟩ : ∃ v, wr.drew = v := ⟨_, rfl⟩
          have SV := Lib.hid (show FixSt w V9 gs wk cp A n c A3 m3 c3 best (some ⟨b4, o4, none⟩) m4 c4 ((p0, p1, p2, p3) :: xs) by rw [← hV]; exact SS.out.fresh ((Below.refl _ _).drew))
          have HD := Lib.hid (show FixHeld V9 w.heap.size A n c wk cp b4 o4 p0 p1 p2 p3 V9 by rw [← hV]; exact ⟨hh.g0, hh.g1, hh.g2, hh.c0, hh.c1, hh.c2, hh.c3, Below.refl _ _⟩)
          clear hh
          go_wp2_with fail
          refine wp_region_held_drew (S := FixHeld V9 w.heap.size A n c wk cp b4 o4 p0 p1 p2 p3) (by kernel_rfl) ?_ (fun hHeld => ?_)
          · skip
            rw [hV]; exact HD.out
          change wpAnyH _ _ opsX10 _ _ 11 (LX10 0) _ _
          rw [hV] at hHeld ⊢
          clear hV
          refine regY tX10_0 (.agg #[.slice A n c, .int .i64 wk, .int .i64 cp]) (fun W hSw => by unfold qX10_0; obtain ⟨g0, g1, g2, c0, c1, c2, c3, _⟩ := hSw; go_simp) hHeld ?_
          try simp only [pt, List.set]
          refine regY tX10_1 (.slice A3 m3 c3) (fun W hSw => by unfold qX10_1; go_simp) hHeld ?_
          try simp only [pt, List.set]
          refine regY tX10_2 (.slice (some ⟨b4, o4, none⟩) m4 c4) (fun W hSw => by unfold qX10_2; go_simp) hHeld ?_
          try simp only [pt, List.set]
          refine regY tX10_3 (.pointer (some ⟨b4, o4, none⟩)) (fun W hSw => by unfold qX10_3; go_simp) hHeld ?_
          try simp only [pt, List.set]
          refine regY tX10_4 (.agg #[.int .i64 p0, .int .i64 p1, .int .i64 p2, .int .i64 p3]) (fun W hSw => by unfold qX10_4; obtain ⟨g0, g1, g2, c0, c1, c2, c3, _⟩ := hSw; go_simp) hHeld ?_
          try simp only [pt, List.set]
          refine cX10_5 (fun K hK => ?_)
          rw [if_pos (by rfl)]
          unfold qX10_5
          go_simp
          refine (specImp_any gs wk cp A n c HL.out HO.out hn best A3 m3 c3 SV.out.b.1 SV.out.b.nil SV.out.b.cap (by omega) p0 p1 p2 p3 _ (SV.out.nds.below hHeld.bel) (SV.out.b.ce.below hHeld.bel)).mono ?_
          rintro e w5 ⟨A5, c5, m5, A6, c6, m6, hm5, hm6, rfl, hn5, hr6, _, bq⟩
          rw [HIM.out] at hm5 hm6 hn5 hr6
          have M5 := Lib.hid (show next.length = m5 from hm5)
          have M6 := Lib.hid (show more.length = m6 from hm6)
          have N5 := Lib.hid (show Wce w5 _ _ A5 m5 c5 next from hn5)
          have R6 := Lib.hid (show Wce w5 _ _ A6 m6 c6 more from hr6)
          clear hm5 hm6 hn5 hr6
          refine Shut.out hK _ _ ?_ (fun hHeld => ?_)
          · exact hHeld.below bq
          clear hK K
          try simp only [pt, List.set]
          refine regY tX10_6 (.tuple #[.slice A5 m5 c5, .slice A6 m6 c6]) (fun W hSw => by unfold qX10_6; go_simp) hHeld ?_
          try simp only [pt, List.set]
          refine regY tX10_7 (.slice A5 m5 c5) (fun W hSw => by unfold qX10_7; go_simp) hHeld ?_
          try simp only [pt, List.set]
          refine regY tX10_8 (.slice A6 m6 c6) (fun W hSw => by unfold qX10_8; go_simp) hHeld ?_
          try simp only [pt, List.set]
          refine regY tX10_9 (.slice A5 m5 c5) (fun W hSw => by unfold qX10_9; go_simp) hHeld ?_
          try simp only [pt, List.set]
          refine regY tX10_10 (.slice A6 m6 c6) (fun W hSw => by unfold qX10_10; go_simp) hHeld ?_
          try simp only [pt, List.set]
          refine wpAnyH_done (by kernel_rfl) ?_ _
          have T5 := Lib.hid (SV.out.fresh hHeld.bel)
          have w59 : w.heap.size ≤ V9.heap.size := SV.out.bel.size
          have sz5 := hHeld.bel.size
          clear hHeld HD SV
          have lm6 : m6 ≤ 2 := by rw [← M6.out]; exact lmo
          have lxs : xs.length = m4 - 1 := by have h := T5.out.l.1; rw [List.length_cons] at h; omega
          obtain ⟨U, hU⟩ : ∃ u, w5.alloc (.cells #[] 38) = u := ⟨_, rfl⟩
          have bU : Below w5.heap.size w5 U := by rw [← hU]; exact (Below.refl _ _).alloc (Nat.le_refl _) _
          have szU : w5.heap.size < U.heap.size := by rw [← hU]; simp
          have LIT := Lib.hid (show Wce U w5.heap.size U.heap.size (some ⟨w5.heap.size, 0, none⟩) 0 0 [] from Wce.empty _ _ _ _)
          have N6 := Lib.hid (N5.out.below bU)
          have R7 := Lib.hid (R6.out.below bU)
          have T6 := Lib.hid (T5.out.fresh bU)
          clear bU N5 R6 T5
          obtain ⟨T, qT, hT⟩ := slice_fromC (some ⟨b4, o4, none⟩) m4 c4 1 (by omega)
          replace qT : ∀ w, (Instr.slice 30 (.slice (some ⟨b4, o4, none⟩) m4 c4) (some (.int .i64 1)) none none).run Try.prog w = .ok (.slice T (m4 - 1) (c4 - 1)) w := qT
          have TW := Lib.hid (T6.out.l.tail (T := T) (fun g o hA h1 => hT g o hA h1))
          clear hT
          go_wp2_with (at_builtin; refine wpList_append_wce rfl (.tmp 56) (.tmp 58) (by rfl) (by rfl) LIT.out T (m4 - 1) (c4 - 1) xs (by rfl) TW.out.nil lxs TW.out.ce (by omega) (by omega) ?_; intro A7 c7 w7 own gr ha; generalize hG : wpList _ _ _ _ _ _ = GG)
          rw [Nat.zero_add] at own hG
          rw [List.nil_append] at own
          clear qT hU
          have N7 := Lib.hid (N6.out.keptN gr (fun g o hA => by simp only [Option.some.injEq, Addr.mk.injEq, and_true] at hA; omega))
          have R8 := Lib.hid (R7.out.keptN gr (fun g o hA => by simp only [Option.some.injEq, Addr.mk.injEq, and_true] at hA; omega))
          have G7 := Lib.hid (gr.blk T6.out.g (by decide))
          have Z7 := Lib.hid (gr.bel T6.out.bel (by omega))
          have L7 := Lib.hid own
          have sz7 := gr.grow
          have A7g := Lib.hid (show ∀ g o, A7 = some ⟨g, o, none⟩ → w5.heap.size ≤ g from fun g o hA => by
            rcases ha with rfl | ⟨g2, o2, rfl, hge⟩
            · simp only [Option.some.injEq, Addr.mk.injEq, and_true] at hA; omega
            · simp only [Option.some.injEq, Addr.mk.injEq, and_true] at hA; omega)
          have ND := Lib.hid T6.out.n0
          clear own gr ha N6 R7 T6 LIT TW
          subst hG
          go_wp2_with (at_builtin; refine wpList_append_wce rfl (.tmp 59) (.tmp 60) (by rfl) (by rfl) L7.out A6 m6 c6 more (by rfl) R8.out.nil M6.out R8.out.ce (by omega) (by omega) ?_; intro A8 c8 w8 own gr ha; generalize hG : wpList _ _ _ _ _ _ = GG)
          have N8 := Lib.hid (show FixSt w w8 gs wk cp A n c A5 m5 c5 next A8 (m4 - 1 + m6) c8 (xs ++ more) from ⟨(N7.out.keptN gr A7g.out).bounds (by omega) (by have := gr.grow; omega), own.bounds (by omega) (Nat.le_refl _), gr.blk G7.out (by decide), gr.bel Z7.out (by omega), ND.out⟩)
          clear own gr ha N7 R8 G7 Z7 L7 A7g ND
          subst hG
          go_wp2
          go_roundw
          case rel => first | exact ⟨A5, m5, c5, next, A8, m4 - 1 + m6, c8, xs ++ more, rfl, rfl, T2.out, I2.out, N8.out⟩ | ((repeat apply Exists.intro); refine ⟨?_, rfl⟩; exact ⟨A5, m5, c5, next, A8, m4 - 1 + m6, c8, xs ++ more, rfl, rfl, T2.out, I2.out, N8.out⟩)
          case measure => (first | (rw [N8.out.meas, ME.out]; exact MS.out) | (have h1 := N8.out.meas ep; have h2 := ME.out; have h3 := MS.out; simp only [] at h1 h2 ⊢; omega))
end Go.Proofs.Ytbbagpnjjjohpaa.hexes

