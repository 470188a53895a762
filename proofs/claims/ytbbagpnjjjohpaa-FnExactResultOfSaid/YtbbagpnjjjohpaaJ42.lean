/-
  The program's OutsOnly: the contract of impl.OutsOnly.
  A statement of impl.ResultOf: its operations, and a theorem a step.
  The program's ResultOf: the contract of impl.ResultOf.
  CesOut in a walk's words.
  A row's capacity is not below its length.
  What the walks of chapter 9's exact laws take: a boxed cell and rows kept through writes.
-/
import Derived.Test.YtbbagpnjjjohpaaJ28
import Derived.Test.YtbbagpnjjjohpaaJ9
import Derived.Test.YtbbagpnjjjohpaaJ17
import Derived.Test.YtbbagpnjjjohpaaJ41
import Derived.Test.YtbbagpnjjjohpaaJ30
import Derived.Test.YtbbagpnjjjohpaaJ24
import Derived.Test.YtbbagpnjjjohpaaJ0
import Derived.Test.YtbbagpnjjjohpaaJ15
import Derived.Deep.Slices
import Derived.ChangeSame
import Derived.OpenShut
import Derived.Lib.SmallJoins
import Derived.Test.YtbbagpnjjjohpaaJ16

namespace Go.Proofs.Ytbbagpnjjjohpaa.hexes
open Go.RowKit

set_option maxRecDepth 1000000 in
set_option maxHeartbeats 16000000 in
theorem implOnly_any (gs : List Nd) (wk cp : Int) (A : Option Addr) (n c : Nat) (hl : gs.length = n) (ho : ∀ x ∈ gs, x.2.2.2.length ≤ 1048576) (hn : n ≤ 1048576) (ces : List Ce) (A2 : Option Addr) (n2 c2 : Nat) (hl2 : ces.length = n2) (hn2 : n2 ≤ 2000000) (w : World) (h : Nds w A gs) (h2 : Ces w A2 ces) :
    Calls Try.prog 27 #[.agg #[.slice A n c, .int .i64 wk, .int .i64 cp], .slice A2 n2 c2] w (CesOut w (outsC gs ces)) := by
  have HL := Lib.hid hl
  have HO := Lib.hid ho
  have H2L := Lib.hid hl2
  have S0 := Lib.hid h
  have H2 := Lib.hid h2
  clear hl ho hl2 h h2
  obtain ⟨V, hW⟩ : ∃ z, ((w.alloc (.cells #[.slice A n c, .int .i64 wk, .int .i64 cp] 26)).alloc (.cells #[] 38)) = z := ⟨_, rfl⟩
  have hb : Below w.heap.size w V := by rw [← hW]; exact (((Below.refl _ _).alloc (by first | (simp; done) | (simp; omega) | omega) _).alloc (by first | (simp; done) | (simp; omega) | omega) _)
  have az : V.heap.size = w.heap.size + 2 := by rw [← hW]; simp
  have NG := Lib.hid (show Blk V (w.heap.size) 26 #[.slice A n c, .int .i64 wk, .int .i64 cp] by rw [← hW]; exact ((Below.heap_alloc _ _ _ (by first | (simp; done) | (simp; omega))).trans (Blk.new _ _ _)))
  have NE := Lib.hid (show Blk V (w.heap.size + 1) 38 #[] by rw [← hW]; exact ((show w.heap.size + 1 = ((w.alloc _)).heap.size by simp) ▸ Blk.new _ _ _))
  have AZV := Lib.hid az
  clear az
  have sz1 := hb.size
  have B1 := Lib.hid (hb)
  clear hb
  have G_1 := NG
  clear NG
  have ltG : w.heap.size < V.heap.size := G_1.out.lt
  have E_1 := NE
  clear NE
  have ltE : w.heap.size + 1 < V.heap.size := E_1.out.lt
  have L0 := Lib.hid (show OutSt w V gs wk cp A n c (some ⟨w.heap.size + 1, 0, none⟩) 0 0 [] from ⟨Wce.empty _ _ _ _, G_1.out, B1.out, S0.out⟩)
  go_enter Try.func27, Try.ntmps27
  go_wp2_with fail
  clear hW
  go_loopw [5, 13] (fun v i wr => ∃ (j : Nat) (AL : Option Addr) (m4 cL : Nat) (out : List Ce), j ≤ n2 ∧ i = .int .i64 (j : Int) ∧ v = .slice AL m4 cL ∧ m4 ≤ j ∧ outsC gs (ces.take j) = out ∧ OutSt w wr gs wk cp A n c AL m4 cL out) (fun _ i _ => n2 - (intOf i).toNat)
  case atStart => exact ⟨0, _, 0, 0, [], Nat.zero_le _, rfl, rfl, Nat.le_refl _, rfl, L0.out⟩
  case round =>
    obtain ⟨j, AL, m4, cL, out, hj, rfl, rfl, hmj, hout, hS⟩ := hrel
    have SR := Lib.hid hS
    have HU := Lib.hid hout
    clear hS hout
    by_cases hlt : j < n2
    · have lj : j < ces.length := by rw [H2L.out]; exact hlt
      obtain ⟨bx, ox, p0, p1, p2, p3, rfl, hz, e0, e1, e2, e3⟩ := (H2.out.below SR.out.bel).at lj
      have i0 : (0 : Int) ≤ (j : Int) := by omega
      have i1 : (j : Int) < (n2 : Int) := by omega
      obtain ⟨⟨k, a, b, zs⟩, hx⟩ : ∃ x, nodeAt gs p0 = x := ⟨_, rfl⟩
      obtain ⟨m, hm⟩ : ∃ m, zs.length = m := ⟨_, rfl⟩
      obtain ⟨q, hq⟩ : ∃ q, hasB gs p0 = q := ⟨_, rfl⟩
      have SX := Lib.hid (show outsC gs (ces.take (j + 1)) = out ++ (if (q && decide (k = 8)) = true then [(p0, p1, p2, p3)] else []) by rw [outs_step lj, HU.out, hz]; unfold outC; rw [hq, hx])
      have HX := Lib.hid hx
      have HM := Lib.hid hm
      have HQ := Lib.hid hq
      clear hz hx hm hq lj HU
      obtain ⟨U, hU⟩ : ∃ z, wr.alloc (.cells #[.int .i64 p0, .int .i64 p1, .int .i64 p2, .int .i64 p3] 38) = z := ⟨_, rfl⟩
      have bU : Below wr.heap.size wr U := by rw [← hU]; exact (Below.refl _ _).alloc (Nat.le_refl _) _
      have XU := Lib.hid (show Blk U wr.heap.size 38 #[.int .i64 p0, .int .i64 p1, .int .i64 p2, .int .i64 p3] by rw [← hU]; exact Blk.new _ _ _)
      have SU := Lib.hid (SR.out.fresh bU)
      clear bU SR
      have x0 : U.cell? ⟨wr.heap.size, 0, none⟩ = some (.int .i64 p0) := by rw [XU.out.cell]; rfl
      have g0 : U.cell? ⟨w.heap.size, 0, none⟩ = some (.slice A n c) := by rw [SU.out.g.cell]; rfl
      have g1 : U.cell? ⟨w.heap.size, 1, none⟩ = some (.int .i64 wk) := by rw [SU.out.g.cell]; rfl
      have g2 : U.cell? ⟨w.heap.size, 2, none⟩ = some (.int .i64 cp) := by rw [SU.out.g.cell]; rfl
      go_wp2_with fail
      clear x0 g0 g1 g2 e0 e1 e2 e3 hU
      refine (implNodeOf_row HX.out HM.out HQ.out wk cp A n c HL.out HO.out hn _ SU.out.nds).mono ?_
      rintro e w5 ⟨An, cn, rfl, rZ, bq⟩
      clear rZ
      have S5 := Lib.hid (SU.out.fresh bq)
      have X5 := Lib.hid (XU.out.below bq)
      clear bq SU XU
      obtain ⟨w7, hU⟩ : ∃ z, w5.alloc (.cells #[.int .i64 k, .int .i64 a, .int .i64 b, .slice An m cn] 46) = z := ⟨_, rfl⟩
      have bU : Below w5.heap.size w5 w7 := by rw [← hU]; exact (Below.refl _ _).alloc (Nat.le_refl _) _
      have K7 := Lib.hid (show Blk w7 w5.heap.size 46 #[.int .i64 k, .int .i64 a, .int .i64 b, .slice An m cn] by rw [← hU]; exact Blk.new _ _ _)
      have T7 := Lib.hid (S5.out.fresh bU)
      have X7 := Lib.hid (X5.out.below bU)
      clear bU S5 X5
      have xk : w7.cell? ⟨w5.heap.size, 0, none⟩ = some (.int .i64 k) := by rw [K7.out.cell]; rfl
      cases q with
      | false =>
        have ST2 := Lib.hid (show outsC gs (ces.take (j + 1)) = out by rw [SX.out]; simp)
        go_wp2_with fail
        go_roundw
        case rel => exact ⟨j + 1, AL, m4, cL, out, by omega, by go_num, rfl, by omega, ST2.out, T7.out⟩
        case measure => simp [intOf]; omega
      | true =>
        by_cases k8 : k = 8
        · have dk : (k == 8) = true := by simpa using k8
          have ST2 := Lib.hid (show outsC gs (ces.take (j + 1)) = out ++ [(p0, p1, p2, p3)] by rw [SX.out]; simp [k8])
          clear k8
          have d0 : w7.cell? ⟨wr.heap.size, 0, none⟩ = some (.int .i64 p0) := by rw [X7.out.cell]; rfl
          have d1 : w7.cell? ⟨wr.heap.size, 1, none⟩ = some (.int .i64 p1) := by rw [X7.out.cell]; rfl
          have d2 : w7.cell? ⟨wr.heap.size, 2, none⟩ = some (.int .i64 p2) := by rw [X7.out.cell]; rfl
          have d3 : w7.cell? ⟨wr.heap.size, 3, none⟩ = some (.int .i64 p3) := by rw [X7.out.cell]; rfl
          obtain ⟨U8, hU8⟩ : ∃ z, w7.alloc (.cells #[.int .i64 p0, .int .i64 p1, .int .i64 p2, .int .i64 p3] 38) = z := ⟨_, rfl⟩
          have hbU : Below w7.heap.size w7 U8 := by rw [← hU8]; exact (Below.refl _ _).alloc (Nat.le_refl _) _
          have NU := Lib.hid (show Ces U8 (some ⟨w7.heap.size, 0, none⟩) [(p0, p1, p2, p3)] by rw [← hU8]; exact ce_new _ _ _ _ _)
          have SU := Lib.hid (T7.out.fresh hbU)
          clear hbU
          go_wp2_with (at_builtin; refine wpList_append_wce rfl (.tmp 30) (.tmp 32) (by rfl) (by rfl) SU.out.l (some ⟨w7.heap.size, 0, none⟩) 1 1 [(p0, p1, p2, p3)] (by rfl) (fun h => by cases h) rfl NU.out (by omega) SU.out.bel.size ?_; intro A8 c8 w8 own8 gr8 ha8; generalize hG : wpList _ _ _ _ _ _ = GG)
          have N8 := Lib.hid (show OutSt w w8 gs wk cp A n c A8 (m4 + 1) c8 (out ++ [(p0, p1, p2, p3)]) from ⟨own8, gr8.blk SU.out.g (by decide), gr8.bel SU.out.bel (Nat.le_refl _), SU.out.n0⟩)
          clear own8 gr8 ha8 SU NU T7 K7 X7 hU hU8 d0 d1 d2 d3 xk
          subst hG
          go_wp2
          go_roundw
          case rel => exact ⟨j + 1, A8, m4 + 1, c8, _, by omega, by go_num, rfl, by omega, ST2.out, N8.out⟩
          case measure => simp [intOf]; omega
        · have dk : (k == 8) = false := by simpa using k8
          have ST2 := Lib.hid (show outsC gs (ces.take (j + 1)) = out by rw [SX.out]; simp [k8])
          clear k8
          go_wp2_with fail
          go_roundw
          case rel => exact ⟨j + 1, AL, m4, cL, out, by omega, by go_num, rfl, by omega, ST2.out, T7.out⟩
          case measure => simp [intOf]; omega
    · obtain rfl : j = n2 := by omega
      have HE := Lib.hid (show outsC gs ces = out by rw [← HU.out, List.take_of_length_le (Nat.le_of_eq H2L.out)])
      have dl : decide (j < j) = false := by simp
      clear hlt
      go_wp2
      go_ret
      exact ⟨AL, cL, m4, by rw [HE.out]; exact SR.out.l.1, rfl, by rw [HE.out]; exact SR.out.l, SR.out.bel⟩
end Go.Proofs.Ytbbagpnjjjohpaa.hexes

namespace Go.Proofs.Ytbbagpnjjjohpaa.hexes
open Go.RowKit

def findR2F (n : Nat) : Code → Option Code
  | .region id ops d => if id = n then some (.region id ops d) else none
  | .seq a b => match findR2F n a with
    | some c => some c
    | none => findR2F n b
  | .block _ c => findR2F n c
  | .scope c => findR2F n c
  | .loop c => findR2F n c
  | .cond _ a b => match findR2F n a with
    | some c => some c
    | none => findR2F n b
  | _ => none
def opsOfR2F : Option Code → Array Oper
  | some (.region _ ops _) => ops
  | _ => #[]
noncomputable def opsR2F : Array Oper := opsOfR2F (Try.f16.body.bind (findR2F 1))
def schR2F : List Nat := [0, 1, 2, 3, 4, 5, 6]
def LR2F (k : Nat) : Array Bool := ((List.range 7).map fun i => (schR2F.take k).contains i).toArray
theorem noselR2F : Region.noSelect opsR2F = true := by kernel_rfl
def qR2F_0 : Oper := { dst := some 7, op := Op.load 26 (Operand.tmp 3), type := 26, pos := "l11_fixed.go:69", after := #[], guard := none }
theorem hR2F_0 : opsR2F[0]? = some qR2F_0 := by kernel_rfl
theorem lR2F_0 : (LR2F 0).setIfInBounds 0 true = LR2F 1 := by kernel_rfl
theorem tR2F_0 : RegT Try.prog opsR2F qR2F_0 (some 7) 6 (LR2F 0) (LR2F 1) := regT hR2F_0 rfl noselR2F (by kernel_rfl) (by kernel_rfl) lR2F_0
def qR2F_1 : Oper := { dst := some 8, op := Op.load 26 (Operand.tmp 3), type := 26, pos := "l11_fixed.go:69", after := #[], guard := none }
theorem hR2F_1 : opsR2F[1]? = some qR2F_1 := by kernel_rfl
theorem lR2F_1 : (LR2F 1).setIfInBounds 1 true = LR2F 2 := by kernel_rfl
theorem tR2F_1 : RegT Try.prog opsR2F qR2F_1 (some 8) 5 (LR2F 1) (LR2F 2) := regT hR2F_1 rfl noselR2F (by kernel_rfl) (by kernel_rfl) lR2F_1
def qR2F_2 : Oper := { dst := some 9, op := Op.move (Operand.tmp 1), type := 3, pos := "l11_fixed.go:69", after := #[], guard := none }
theorem hR2F_2 : opsR2F[2]? = some qR2F_2 := by kernel_rfl
theorem lR2F_2 : (LR2F 2).setIfInBounds 2 true = LR2F 3 := by kernel_rfl
theorem tR2F_2 : RegT Try.prog opsR2F qR2F_2 (some 9) 4 (LR2F 2) (LR2F 3) := regT hR2F_2 rfl noselR2F (by kernel_rfl) (by kernel_rfl) lR2F_2
def qR2F_3 : Oper := { dst := some 10, op := Op.move (Operand.tmp 2), type := 27, pos := "l11_fixed.go:69", after := #[], guard := none }
theorem hR2F_3 : opsR2F[3]? = some qR2F_3 := by kernel_rfl
theorem lR2F_3 : (LR2F 3).setIfInBounds 3 true = LR2F 4 := by kernel_rfl
theorem tR2F_3 : RegT Try.prog opsR2F qR2F_3 (some 10) 3 (LR2F 3) (LR2F 4) := regT hR2F_3 rfl noselR2F (by kernel_rfl) (by kernel_rfl) lR2F_3
def qR2F_4 : Oper := { dst := some 11, op := Op.call { callee := Callee.value (Operand.func 13), args := #[Operand.tmp 8, Operand.tmp 9, Operand.tmp 10], argTypes := #[26, 3, 27] }, type := 30, pos := "l11_fixed.go:69", after := #[{ on := 1, ground := Ground.data }, { on := 2, ground := Ground.data }, { on := 3, ground := Ground.data }], guard := none }
theorem hR2F_4 : opsR2F[4]? = some qR2F_4 := by kernel_rfl
theorem lR2F_4 : (LR2F 4).setIfInBounds 4 true = LR2F 5 := by kernel_rfl
theorem cR2F_4 : RegC Try.prog opsR2F qR2F_4 (some 11) 2 (LR2F 4) (LR2F 5) := regC hR2F_4 rfl (by kernel_rfl) lR2F_4
def qR2F_5 : Oper := { dst := some 12, op := Op.call { callee := Callee.value (Operand.func 27), args := #[Operand.tmp 7, Operand.tmp 11], argTypes := #[26, 30] }, type := 30, pos := "l11_fixed.go:69", after := #[{ on := 0, ground := Ground.data }, { on := 4, ground := Ground.data }, { on := 4, ground := Ground.chain }], guard := none }
theorem hR2F_5 : opsR2F[5]? = some qR2F_5 := by kernel_rfl
theorem lR2F_5 : (LR2F 5).setIfInBounds 5 true = LR2F 6 := by kernel_rfl
theorem cR2F_5 : RegC Try.prog opsR2F qR2F_5 (some 12) 1 (LR2F 5) (LR2F 6) := regC hR2F_5 rfl (by kernel_rfl) lR2F_5
def qR2F_6 : Oper := { dst := some 6, op := Op.assign (Operand.tmp 12), type := 30, pos := "l11_fixed.go:69", after := #[{ on := 5, ground := Ground.data }, { on := 5, ground := Ground.chain }, { on := 0, ground := Ground.phase }, { on := 1, ground := Ground.phase }, { on := 2, ground := Ground.phase }, { on := 3, ground := Ground.phase }, { on := 4, ground := Ground.phase }, { on := 5, ground := Ground.phase }], guard := none }
theorem hR2F_6 : opsR2F[6]? = some qR2F_6 := by kernel_rfl
theorem lR2F_6 : (LR2F 6).setIfInBounds 6 true = LR2F 7 := by kernel_rfl
theorem tR2F_6 : RegT Try.prog opsR2F qR2F_6 (some 6) 0 (LR2F 6) (LR2F 7) := regT hR2F_6 rfl noselR2F (by kernel_rfl) (by kernel_rfl) lR2F_6
end Go.Proofs.Ytbbagpnjjjohpaa.hexes

namespace Go.Proofs.Ytbbagpnjjjohpaa.hexes
open Go.RowKit

set_option maxRecDepth 1000000 in
set_option maxHeartbeats 8000000 in
theorem implRes_any (gs : List Nd) (wk cp : Int) (A : Option Addr) (n c : Nat) (hl : gs.length = n) (ho : ∀ x ∈ gs, x.2.2.2.length ≤ 1048576) (hn : n ≤ 1048576) (ep : Int) (rcs : List Rc) (A1 : Option Addr) (n1 c1 : Nat) (hl1 : rcs.length = n1) (hn1 : n1 ≤ 1048576) {q : List Ce} (hq : FixTo gs wk cp [] (startL ep rcs) q) (hql : q.length ≤ 800000) (w : World) (h : Nds w A gs) (h1 : Rcs w A1 rcs) :
    Calls Try.prog 16 #[.agg #[.slice A n c, .int .i64 wk, .int .i64 cp], .int .i64 ep, .slice A1 n1 c1] w (CesOut w (outsC gs q)) := by
  have HQ := Lib.hid hq
  have HL := Lib.hid hl
  have HO := Lib.hid ho
  have H1L := Lib.hid hl1
  have S0 := Lib.hid h
  have H1 := Lib.hid h1
  clear hq hl ho hl1 h h1
  obtain ⟨V9, hV⟩ : ∃ z, (w.alloc (.cells #[.slice A n c, .int .i64 wk, .int .i64 cp] 26)).drew = z := ⟨_, rfl⟩
  have BV := Lib.hid (show Below w.heap.size w V9 by rw [← hV]; exact ((Below.refl _ _).alloc (Nat.le_refl _) _).drew)
  have KV := Lib.hid (show Blk V9 w.heap.size 26 #[.slice A n c, .int .i64 wk, .int .i64 cp] by rw [← hV]; exact Blk.new _ _ _)
  have HD := Lib.hid (show ResHeld V9 w.heap.size A n c wk cp V9 from ⟨by rw [KV.out.cell]; rfl, by rw [KV.out.cell]; rfl, by rw [KV.out.cell]; rfl, Below.refl _ _⟩)
  go_enter Try.func16, Try.ntmps16
  go_wp2_with fail
  refine wp_region_held_drew (S := ResHeld V9 w.heap.size A n c wk cp) (by kernel_rfl) ?_ (fun hHeld => ?_)
  · skip
    rw [hV]; exact HD.out
  change wpAnyH _ _ opsR2F _ _ 7 (LR2F 0) _ _
  rw [hV] at hHeld ⊢
  clear hV
  refine regY tR2F_0 (.agg #[.slice A n c, .int .i64 wk, .int .i64 cp]) (fun W hSw => by unfold qR2F_0; obtain ⟨g0, g1, g2, _⟩ := hSw; go_simp) hHeld ?_
  try simp only [pt, List.set]
  refine regY tR2F_1 (.agg #[.slice A n c, .int .i64 wk, .int .i64 cp]) (fun W hSw => by unfold qR2F_1; obtain ⟨g0, g1, g2, _⟩ := hSw; go_simp) hHeld ?_
  try simp only [pt, List.set]
  refine regY tR2F_2 (.int .i64 ep) (fun W hSw => by unfold qR2F_2; go_simp) hHeld ?_
  try simp only [pt, List.set]
  refine regY tR2F_3 (.slice A1 n1 c1) (fun W hSw => by unfold qR2F_3; go_simp) hHeld ?_
  try simp only [pt, List.set]
  refine cR2F_4 (fun K hK => ?_)
  rw [if_pos (by rfl)]
  unfold qR2F_4
  go_simp
  refine (implFix_any gs wk cp A n c HL.out HO.out hn ep rcs A1 n1 c1 H1L.out hn1 HQ.out _ (S0.out.below (below_chain BV.out hHeld.bel)) (H1.out.below (below_chain BV.out hHeld.bel))).mono ?_
  rintro e w5 ⟨A3, c3, m3, hm3, rfl, r3, bq⟩
  have M3 := Lib.hid hm3
  have R3 := Lib.hid r3
  clear hm3 r3
  refine Shut.out hK _ _ ?_ (fun hHeld => ?_)
  · exact hHeld.below bq
  clear hK K
  try simp only [pt, List.set]
  refine cR2F_5 (fun K hK => ?_)
  rw [if_pos (by rfl)]
  unfold qR2F_5
  go_simp
  refine (implOnly_any gs wk cp A n c HL.out HO.out hn q A3 m3 c3 M3.out (by have := M3.out; omega) _ (S0.out.below (below_chain BV.out hHeld.bel)) R3.out.ce).mono ?_
  rintro e w6 ⟨A4, c4, m4, hm4, rfl, r4, bq⟩
  have M4 := Lib.hid hm4
  have R4 := Lib.hid (r4.bounds (below_chain BV.out hHeld.bel).size (Nat.le_refl _))
  clear hm4 r4
  refine Shut.out hK _ _ ?_ (fun hHeld => ?_)
  · exact hHeld.below bq
  clear hK K
  try simp only [pt, List.set]
  refine regY tR2F_6 (.slice A4 m4 c4) (fun W hSw => by unfold qR2F_6; go_simp) hHeld ?_
  try simp only [pt, List.set]
  refine wpAnyH_done (by kernel_rfl) ?_ _
  have BE := Lib.hid (below_chain BV.out hHeld.bel)
  clear hHeld HD
  go_wp2
  go_ret
  exact ⟨A4, c4, m4, M4.out, rfl, R4.out, BE.out⟩
end Go.Proofs.Ytbbagpnjjjohpaa.hexes

namespace Go.Proofs.Ytbbagpnjjjohpaa.hexes
open Go.RowKit

theorem CesOut.rows {w w' : World} {e : Ending} {q us : List Ce} {m : Nat} (h : CesOut w q e w') (hq : q = us) (hm : us.length = m) : ∃ A3 c3, e = .returned (.slice A3 m c3) ∧ Wce w' w.heap.size w'.heap.size A3 m c3 us ∧ Below w.heap.size w w' := by
  subst hq hm
  obtain ⟨A3, c3, m3, rfl, he, hw, hb⟩ := h
  exact ⟨A3, c3, he, hw, hb⟩
end Go.Proofs.Ytbbagpnjjjohpaa.hexes

namespace Go.Proofs.Ytbbagpnjjjohpaa.hexes
open Go.RowKit
theorem Row.cap {w : World} {lo hi e size n c : Nat} {A : Option Addr} {xs : List Value} (h : Row w lo hi e size A n c xs) : n ≤ c := by
  rcases h.own.2 with ⟨h0, rfl⟩ | ⟨g, cap, cur, hv, _, _, hnc, _⟩
  · exact Nat.zero_le _
  · simp only [Value.slice.injEq, true_and] at hv
    obtain ⟨_, rfl⟩ := hv
    exact hnc
end Go.Proofs.Ytbbagpnjjjohpaa.hexes

namespace Go.Proofs.Ytbbagpnjjjohpaa.hexes
open Go.RowKit

theorem XB.wrote {w w' : World} {b : Nat} {x0 x1 x2 x3 : Int} {lo hi : Nat} (h : XB b x0 x1 x2 x3 w) (hw : Wrote w w' lo hi) (hd : b < lo ∨ hi ≤ b) : XB b x0 x1 x2 x3 w' := by
  obtain ⟨row, hg, hr⟩ := hw
  exact h.grown hg (fun e => by have := hr b e; omega)
theorem Row.base {w : World} {lo lo' hi e size n c : Nat} {A : Option Addr} {xs : List Value} (h : Row w lo hi e size A n c xs) (hl : lo' ≤ lo) : Row w lo' hi e size A n c xs := ⟨own_base h.own hl, h.lt⟩
end Go.Proofs.Ytbbagpnjjjohpaa.hexes

