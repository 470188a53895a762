/-
  The small helpers of the program's StepOp: the kind of an operator as a type, the cell of a record, the records that an operator sends.
-/
import Derived.Test.YtlanmkimaambgaaS7
import Derived.Test.YtlanmkimaambgaaS8
import Derived.Test.YtlanmkimaambgaaS1
import Derived.Test.YtlanmkimaambgaaS4
import Derived.Test.YtlanmkimaambgaaS6

namespace Go.Proofs.Ytlanmkimaambgaa.hexes
open Go.RowKit

/-- An assertion on a type that is no interface: the value's own type; another. -/
theorem run_assert_same {t xT : TypeId} {d : TypeDesc} (hd : Try.prog.underlying t = some d) (hn : ∀ s, d ≠ .interface s) (v : Value) (w : World) : (Instr.typeAssert (.iface t v) xT t true).run Try.prog w = .ok (.tuple #[v, .bool true]) w := by
  cases d <;> first | exact absurd rfl (hn _) | simp [Instr.typeAssert, run_underlying hd]
theorem run_assert_other {t u xT : TypeId} {d : TypeDesc} {i : TypeInfo} {z : Value} (hd : Try.prog.underlying u = some d) (hn : ∀ s, d ≠ .interface s) (hi : Try.prog.info? u = some i) (hz : i.zero = some z) (ht : t ≠ u) (v : Value) (w : World) : (Instr.typeAssert (.iface t v) xT u true).run Try.prog w = .ok (.tuple #[z, .bool false]) w := by
  cases d <;> first | exact absurd rfl (hn _) | simp [Instr.typeAssert, run_underlying hd, ht, zeroValue, typeInfo, hi, hz]

theorem implRemG_is {k : Int} {b : Bool} (h : remB k = b) (w : World) : Calls Try.prog 79 #[.int .i64 k] w fun e w' => e = .returned (.bool b) ∧ Below w.heap.size w w' := by
  subst h; exact (implRem_any k w).mono fun _ _ h => ⟨h.1, by first | exact h.2 | exact h.2 ▸ Below.refl _ _⟩

set_option maxRecDepth 100000 in
set_option maxHeartbeats 2000000 in
theorem opOf_mem (k a b : Int) (An : Option Addr) (m cn : Nat) (hr : remB k = true) (w : World) :
    Calls Try.prog 47 #[.agg #[.int .i64 k, .int .i64 a, .int .i64 b, .slice An m cn]] w fun e w' => e = .returned (.iface 111 (.agg #[.int .i64 k, .int .i64 a, .int .i64 b, .slice An m cn])) ∧ Below w.heap.size w w' := by
  have HR := Lib.hid hr
  clear hr
  obtain ⟨V, hW⟩ : ∃ z, (w.alloc (.cells #[.int .i64 k, .int .i64 a, .int .i64 b, .slice An m cn] 42)) = z := ⟨_, rfl⟩
  have hb : Below w.heap.size w V := by rw [← hW]; exact ((Below.refl _ _).alloc (by first | (simp; done) | (simp; omega) | omega) _)
  have az : V.heap.size = w.heap.size + 1 := by rw [← hW]; simp
  have NN := Lib.hid (show Blk V (w.heap.size) 42 #[.int .i64 k, .int .i64 a, .int .i64 b, .slice An m cn] by rw [← hW]; exact (Blk.new _ _ _))
  have AZV := Lib.hid az
  clear az
  have sz1 := hb.size
  have B1 := Lib.hid (hb)
  clear hb
  have N_1 := NN
  clear NN
  have ltN : w.heap.size < V.heap.size := N_1.out.lt
  go_enter Try.func47, Try.ntmps47
  have xN0 : V.cell? ⟨w.heap.size, 0, none⟩ = some (.int .i64 k) := by rw [N_1.out.cell]; rfl
  have xN1 : V.cell? ⟨w.heap.size, 1, none⟩ = some (.int .i64 a) := by rw [N_1.out.cell]; rfl
  have xN2 : V.cell? ⟨w.heap.size, 2, none⟩ = some (.int .i64 b) := by rw [N_1.out.cell]; rfl
  have xN3 : V.cell? ⟨w.heap.size, 3, none⟩ = some (.slice An m cn) := by rw [N_1.out.cell]; rfl
  go_wp2_with fail
  clear hW xN0 xN1 xN2 xN3
  refine (implRemG_is HR.out _).mono ?_
  rintro e w1 ⟨rfl, hb⟩
  have sz2 := hb.size
  have B2 := Lib.hid (below_chain B1.out hb)
  have N_2 := Lib.hid (N_1.out.below hb)
  clear hb B1 N_1
  have xN0 : w1.cell? ⟨w.heap.size, 0, none⟩ = some (.int .i64 k) := by rw [N_2.out.cell]; rfl
  have xN1 : w1.cell? ⟨w.heap.size, 1, none⟩ = some (.int .i64 a) := by rw [N_2.out.cell]; rfl
  have xN2 : w1.cell? ⟨w.heap.size, 2, none⟩ = some (.int .i64 b) := by rw [N_2.out.cell]; rfl
  have xN3 : w1.cell? ⟨w.heap.size, 3, none⟩ = some (.slice An m cn) := by rw [N_2.out.cell]; rfl
  go_wp2
  go_ret
  exact ⟨rfl, B2.out⟩

set_option maxRecDepth 100000 in
set_option maxHeartbeats 2000000 in
theorem opOf_back (k a b : Int) (An : Option Addr) (m cn : Nat) (hr : remB k = false) (hk : k = 7) (w : World) :
    Calls Try.prog 47 #[.agg #[.int .i64 k, .int .i64 a, .int .i64 b, .slice An m cn]] w fun e w' => e = .returned (.iface 89 (.agg #[.int .i64 k, .int .i64 a, .int .i64 b, .slice An m cn])) ∧ Below w.heap.size w w' := by
  have HR := Lib.hid hr
  clear hr
  have d7 : (k == 7) = true := by simpa using hk
  clear hk
  obtain ⟨V, hW⟩ : ∃ z, (w.alloc (.cells #[.int .i64 k, .int .i64 a, .int .i64 b, .slice An m cn] 42)) = z := ⟨_, rfl⟩
  have hb : Below w.heap.size w V := by rw [← hW]; exact ((Below.refl _ _).alloc (by first | (simp; done) | (simp; omega) | omega) _)
  have az : V.heap.size = w.heap.size + 1 := by rw [← hW]; simp
  have NN := Lib.hid (show Blk V (w.heap.size) 42 #[.int .i64 k, .int .i64 a, .int .i64 b, .slice An m cn] by rw [← hW]; exact (Blk.new _ _ _))
  have AZV := Lib.hid az
  clear az
  have sz1 := hb.size
  have B1 := Lib.hid (hb)
  clear hb
  have N_1 := NN
  clear NN
  have ltN : w.heap.size < V.heap.size := N_1.out.lt
  go_enter Try.func47, Try.ntmps47
  have xN0 : V.cell? ⟨w.heap.size, 0, none⟩ = some (.int .i64 k) := by rw [N_1.out.cell]; rfl
  have xN1 : V.cell? ⟨w.heap.size, 1, none⟩ = some (.int .i64 a) := by rw [N_1.out.cell]; rfl
  have xN2 : V.cell? ⟨w.heap.size, 2, none⟩ = some (.int .i64 b) := by rw [N_1.out.cell]; rfl
  have xN3 : V.cell? ⟨w.heap.size, 3, none⟩ = some (.slice An m cn) := by rw [N_1.out.cell]; rfl
  go_wp2_with fail
  clear hW xN0 xN1 xN2 xN3
  refine (implRemG_is HR.out _).mono ?_
  rintro e w1 ⟨rfl, hb⟩
  have sz2 := hb.size
  have B2 := Lib.hid (below_chain B1.out hb)
  have N_2 := Lib.hid (N_1.out.below hb)
  clear hb B1 N_1
  have xN0 : w1.cell? ⟨w.heap.size, 0, none⟩ = some (.int .i64 k) := by rw [N_2.out.cell]; rfl
  have xN1 : w1.cell? ⟨w.heap.size, 1, none⟩ = some (.int .i64 a) := by rw [N_2.out.cell]; rfl
  have xN2 : w1.cell? ⟨w.heap.size, 2, none⟩ = some (.int .i64 b) := by rw [N_2.out.cell]; rfl
  have xN3 : w1.cell? ⟨w.heap.size, 3, none⟩ = some (.slice An m cn) := by rw [N_2.out.cell]; rfl
  go_wp2
  go_ret
  exact ⟨rfl, B2.out⟩

set_option maxRecDepth 100000 in
set_option maxHeartbeats 2000000 in
theorem opOf_else (k a b : Int) (An : Option Addr) (m cn : Nat) (hr : remB k = false) (hk : k ≠ 7) (w : World) :
    Calls Try.prog 47 #[.agg #[.int .i64 k, .int .i64 a, .int .i64 b, .slice An m cn]] w fun e w' => e = .returned (.iface 121 (.agg #[.int .i64 k, .int .i64 a, .int .i64 b, .slice An m cn])) ∧ Below w.heap.size w w' := by
  have HR := Lib.hid hr
  clear hr
  have d7 : (k == 7) = false := by simpa using hk
  clear hk
  obtain ⟨V, hW⟩ : ∃ z, (w.alloc (.cells #[.int .i64 k, .int .i64 a, .int .i64 b, .slice An m cn] 42)) = z := ⟨_, rfl⟩
  have hb : Below w.heap.size w V := by rw [← hW]; exact ((Below.refl _ _).alloc (by first | (simp; done) | (simp; omega) | omega) _)
  have az : V.heap.size = w.heap.size + 1 := by rw [← hW]; simp
  have NN := Lib.hid (show Blk V (w.heap.size) 42 #[.int .i64 k, .int .i64 a, .int .i64 b, .slice An m cn] by rw [← hW]; exact (Blk.new _ _ _))
  have AZV := Lib.hid az
  clear az
  have sz1 := hb.size
  have B1 := Lib.hid (hb)
  clear hb
  have N_1 := NN
  clear NN
  have ltN : w.heap.size < V.heap.size := N_1.out.lt
  go_enter Try.func47, Try.ntmps47
  have xN0 : V.cell? ⟨w.heap.size, 0, none⟩ = some (.int .i64 k) := by rw [N_1.out.cell]; rfl
  have xN1 : V.cell? ⟨w.heap.size, 1, none⟩ = some (.int .i64 a) := by rw [N_1.out.cell]; rfl
  have xN2 : V.cell? ⟨w.heap.size, 2, none⟩ = some (.int .i64 b) := by rw [N_1.out.cell]; rfl
  have xN3 : V.cell? ⟨w.heap.size, 3, none⟩ = some (.slice An m cn) := by rw [N_1.out.cell]; rfl
  go_wp2_with fail
  clear hW xN0 xN1 xN2 xN3
  refine (implRemG_is HR.out _).mono ?_
  rintro e w1 ⟨rfl, hb⟩
  have sz2 := hb.size
  have B2 := Lib.hid (below_chain B1.out hb)
  have N_2 := Lib.hid (N_1.out.below hb)
  clear hb B1 N_1
  have xN0 : w1.cell? ⟨w.heap.size, 0, none⟩ = some (.int .i64 k) := by rw [N_2.out.cell]; rfl
  have xN1 : w1.cell? ⟨w.heap.size, 1, none⟩ = some (.int .i64 a) := by rw [N_2.out.cell]; rfl
  have xN2 : w1.cell? ⟨w.heap.size, 2, none⟩ = some (.int .i64 b) := by rw [N_2.out.cell]; rfl
  have xN3 : w1.cell? ⟨w.heap.size, 3, none⟩ = some (.slice An m cn) := by rw [N_2.out.cell]; rfl
  go_wp2
  go_ret
  exact ⟨rfl, B2.out⟩

set_option maxRecDepth 100000 in
set_option maxHeartbeats 2000000 in
theorem cellOf_any (r0 r1 r2 r3 r4 : Int) (w : World) :
    Calls Try.prog 72 #[.agg #[.int .i64 r0, .int .i64 r1, .int .i64 r2, .int .i64 r3, .int .i64 r4]] w fun e w' => e = .returned (.agg #[.int .i64 r0, .int .i64 r1, .int .i64 r3, .int .i64 r4]) ∧ Below w.heap.size w w' := by
  go_enter Try.func72, Try.ntmps72
  go_wp2
  exact bodyPost_ret (v := .agg #[.int .i64 r0, .int .i64 r1, .int .i64 r3, .int .i64 r4]) (by simp [results, Try.results72, go_sem]) rfl ⟨rfl, ((Below.refl _ _).alloc (Nat.le_refl _) _).alloc (by simp) _⟩

/-- What the sending loop keeps. -/
structure SentSt (w wr : World) (rb : Nat) (AO : Option Addr) (j cO : Nat) (out : List Rc) (r1 r2 r3 r4 : Int) : Prop where
  o : wr.ownsRow (rb + 1) 31 5 (.slice AO j cO) j (rcCells out)
  r : ∃ x, Blk wr rb 31 #[.int .i64 x, .int .i64 r1, .int .i64 r2, .int .i64 r3, .int .i64 r4]
  rw : w.heap.size ≤ rb
  bel : Below w.heap.size w wr
  sz : rb < wr.heap.size

set_option maxRecDepth 100000 in
set_option maxHeartbeats 4000000 in
theorem sentTo_any (zs : List Int) (m : Nat) (hm : zs.length = m) (hmn : m ≤ 1048576) (An : Option Addr) (cn : Nat) (r0 r1 r2 r3 r4 : Int) (w : World) (h : Ints w An zs) :
    Calls Try.prog 73 #[.slice An m cn, .agg #[.int .i64 r0, .int .i64 r1, .int .i64 r2, .int .i64 r3, .int .i64 r4]] w fun e w' => ∃ A c, e = .returned (.slice A m c) ∧ w'.ownsRow w.heap.size 31 5 (.slice A m c) m (rcCells (emitL zs (r1, r2) r3 r4)) ∧ Below w.heap.size w w' := by
  have HM := Lib.hid hm
  have S0 := Lib.hid h
  clear hm h
  obtain ⟨V2, hW⟩ : ∃ z, ((w.alloc (.cells #[.int .i64 r0, .int .i64 r1, .int .i64 r2, .int .i64 r3, .int .i64 r4] 31)).alloc (.cells #[] 31)) = z := ⟨_, rfl⟩
  have hb : Below w.heap.size w V2 := by rw [← hW]; exact (((Below.refl _ _).alloc (by first | (simp; done) | (simp; omega) | omega) _).alloc (by first | (simp; done) | (simp; omega) | omega) _)
  have az : V2.heap.size = w.heap.size + 2 := by rw [← hW]; simp
  have NR := Lib.hid (show Blk V2 (w.heap.size) 31 #[.int .i64 r0, .int .i64 r1, .int .i64 r2, .int .i64 r3, .int .i64 r4] by rw [← hW]; exact ((Below.heap_alloc _ _ _ (by first | (simp; done) | (simp; omega))).trans (Blk.new _ _ _)))
  have NE := Lib.hid (show Blk V2 (w.heap.size + 1) 31 #[] by rw [← hW]; exact ((show w.heap.size + 1 = ((w.alloc _)).heap.size by simp) ▸ Blk.new _ _ _))
  have AZV2 := Lib.hid az
  clear az
  have sz1 := hb.size
  have B1 := Lib.hid (hb)
  clear hb
  have R_1 := NR
  clear NR
  have ltR : w.heap.size < V2.heap.size := R_1.out.lt
  have E_1 := NE
  clear NE
  have ltE : w.heap.size + 1 < V2.heap.size := E_1.out.lt
  have rO := row_lit (size := 5) E_1.out
  have LS := Lib.hid (show SentSt w V2 w.heap.size (some ⟨w.heap.size + 1, 0, none⟩) 0 0 [] r1 r2 r3 r4 from ⟨own_base rO.own (by omega), ⟨r0, R_1.out⟩, Nat.le_refl _, B1.out, by omega⟩)
  have SZ := Lib.hid (S0.out.below B1.out)
  go_enter Try.func73, Try.ntmps73
  go_wp2_with fail
  go_loopw [5, 11] (fun v i wr => ∃ (j : Nat) (AO : Option Addr) (cO : Nat), i = .int .i64 (j : Int) ∧ j ≤ m ∧ v = .slice AO j cO ∧ SentSt w wr w.heap.size AO j cO (emitL (zs.take j) (r1, r2) r3 r4) r1 r2 r3 r4) (fun _ i _ => m - (intOf i).toNat)
  case atStart => exact ⟨0, _, 0, rfl, Nat.zero_le _, rfl, LS.out⟩
  case round =>
    obtain ⟨j, AO, cO, rfl, hj, rfl, hS⟩ := hrel
    have SR := Lib.hid hS
    clear hS
    by_cases hlt : j < m
    · obtain ⟨x, rx⟩ := SR.out.r
      have RX := Lib.hid rx
      clear rx
      obtain ⟨bz, oz, z, rfl, hz2, hze⟩ := (S0.out.below SR.out.bel).at (show j < zs.length by rw [HM.out]; exact hlt)
      have i0 : (0 : Int) ≤ (j : Int) := by omega
      have i1 : (j : Int) < (m : Int) := by omega
      obtain ⟨out, hout⟩ : ∃ o, emitL (zs.take j) (r1, r2) r3 r4 = o := ⟨_, rfl⟩
      have ES := Lib.hid (show emitL (zs.take (j + 1)) (r1, r2) r3 r4 = out ++ [(z, (r1, r2), r3, r4)] by rw [emit_step (by rw [HM.out]; exact hlt), hout, hz2])
      rw [hout] at SR
      have fr0 := RX.out.frozen 0
      obtain ⟨W, hW⟩ : ∃ W, wr.setCell ⟨w.heap.size, 0, none⟩ (.int .i64 z) = W := ⟨_, rfl⟩
      have RW := Lib.hid (show Blk W w.heap.size 31 #[.int .i64 z, .int .i64 r1, .int .i64 r2, .int .i64 r3, .int .i64 r4] by rw [← hW]; exact RX.out.put 0 _)
      have GW := Lib.hid (show wr.grownBy W (some w.heap.size) by rw [← hW]; exact grown_set _ _ _)
      have OW := Lib.hid (show W.ownsRow (w.heap.size + 1) 31 5 (.slice AO j cO) j (rcCells out) by rw [← hW]; exact own_set SR.out.o _ (by simp))
      obtain ⟨U, hU⟩ : ∃ U, W.alloc (.cells #[.int .i64 z, .int .i64 r1, .int .i64 r2, .int .i64 r3, .int .i64 r4] 31) = U := ⟨_, rfl⟩
      have bU : Below W.heap.size W U := by rw [← hU]; exact (Below.refl _ _).alloc (Nat.le_refl _) _
      have NU := Lib.hid (show Rcs U (some ⟨W.heap.size, 0, none⟩) [(z, (r1, r2), r3, r4)] by rw [← hU]; exact rc_new _ _ _ _ _ _)
      have OU := Lib.hid (own_below OW.out bU)
      have RU := Lib.hid (RW.out.below bU)
      have SU := Lib.hid bU.size
      have WU := Lib.hid (show W.heap.size = wr.heap.size by rw [← hW]; simp)
      have BW := Lib.hid (show Below w.heap.size w W from SR.out.bel.grown GW.out SR.out.bel.size (fun g hg => by
        have e : w.heap.size = g := Option.some.inj hg
        have := SR.out.rw
        omega))
      have BU := Lib.hid (below_chain BW.out bU)
      clear bU hout hz2
      have y0 : W.cell? ⟨w.heap.size, 0, none⟩ = some (.int .i64 z) := by rw [RW.out.cell]; rfl
      have y1 : W.cell? ⟨w.heap.size, 1, none⟩ = some (.int .i64 r1) := by rw [RW.out.cell]; rfl
      have y2 : W.cell? ⟨w.heap.size, 2, none⟩ = some (.int .i64 r2) := by rw [RW.out.cell]; rfl
      have y3 : W.cell? ⟨w.heap.size, 3, none⟩ = some (.int .i64 r3) := by rw [RW.out.cell]; rfl
      have y4 : W.cell? ⟨w.heap.size, 4, none⟩ = some (.int .i64 r4) := by rw [RW.out.cell]; rfl
      have xx : wr.cell? ⟨w.heap.size, 0, none⟩ = some (.int .i64 x) := by rw [RX.out.cell]; rfl
      have RB := Lib.hid SR.out.sz
      have WS := Lib.hid (show w.heap.size + 1 ≤ U.heap.size by have := RB.out; have := SU.out; have := WU.out; omega)
      have RQ := Lib.hid SR.out.rw
      go_wp2_with (at_builtin; refine wpList_append_rc rfl (.tmp 17) (.tmp 19) (by rfl) (w.heap.size + 1) (.slice AO j cO) j out (by rfl) OU.out (some ⟨W.heap.size, 0, none⟩) 1 1 [(z, (r1, r2), r3, r4)] (by rfl) (fun h => by cases h) rfl NU.out (by omega) WS.out ?_; intro v8 w8 own8 gr8; generalize hG : wpList _ _ _ _ _ _ = GG)
      have b8 : Below w.heap.size w w8 := BU.out.grown gr8 BU.out.size (fun g hg => by have h1 := own_ge OU.out g hg; have h2 := RQ.out; omega)
      have r8 : Blk w8 w.heap.size 31 #[.int .i64 z, .int .i64 r1, .int .i64 r2, .int .i64 r3, .int .i64 r4] := RU.out.grown gr8 (fun e => by have h1 := own_ge OU.out w.heap.size e.symm; omega)
      obtain ⟨A8, c8, rfl, _⟩ := own_form own8
      have S8 := Lib.hid (show SentSt w w8 w.heap.size A8 (j + 1) c8 (out ++ [(z, (r1, r2), r3, r4)]) r1 r2 r3 r4 from ⟨own8, ⟨z, r8⟩, RQ.out, b8, Nat.lt_of_lt_of_le (by have := RB.out; have := SU.out; have := WU.out; omega) gr8.size⟩)
      clear own8 gr8 b8 r8
      subst hG
      go_wp2
      go_roundw
      case rel => exact ⟨j + 1, A8, c8, by go_num, by omega, rfl, by rw [ES.out]; exact S8.out⟩
      case measure => simp [intOf]; omega
    · obtain rfl : j = m := by omega
      have O := SR.out.o
      rw [List.take_of_length_le (by rw [HM.out]; exact Nat.le_refl _)] at O
      have HO := Lib.hid O
      clear O hlt
      have dl : decide (j < j) = false := by simp
      go_wp2
      go_ret
      exact ⟨AO, cO, rfl, own_base HO.out (by have := SR.out.rw; omega), SR.out.bel⟩
end Go.Proofs.Ytlanmkimaambgaa.hexes

