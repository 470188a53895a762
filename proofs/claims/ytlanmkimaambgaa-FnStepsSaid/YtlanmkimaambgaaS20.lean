/-
  The program's process: what one node does with one record.
-/
import Derived.Test.YtlanmkimaambgaaS10
import Derived.Test.YtlanmkimaambgaaS3
import Derived.Test.YtlanmkimaambgaaS6
import Derived.Test.YtlanmkimaambgaaS18
import Derived.Test.YtlanmkimaambgaaS19

namespace Go.Proofs.Ytlanmkimaambgaa.hexes
open Go.RowKit

theorem zero_mem : (Try.prog.info? 111).map (fun i => i.zero) = some (some (.agg #[.int .i64 0, .int .i64 0, .int .i64 0, .slice none 0 0])) := by kernel_rfl
theorem zero_back : (Try.prog.info? 89).map (fun i => i.zero) = some (some (.agg #[.int .i64 0, .int .i64 0, .int .i64 0, .slice none 0 0])) := by kernel_rfl
theorem as_mem (xT : TypeId) (v : Value) (w : World) : (Instr.typeAssert (.iface 111 v) xT 111 true).run Try.prog w = .ok (.tuple #[v, .bool true]) w :=
  run_assert_same Try.underlying111 (fun _ h => by cases h) v w
theorem as_back (xT : TypeId) (v : Value) (w : World) : (Instr.typeAssert (.iface 89 v) xT 89 true).run Try.prog w = .ok (.tuple #[v, .bool true]) w :=
  run_assert_same Try.underlying89 (fun _ h => by cases h) v w
theorem as_not_mem {t : TypeId} (ht : t ≠ 111) (xT : TypeId) (v : Value) (w : World) : (Instr.typeAssert (.iface t v) xT 111 true).run Try.prog w = .ok (.tuple #[.agg #[.int .i64 0, .int .i64 0, .int .i64 0, .slice none 0 0], .bool false]) w := by
  obtain ⟨i, hi, hz⟩ := Option.map_eq_some_iff.1 zero_mem
  exact run_assert_other Try.underlying111 (fun _ h => by cases h) hi hz ht v w
theorem as_not_back {t : TypeId} (ht : t ≠ 89) (xT : TypeId) (v : Value) (w : World) : (Instr.typeAssert (.iface t v) xT 89 true).run Try.prog w = .ok (.tuple #[.agg #[.int .i64 0, .int .i64 0, .int .i64 0, .slice none 0 0], .bool false]) w := by
  obtain ⟨i, hi, hz⟩ := Option.map_eq_some_iff.1 zero_back
  exact run_assert_other Try.underlying89 (fun _ h => by cases h) hi hz ht v w

/-- How process ends where the cells stay; where they are new. -/
def ProcEnd0 (w : World) (A2 : Option Addr) (n2 c2 : Nat) (out : List Rc) (e : Ending) (w' : World) : Prop :=
  ∃ A4 c4 m4, out.length = m4 ∧ e = .returned (.tuple #[.slice A2 n2 c2, .slice A4 m4 c4]) ∧ Row w' w.heap.size w'.heap.size 31 5 A4 m4 c4 (rcCells out) ∧ Below w.heap.size w w'
def ProcEnd1 (w : World) (us : List Ce) (m3 : Nat) (out : List Rc) (e : Ending) (w' : World) : Prop :=
  ∃ A3 c3 A4 c4 m4, out.length = m4 ∧ e = .returned (.tuple #[.slice A3 m3 c3, .slice A4 m4 c4]) ∧ Row w' w.heap.size w'.heap.size 75 4 A3 m3 c3 (ceCells us) ∧ Row w' w.heap.size w'.heap.size 31 5 A4 m4 c4 (rcCells out) ∧ Below w.heap.size w w'

theorem rowLow0 {w : World} {lo lo' hi hi' e size n c : Nat} {A : Option Addr} {xs : List Value} (h : Row w lo hi e size A n c xs) (hl : lo' ≤ lo) (hh : hi ≤ hi') : Row w lo' hi' e size A n c xs := ⟨own_base h.own hl, fun g hg => Nat.lt_of_lt_of_le (h.lt g hg) hh⟩

/-- What the region of Recall reads. -/
structure ProcHeld (V : World) (sb rb : Nat) (k r0 r1 r2 r3 r4 : Int) (w : World) : Prop where
  s0 : w.cell? ⟨sb, 0, none⟩ = some (.int .i64 k)
  r0 : w.cell? ⟨rb, 0, none⟩ = some (.int .i64 r0)
  r1 : w.cell? ⟨rb, 1, none⟩ = some (.int .i64 r1)
  r2 : w.cell? ⟨rb, 2, none⟩ = some (.int .i64 r2)
  r3 : w.cell? ⟨rb, 3, none⟩ = some (.int .i64 r3)
  r4 : w.cell? ⟨rb, 4, none⟩ = some (.int .i64 r4)
  bel : Below V.heap.size V w
theorem ProcHeld.below {V : World} {sb rb : Nat} {k r0 r1 r2 r3 r4 : Int} {w w' : World} (h : ProcHeld V sb rb k r0 r1 r2 r3 r4 w) (hb : Below w.heap.size w w') : ProcHeld V sb rb k r0 r1 r2 r3 r4 w' :=
  ⟨below_keep hb h.s0, below_keep hb h.r0, below_keep hb h.r1, below_keep hb h.r2, below_keep hb h.r3, below_keep hb h.r4, below_chain h.bel hb⟩

theorem okX_of {gs : List Nd} {wk cp : Int} {r : Rc} (h : (hasB gs r.1 && okGr gs dec1 wk cp && okRc r) = true) : okX (nodeAt gs r.1) r = true := by
  simp only [Bool.and_eq_true] at h
  obtain ⟨⟨h1, h2⟩, h3⟩ := h
  obtain ⟨j, hj, hl⟩ := hasB_nat h1
  unfold okGr at h2
  simp only [Bool.and_eq_true] at h2
  have h4 := allB_at h2.2 hl
  rw [← nodeAt_of hl, ← hj] at h4
  unfold nodeB okN at h4
  simp only [Bool.and_eq_true] at h4
  unfold okRc at h3
  simp only [Bool.and_eq_true] at h3
  unfold okX okC
  rw [h4.1.1, h3.1.2, h3.2]
  rfl

theorem implRecG_row {kd : Int} {n m : Nat} {zs us : List Ce} {A : Option Addr} {c : Nat} {b : Bool} {x0 x1 x2 x3 : Int} (hz : zs.length = n) (hA : A = none → c = 0) (hc : n ≤ c) (hn : n ≤ 2000000) (hr : recC kd zs (x0, x1, x2, x3) = (us, b)) (hm : us.length = m) (w : World) (h : Ces w A zs) :
    Calls Try.prog 71 #[.int .i64 kd, .slice A n c, .agg #[.int .i64 x0, .int .i64 x1, .int .i64 x2, .int .i64 x3]] w fun e w' => ∃ A1 c1, e = .returned (.tuple #[.slice A1 m c1, .bool b]) ∧ Row w' w.heap.size w'.heap.size 75 4 A1 m c1 (ceCells us) ∧ Below w.heap.size w w' := by
  subst hm
  refine (implRec_any kd n zs hz A c hA hc x0 x1 x2 x3 w h hn).mono ?_
  rintro e w' ⟨v, he, ho, hb⟩
  rw [hr] at he ho
  obtain ⟨A1, c1, rfl, r⟩ := row_of ho
  exact ⟨A1, c1, he, r, hb⟩

set_option maxRecDepth 100000 in
set_option maxHeartbeats 4000000 in
theorem proc_else (k a b : Int) (zs : List Int) (m : Nat) (hm : zs.length = m) (hmn : m ≤ 1048576) (An : Option Addr) (cn : Nat) (hcn : m ≤ cn) (A2 : Option Addr) (n2 c2 : Nat) (r0 r1 r2 r3 r4 : Int) (hok : okC k a b (dec1 a) r3 r4 zs = true) {ky vy : Int} (hK : chgK true k a r3 = ky) (hV : chgV true k a r4 = vy) (w : World) (h : Ints w An zs) (hr : remB k = false) (hk : k ≠ 7)  {out : List Rc} (hout : (if chgO true k a b r3 = true then emitL zs (r1, r2) ky vy else []) = out) :
    Calls Try.prog 40 #[.agg #[.int .i64 k, .int .i64 a, .int .i64 b, .slice An m cn], .slice A2 n2 c2, .agg #[.int .i64 r0, .int .i64 r1, .int .i64 r2, .int .i64 r3, .int .i64 r4]] w (ProcEnd0 w A2 n2 c2 out) := by
  obtain ⟨go, hgo⟩ : ∃ v, chgO true k a b r3 = v := ⟨_, rfl⟩
  have HM := Lib.hid hm
  have HCN := Lib.hid hcn
  have HOK := Lib.hid hok
  have HK := Lib.hid hK
  have HV := Lib.hid hV
  have S0 := Lib.hid h
  clear hm hcn hok hK hV h
  rw [hgo] at hout
  have HGO := Lib.hid hgo
  have HOUT := Lib.hid hout
  clear hgo hout
  obtain ⟨V, hW⟩ : ∃ z, ((w.alloc (.cells #[.int .i64 k, .int .i64 a, .int .i64 b, .slice An m cn] 42)).alloc (.cells #[.int .i64 r0, .int .i64 r1, .int .i64 r2, .int .i64 r3, .int .i64 r4] 31)) = z := ⟨_, rfl⟩
  have hb : Below w.heap.size w V := by rw [← hW]; exact (((Below.refl _ _).alloc (by first | (simp; done) | (simp; omega) | omega) _).alloc (by first | (simp; done) | (simp; omega) | omega) _)
  have az : V.heap.size = w.heap.size + 2 := by rw [← hW]; simp
  have NN := Lib.hid (show Blk V (w.heap.size) 42 #[.int .i64 k, .int .i64 a, .int .i64 b, .slice An m cn] by rw [← hW]; exact ((Below.heap_alloc _ _ _ (by first | (simp; done) | (simp; omega))).trans (Blk.new _ _ _)))
  have NR := Lib.hid (show Blk V (w.heap.size + 1) 31 #[.int .i64 r0, .int .i64 r1, .int .i64 r2, .int .i64 r3, .int .i64 r4] by rw [← hW]; exact ((show w.heap.size + 1 = ((w.alloc _)).heap.size by simp) ▸ Blk.new _ _ _))
  have AZV := Lib.hid az
  clear az
  have sz1 := hb.size
  have B1 := Lib.hid (hb)
  clear hb
  have N_1 := NN
  clear NN
  have ltN : w.heap.size < V.heap.size := N_1.out.lt
  have R_1 := NR
  clear NR
  have ltR : w.heap.size + 1 < V.heap.size := R_1.out.lt
  go_enter Try.func40, Try.ntmps40
  have xN0 : V.cell? ⟨w.heap.size, 0, none⟩ = some (.int .i64 k) := by rw [N_1.out.cell]; rfl
  have xN1 : V.cell? ⟨w.heap.size, 1, none⟩ = some (.int .i64 a) := by rw [N_1.out.cell]; rfl
  have xN2 : V.cell? ⟨w.heap.size, 2, none⟩ = some (.int .i64 b) := by rw [N_1.out.cell]; rfl
  have xN3 : V.cell? ⟨w.heap.size, 3, none⟩ = some (.slice An m cn) := by rw [N_1.out.cell]; rfl
  have xR0 : V.cell? ⟨w.heap.size + 1, 0, none⟩ = some (.int .i64 r0) := by rw [R_1.out.cell]; rfl
  have xR1 : V.cell? ⟨w.heap.size + 1, 1, none⟩ = some (.int .i64 r1) := by rw [R_1.out.cell]; rfl
  have xR2 : V.cell? ⟨w.heap.size + 1, 2, none⟩ = some (.int .i64 r2) := by rw [R_1.out.cell]; rfl
  have xR3 : V.cell? ⟨w.heap.size + 1, 3, none⟩ = some (.int .i64 r3) := by rw [R_1.out.cell]; rfl
  have xR4 : V.cell? ⟨w.heap.size + 1, 4, none⟩ = some (.int .i64 r4) := by rw [R_1.out.cell]; rfl
  go_wp2_with fail
  clear hW xN0 xN1 xN2 xN3 xR0 xR1 xR2 xR3 xR4
  refine (implChg_any k a b (dec1 a) r3 r4 An m cn zs HM.out HCN.out rfl _ (S0.out.below B1.out) hmn HOK.out HK.out HV.out HGO.out).mono ?_
  rintro e w3 ⟨rfl, hb⟩
  have sz2 := hb.size
  have B2 := Lib.hid (below_chain B1.out hb)
  have N_2 := Lib.hid (N_1.out.below hb)
  have R_2 := Lib.hid (R_1.out.below hb)
  clear hb B1 N_1 R_1
  have yR1 : w3.cell? ⟨w.heap.size + 1, 1, none⟩ = some (.int .i64 r1) := by rw [R_2.out.cell]; rfl
  have yR2 : w3.cell? ⟨w.heap.size + 1, 2, none⟩ = some (.int .i64 r2) := by rw [R_2.out.cell]; rfl
  obtain ⟨V3, hW⟩ : ∃ z, (w3.alloc (.cells #[.int .i64 r1, .int .i64 r2] 29)) = z := ⟨_, rfl⟩
  have hb : Below w3.heap.size w3 V3 := by rw [← hW]; exact ((Below.refl _ _).alloc (by first | (simp; done) | (simp; omega) | omega) _)
  have az : V3.heap.size = w3.heap.size + 1 := by rw [← hW]; simp
  have NT := Lib.hid (show Blk V3 (w3.heap.size) 29 #[.int .i64 r1, .int .i64 r2] by rw [← hW]; exact (Blk.new _ _ _))
  have AZV3 := Lib.hid az
  clear az
  have sz3 := hb.size
  have B3 := Lib.hid (below_chain B2.out hb)
  have N_3 := Lib.hid (N_2.out.below hb)
  have R_3 := Lib.hid (R_2.out.below hb)
  clear hb B2 N_2 R_2
  have T_3 := NT
  clear NT
  have ltT : w3.heap.size < V3.heap.size := T_3.out.lt
  have xN0 : V3.cell? ⟨w.heap.size, 0, none⟩ = some (.int .i64 k) := by rw [N_3.out.cell]; rfl
  have xN1 : V3.cell? ⟨w.heap.size, 1, none⟩ = some (.int .i64 a) := by rw [N_3.out.cell]; rfl
  have xN2 : V3.cell? ⟨w.heap.size, 2, none⟩ = some (.int .i64 b) := by rw [N_3.out.cell]; rfl
  have xN3 : V3.cell? ⟨w.heap.size, 3, none⟩ = some (.slice An m cn) := by rw [N_3.out.cell]; rfl
  have xR0 : V3.cell? ⟨w.heap.size + 1, 0, none⟩ = some (.int .i64 r0) := by rw [R_3.out.cell]; rfl
  have xR1 : V3.cell? ⟨w.heap.size + 1, 1, none⟩ = some (.int .i64 r1) := by rw [R_3.out.cell]; rfl
  have xR2 : V3.cell? ⟨w.heap.size + 1, 2, none⟩ = some (.int .i64 r2) := by rw [R_3.out.cell]; rfl
  have xR3 : V3.cell? ⟨w.heap.size + 1, 3, none⟩ = some (.int .i64 r3) := by rw [R_3.out.cell]; rfl
  have xR4 : V3.cell? ⟨w.heap.size + 1, 4, none⟩ = some (.int .i64 r4) := by rw [R_3.out.cell]; rfl
  go_wp2_with fail
  clear hW yR1 yR2 xN0 xN1 xN2 xN3 xR0 xR1 xR2 xR3 xR4
  refine (opOf_else k a b An m cn hr hk _).mono ?_
  rintro e w4 ⟨rfl, hb⟩
  have sz4 := hb.size
  have B4 := Lib.hid (below_chain B3.out hb)
  have N_4 := Lib.hid (N_3.out.below hb)
  have R_4 := Lib.hid (R_3.out.below hb)
  have T_4 := Lib.hid (T_3.out.below hb)
  clear hb B3 N_3 R_3 T_3
  have q1 := as_not_mem (t := 121) (by decide)
  have q2 := as_not_back (t := 121) (by decide)
  cases go with
  | false =>
    obtain rfl : out = [] := by rw [← HOUT.out]; rfl
    go_wp2
    have rO : Row (w4.alloc (.cells #[] 31)) w.heap.size (w4.alloc (.cells #[] 31)).heap.size 31 5 (some ⟨w4.heap.size, 0, none⟩) 0 0 (rcCells []) := rowLow0 (row_lit (size := 5) (Blk.new w4 31 #[])) (by omega) (by simp)
    exact bodyPost_ret (v := .tuple #[.slice A2 n2 c2, .slice (some ⟨w4.heap.size, 0, none⟩) 0 0]) (by simp [results, Try.results40, go_sem]) rfl (⟨_, 0, 0, rfl, rfl, rO, B4.out.alloc B4.out.size _⟩)
  | true =>
    have xN0 : w4.cell? ⟨w.heap.size, 0, none⟩ = some (.int .i64 k) := by rw [N_4.out.cell]; rfl
    have xN1 : w4.cell? ⟨w.heap.size, 1, none⟩ = some (.int .i64 a) := by rw [N_4.out.cell]; rfl
    have xN2 : w4.cell? ⟨w.heap.size, 2, none⟩ = some (.int .i64 b) := by rw [N_4.out.cell]; rfl
    have xN3 : w4.cell? ⟨w.heap.size, 3, none⟩ = some (.slice An m cn) := by rw [N_4.out.cell]; rfl
    have xT0 : w4.cell? ⟨w3.heap.size, 0, none⟩ = some (.int .i64 r1) := by rw [T_4.out.cell]; rfl
    have xT1 : w4.cell? ⟨w3.heap.size, 1, none⟩ = some (.int .i64 r2) := by rw [T_4.out.cell]; rfl
    go_wp2_with fail
    clear xN0 xN1 xN2 xN3 xT0 xT1
    refine (sentTo_any zs m HM.out hmn An cn 0 r1 r2 ky vy _ (S0.out.below B4.out)).mono ?_
    rintro e w9 ⟨A4, c4, rfl, o4, hb⟩
    have sz5 := hb.size
    have B5 := Lib.hid (below_chain B4.out hb)
    have N_5 := Lib.hid (N_4.out.below hb)
    have R_5 := Lib.hid (R_4.out.below hb)
    have T_5 := Lib.hid (T_4.out.below hb)
    clear hb B4 N_4 R_4 T_4
    obtain ⟨B4x, c4x, he4, r4x⟩ := row_of o4
    simp only [Value.slice.injEq, true_and] at he4
    obtain ⟨rfl, rfl⟩ := he4
    clear o4
    have Y_5 := Lib.hid r4x
    clear r4x
    obtain rfl : out = emitL zs (r1, r2) ky vy := by rw [← HOUT.out]; rfl
    have lm := Lib.hid (show (emitL zs (r1, r2) ky vy).length = m by rw [emit_len]; exact HM.out)
    go_wp2
    exact bodyPost_ret (v := .tuple #[.slice A2 n2 c2, .slice A4 m c4]) (by simp [results, Try.results40, go_sem]) rfl (⟨A4, c4, m, lm.out, rfl, rowLow0 Y_5.out (by omega) (Nat.le_refl _), B5.out⟩)

set_option maxRecDepth 100000 in
set_option maxHeartbeats 4000000 in
theorem proc_back (k a b : Int) (zs : List Int) (m : Nat) (hm : zs.length = m) (hmn : m ≤ 1048576) (An : Option Addr) (cn : Nat) (hcn : m ≤ cn) (A2 : Option Addr) (n2 c2 : Nat) (r0 r1 r2 r3 r4 : Int) (hok : okC k a b (dec1 a) r3 r4 zs = true) {ky vy : Int} (hK : chgK true k a r3 = ky) (hV : chgV true k a r4 = vy) (w : World) (h : Ints w An zs) (hr : remB k = false) (hk : k = 7)  {out : List Rc} (hout : (if hasNext r1 r2 = true then emitL zs (r1, r2 + 1) ky vy else []) = out) :
    Calls Try.prog 40 #[.agg #[.int .i64 k, .int .i64 a, .int .i64 b, .slice An m cn], .slice A2 n2 c2, .agg #[.int .i64 r0, .int .i64 r1, .int .i64 r2, .int .i64 r3, .int .i64 r4]] w (ProcEnd0 w A2 n2 c2 out) := by
  obtain ⟨go, hgo⟩ : ∃ v, chgO true k a b r3 = v := ⟨_, rfl⟩
  have HM := Lib.hid hm
  have HCN := Lib.hid hcn
  have HOK := Lib.hid hok
  have HK := Lib.hid hK
  have HV := Lib.hid hV
  have S0 := Lib.hid h
  clear hm hcn hok hK hV h
  have HGO := Lib.hid hgo
  clear hgo
  have HKK := Lib.hid hk
  clear hk
  obtain ⟨hv, hhv⟩ : ∃ y, hasNext r1 r2 = y := ⟨_, rfl⟩
  obtain ⟨ny, hny⟩ : ∃ y, nextY r1 r2 = y := ⟨_, rfl⟩
  rw [hhv] at hout
  have HOUT := Lib.hid hout
  clear hout
  have HHV := Lib.hid hhv
  have HNY := Lib.hid hny
  clear hhv hny
  obtain ⟨V, hW⟩ : ∃ z, ((w.alloc (.cells #[.int .i64 k, .int .i64 a, .int .i64 b, .slice An m cn] 42)).alloc (.cells #[.int .i64 r0, .int .i64 r1, .int .i64 r2, .int .i64 r3, .int .i64 r4] 31)) = z := ⟨_, rfl⟩
  have hb : Below w.heap.size w V := by rw [← hW]; exact (((Below.refl _ _).alloc (by first | (simp; done) | (simp; omega) | omega) _).alloc (by first | (simp; done) | (simp; omega) | omega) _)
  have az : V.heap.size = w.heap.size + 2 := by rw [← hW]; simp
  have NN := Lib.hid (show Blk V (w.heap.size) 42 #[.int .i64 k, .int .i64 a, .int .i64 b, .slice An m cn] by rw [← hW]; exact ((Below.heap_alloc _ _ _ (by first | (simp; done) | (simp; omega))).trans (Blk.new _ _ _)))
  have NR := Lib.hid (show Blk V (w.heap.size + 1) 31 #[.int .i64 r0, .int .i64 r1, .int .i64 r2, .int .i64 r3, .int .i64 r4] by rw [← hW]; exact ((show w.heap.size + 1 = ((w.alloc _)).heap.size by simp) ▸ Blk.new _ _ _))
  have AZV := Lib.hid az
  clear az
  have sz1 := hb.size
  have B1 := Lib.hid (hb)
  clear hb
  have N_1 := NN
  clear NN
  have ltN : w.heap.size < V.heap.size := N_1.out.lt
  have R_1 := NR
  clear NR
  have ltR : w.heap.size + 1 < V.heap.size := R_1.out.lt
  go_enter Try.func40, Try.ntmps40
  have xN0 : V.cell? ⟨w.heap.size, 0, none⟩ = some (.int .i64 k) := by rw [N_1.out.cell]; rfl
  have xN1 : V.cell? ⟨w.heap.size, 1, none⟩ = some (.int .i64 a) := by rw [N_1.out.cell]; rfl
  have xN2 : V.cell? ⟨w.heap.size, 2, none⟩ = some (.int .i64 b) := by rw [N_1.out.cell]; rfl
  have xN3 : V.cell? ⟨w.heap.size, 3, none⟩ = some (.slice An m cn) := by rw [N_1.out.cell]; rfl
  have xR0 : V.cell? ⟨w.heap.size + 1, 0, none⟩ = some (.int .i64 r0) := by rw [R_1.out.cell]; rfl
  have xR1 : V.cell? ⟨w.heap.size + 1, 1, none⟩ = some (.int .i64 r1) := by rw [R_1.out.cell]; rfl
  have xR2 : V.cell? ⟨w.heap.size + 1, 2, none⟩ = some (.int .i64 r2) := by rw [R_1.out.cell]; rfl
  have xR3 : V.cell? ⟨w.heap.size + 1, 3, none⟩ = some (.int .i64 r3) := by rw [R_1.out.cell]; rfl
  have xR4 : V.cell? ⟨w.heap.size + 1, 4, none⟩ = some (.int .i64 r4) := by rw [R_1.out.cell]; rfl
  go_wp2_with fail
  clear hW xN0 xN1 xN2 xN3 xR0 xR1 xR2 xR3 xR4
  refine (implChg_any k a b (dec1 a) r3 r4 An m cn zs HM.out HCN.out rfl _ (S0.out.below B1.out) hmn HOK.out HK.out HV.out HGO.out).mono ?_
  rintro e w3 ⟨rfl, hb⟩
  have sz2 := hb.size
  have B2 := Lib.hid (below_chain B1.out hb)
  have N_2 := Lib.hid (N_1.out.below hb)
  have R_2 := Lib.hid (R_1.out.below hb)
  clear hb B1 N_1 R_1
  have yR1 : w3.cell? ⟨w.heap.size + 1, 1, none⟩ = some (.int .i64 r1) := by rw [R_2.out.cell]; rfl
  have yR2 : w3.cell? ⟨w.heap.size + 1, 2, none⟩ = some (.int .i64 r2) := by rw [R_2.out.cell]; rfl
  obtain ⟨V3, hW⟩ : ∃ z, (w3.alloc (.cells #[.int .i64 r1, .int .i64 r2] 29)) = z := ⟨_, rfl⟩
  have hb : Below w3.heap.size w3 V3 := by rw [← hW]; exact ((Below.refl _ _).alloc (by first | (simp; done) | (simp; omega) | omega) _)
  have az : V3.heap.size = w3.heap.size + 1 := by rw [← hW]; simp
  have NT := Lib.hid (show Blk V3 (w3.heap.size) 29 #[.int .i64 r1, .int .i64 r2] by rw [← hW]; exact (Blk.new _ _ _))
  have AZV3 := Lib.hid az
  clear az
  have sz3 := hb.size
  have B3 := Lib.hid (below_chain B2.out hb)
  have N_3 := Lib.hid (N_2.out.below hb)
  have R_3 := Lib.hid (R_2.out.below hb)
  clear hb B2 N_2 R_2
  have T_3 := NT
  clear NT
  have ltT : w3.heap.size < V3.heap.size := T_3.out.lt
  have xN0 : V3.cell? ⟨w.heap.size, 0, none⟩ = some (.int .i64 k) := by rw [N_3.out.cell]; rfl
  have xN1 : V3.cell? ⟨w.heap.size, 1, none⟩ = some (.int .i64 a) := by rw [N_3.out.cell]; rfl
  have xN2 : V3.cell? ⟨w.heap.size, 2, none⟩ = some (.int .i64 b) := by rw [N_3.out.cell]; rfl
  have xN3 : V3.cell? ⟨w.heap.size, 3, none⟩ = some (.slice An m cn) := by rw [N_3.out.cell]; rfl
  have xR0 : V3.cell? ⟨w.heap.size + 1, 0, none⟩ = some (.int .i64 r0) := by rw [R_3.out.cell]; rfl
  have xR1 : V3.cell? ⟨w.heap.size + 1, 1, none⟩ = some (.int .i64 r1) := by rw [R_3.out.cell]; rfl
  have xR2 : V3.cell? ⟨w.heap.size + 1, 2, none⟩ = some (.int .i64 r2) := by rw [R_3.out.cell]; rfl
  have xR3 : V3.cell? ⟨w.heap.size + 1, 3, none⟩ = some (.int .i64 r3) := by rw [R_3.out.cell]; rfl
  have xR4 : V3.cell? ⟨w.heap.size + 1, 4, none⟩ = some (.int .i64 r4) := by rw [R_3.out.cell]; rfl
  go_wp2_with fail
  clear hW yR1 yR2 xN0 xN1 xN2 xN3 xR0 xR1 xR2 xR3 xR4
  refine (opOf_back k a b An m cn hr HKK.out _).mono ?_
  rintro e w4 ⟨rfl, hb⟩
  have sz4 := hb.size
  have B4 := Lib.hid (below_chain B3.out hb)
  have N_4 := Lib.hid (N_3.out.below hb)
  have R_4 := Lib.hid (R_3.out.below hb)
  have T_4 := Lib.hid (T_3.out.below hb)
  clear hb B3 N_3 R_3 T_3
  have q1 := as_not_mem (t := 89) (by decide)
  have q2 := as_back
  obtain ⟨V5, hW⟩ : ∃ z, (w4.alloc (.cells #[.int .i64 k, .int .i64 a, .int .i64 b, .slice An m cn] 89)) = z := ⟨_, rfl⟩
  have hb : Below w4.heap.size w4 V5 := by rw [← hW]; exact ((Below.refl _ _).alloc (by first | (simp; done) | (simp; omega) | omega) _)
  have az : V5.heap.size = w4.heap.size + 1 := by rw [← hW]; simp
  have NF := Lib.hid (show Blk V5 (w4.heap.size) 89 #[.int .i64 k, .int .i64 a, .int .i64 b, .slice An m cn] by rw [← hW]; exact (Blk.new _ _ _))
  have AZV5 := Lib.hid az
  clear az
  have sz5 := hb.size
  have B5 := Lib.hid (below_chain B4.out hb)
  have N_5 := Lib.hid (N_4.out.below hb)
  have R_5 := Lib.hid (R_4.out.below hb)
  have T_5 := Lib.hid (T_4.out.below hb)
  clear hb B4 N_4 R_4 T_4
  have F_5 := NF
  clear NF
  have ltF : w4.heap.size < V5.heap.size := F_5.out.lt
  have xR0 : V5.cell? ⟨w.heap.size + 1, 0, none⟩ = some (.int .i64 r0) := by rw [R_5.out.cell]; rfl
  have xR1 : V5.cell? ⟨w.heap.size + 1, 1, none⟩ = some (.int .i64 r1) := by rw [R_5.out.cell]; rfl
  have xR2 : V5.cell? ⟨w.heap.size + 1, 2, none⟩ = some (.int .i64 r2) := by rw [R_5.out.cell]; rfl
  have xR3 : V5.cell? ⟨w.heap.size + 1, 3, none⟩ = some (.int .i64 r3) := by rw [R_5.out.cell]; rfl
  have xR4 : V5.cell? ⟨w.heap.size + 1, 4, none⟩ = some (.int .i64 r4) := by rw [R_5.out.cell]; rfl
  go_wp2_with fail
  clear hW xR0 xR1 xR2 xR3 xR4
  refine (implNext_any r1 r2 _).mono ?_
  rintro e w6 ⟨rfl, hb⟩
  rw [HNY.out, HHV.out]
  have sz6 := hb.size
  have B6 := Lib.hid (below_chain B5.out hb)
  have N_6 := Lib.hid (N_5.out.below hb)
  have R_6 := Lib.hid (R_5.out.below hb)
  have T_6 := Lib.hid (T_5.out.below hb)
  have F_6 := Lib.hid (F_5.out.below hb)
  clear hb B5 N_5 R_5 T_5 F_5
  cases hv with
  | false =>
    have xT0 : w6.cell? ⟨w3.heap.size, 0, none⟩ = some (.int .i64 r1) := by rw [T_6.out.cell]; rfl
    have xT1 : w6.cell? ⟨w3.heap.size, 1, none⟩ = some (.int .i64 r2) := by rw [T_6.out.cell]; rfl
    have xN0 : w6.cell? ⟨w.heap.size, 0, none⟩ = some (.int .i64 k) := by rw [N_6.out.cell]; rfl
    have xN1 : w6.cell? ⟨w.heap.size, 1, none⟩ = some (.int .i64 a) := by rw [N_6.out.cell]; rfl
    have xN2 : w6.cell? ⟨w.heap.size, 2, none⟩ = some (.int .i64 b) := by rw [N_6.out.cell]; rfl
    have xN3 : w6.cell? ⟨w.heap.size, 3, none⟩ = some (.slice An m cn) := by rw [N_6.out.cell]; rfl
    have ft0 := T_6.out.frozen 0
    have ft1 := T_6.out.frozen 1
    go_upto_region 10 with fail
    clear xT0 xT1 xN0 xN1 xN2 xN3 ft0 ft1
    generalize hSS : (World.setCell (World.setCell w6 _ _) _ _) = w11
    have gS : w6.grownBy w11 (some (w3.heap.size)) := by rw [← hSS]; exact grown_trans (grown_set _ _ _) (grown_set _ _ _)
    have nT : Blk w11 (w3.heap.size) 29 #[.int .i64 r1, .int .i64 ny] := by rw [← hSS]; exact (T_6.out.put 0 _).put 1 _
    have sz11 := gS.size
    have B7 := Lib.hid (B6.out.grown gS B6.out.size (fun g hg => by simp at hg; omega))
    have N_7 := Lib.hid (N_6.out.grown gS (by simp; omega))
    have R_7 := Lib.hid (R_6.out.grown gS (by simp; omega))
    have T_7 := Lib.hid nT
    have F_7 := Lib.hid (F_6.out.grown gS (by simp; omega))
    clear hSS gS nT B6 N_6 R_6 T_6 F_6
    have xN0 : w11.cell? ⟨w.heap.size, 0, none⟩ = some (.int .i64 k) := by rw [N_7.out.cell]; rfl
    have xN1 : w11.cell? ⟨w.heap.size, 1, none⟩ = some (.int .i64 a) := by rw [N_7.out.cell]; rfl
    have xN2 : w11.cell? ⟨w.heap.size, 2, none⟩ = some (.int .i64 b) := by rw [N_7.out.cell]; rfl
    have xN3 : w11.cell? ⟨w.heap.size, 3, none⟩ = some (.slice An m cn) := by rw [N_7.out.cell]; rfl
    obtain rfl : out = [] := by rw [← HOUT.out]; rfl
    go_wp2
    clear xN0 xN1 xN2 xN3
    have rO : Row (w11.alloc (.cells #[] 31)) w.heap.size (w11.alloc (.cells #[] 31)).heap.size 31 5 (some ⟨w11.heap.size, 0, none⟩) 0 0 (rcCells []) := rowLow0 (row_lit (size := 5) (Blk.new w11 31 #[])) (by omega) (by simp)
    exact bodyPost_ret (v := .tuple #[.slice A2 n2 c2, .slice (some ⟨w11.heap.size, 0, none⟩) 0 0]) (by simp [results, Try.results40, go_sem]) rfl (⟨_, 0, 0, rfl, rfl, rO, B7.out.alloc B7.out.size _⟩)
  | true =>
    obtain rfl : ny = r2 + 1 := by rw [← HNY.out]; exact nextY_yes HHV.out
    have xT0 : w6.cell? ⟨w3.heap.size, 0, none⟩ = some (.int .i64 r1) := by rw [T_6.out.cell]; rfl
    have xT1 : w6.cell? ⟨w3.heap.size, 1, none⟩ = some (.int .i64 r2) := by rw [T_6.out.cell]; rfl
    have xN0 : w6.cell? ⟨w.heap.size, 0, none⟩ = some (.int .i64 k) := by rw [N_6.out.cell]; rfl
    have xN1 : w6.cell? ⟨w.heap.size, 1, none⟩ = some (.int .i64 a) := by rw [N_6.out.cell]; rfl
    have xN2 : w6.cell? ⟨w.heap.size, 2, none⟩ = some (.int .i64 b) := by rw [N_6.out.cell]; rfl
    have xN3 : w6.cell? ⟨w.heap.size, 3, none⟩ = some (.slice An m cn) := by rw [N_6.out.cell]; rfl
    have ft0 := T_6.out.frozen 0
    have ft1 := T_6.out.frozen 1
    go_upto_region 10 with fail
    clear xT0 xT1 xN0 xN1 xN2 xN3 ft0 ft1
    generalize hSS : (World.setCell (World.setCell w6 _ _) _ _) = w11
    have gS : w6.grownBy w11 (some (w3.heap.size)) := by rw [← hSS]; exact grown_trans (grown_set _ _ _) (grown_set _ _ _)
    have nT : Blk w11 (w3.heap.size) 29 #[.int .i64 r1, .int .i64 (r2 + 1)] := by rw [← hSS]; exact (T_6.out.put 0 _).put 1 _
    have sz11 := gS.size
    have B7 := Lib.hid (B6.out.grown gS B6.out.size (fun g hg => by simp at hg; omega))
    have N_7 := Lib.hid (N_6.out.grown gS (by simp; omega))
    have R_7 := Lib.hid (R_6.out.grown gS (by simp; omega))
    have T_7 := Lib.hid nT
    have F_7 := Lib.hid (F_6.out.grown gS (by simp; omega))
    clear hSS gS nT B6 N_6 R_6 T_6 F_6
    have xN0 : w11.cell? ⟨w.heap.size, 0, none⟩ = some (.int .i64 k) := by rw [N_7.out.cell]; rfl
    have xN1 : w11.cell? ⟨w.heap.size, 1, none⟩ = some (.int .i64 a) := by rw [N_7.out.cell]; rfl
    have xN2 : w11.cell? ⟨w.heap.size, 2, none⟩ = some (.int .i64 b) := by rw [N_7.out.cell]; rfl
    have xN3 : w11.cell? ⟨w.heap.size, 3, none⟩ = some (.slice An m cn) := by rw [N_7.out.cell]; rfl
    have xT0 : w11.cell? ⟨w3.heap.size, 0, none⟩ = some (.int .i64 r1) := by rw [T_7.out.cell]; rfl
    have xT1 : w11.cell? ⟨w3.heap.size, 1, none⟩ = some (.int .i64 (r2 + 1)) := by rw [T_7.out.cell]; rfl
    go_wp2_with fail
    clear xN0 xN1 xN2 xN3 xT0 xT1
    refine (sentTo_any zs m HM.out hmn An cn 0 r1 (r2 + 1) ky vy _ (S0.out.below B7.out)).mono ?_
    rintro e w9 ⟨A4, c4, rfl, o4, hb⟩
    have sz8 := hb.size
    have B8 := Lib.hid (below_chain B7.out hb)
    have N_8 := Lib.hid (N_7.out.below hb)
    have R_8 := Lib.hid (R_7.out.below hb)
    have T_8 := Lib.hid (T_7.out.below hb)
    have F_8 := Lib.hid (F_7.out.below hb)
    clear hb B7 N_7 R_7 T_7 F_7
    obtain ⟨B4x, c4x, he4, r4x⟩ := row_of o4
    simp only [Value.slice.injEq, true_and] at he4
    obtain ⟨rfl, rfl⟩ := he4
    clear o4
    have Y_8 := Lib.hid r4x
    clear r4x
    obtain rfl : out = emitL zs (r1, r2 + 1) ky vy := by rw [← HOUT.out]; rfl
    have lm := Lib.hid (show (emitL zs (r1, r2 + 1) ky vy).length = m by rw [emit_len]; exact HM.out)
    go_wp2
    exact bodyPost_ret (v := .tuple #[.slice A2 n2 c2, .slice A4 m c4]) (by simp [results, Try.results40, go_sem]) rfl (⟨A4, c4, m, lm.out, rfl, rowLow0 Y_8.out (by omega) (Nat.le_refl _), B8.out⟩)

set_option maxRecDepth 100000 in
set_option maxHeartbeats 8000000 in
theorem proc_mem (k a b : Int) (zs : List Int) (m : Nat) (hm : zs.length = m) (hmn : m ≤ 1048576) (An : Option Addr) (cn : Nat) (hcn : m ≤ cn) (A2 : Option Addr) (n2 c2 : Nat) (r0 r1 r2 r3 r4 : Int) (hok : okC k a b (dec1 a) r3 r4 zs = true) {ky vy : Int} (hK : chgK true k a r3 = ky) (hV : chgV true k a r4 = vy) (w : World) (h : Ints w An zs) (ces : List Ce) (hl2 : ces.length = n2) (hA2 : A2 = none → c2 = 0) (hc2 : n2 ≤ c2) (hn2 : n2 ≤ 2000000) (h2 : Ces w A2 ces) (hr : remB k = true) {us : List Ce} {on : Bool} {m3 : Nat} (hrc : recC k ces (r0, r1, r3, r4) = (us, on)) (hm3 : us.length = m3)  {out : List Rc} (hout : (if on = true then emitL zs (r1, r2) ky vy else []) = out) :
    Calls Try.prog 40 #[.agg #[.int .i64 k, .int .i64 a, .int .i64 b, .slice An m cn], .slice A2 n2 c2, .agg #[.int .i64 r0, .int .i64 r1, .int .i64 r2, .int .i64 r3, .int .i64 r4]] w (ProcEnd1 w us m3 out) := by
  obtain ⟨go, hgo⟩ : ∃ v, chgO true k a b r3 = v := ⟨_, rfl⟩
  have HM := Lib.hid hm
  have HCN := Lib.hid hcn
  have HOK := Lib.hid hok
  have HK := Lib.hid hK
  have HV := Lib.hid hV
  have S0 := Lib.hid h
  clear hm hcn hok hK hV h
  have HGO := Lib.hid hgo
  clear hgo
  have HL2 := Lib.hid hl2
  have HA2 := Lib.hid hA2
  have HC2 := Lib.hid hc2
  have S2 := Lib.hid h2
  have HRC := Lib.hid hrc
  have HOUT := Lib.hid hout
  clear hout
  have HM3 := Lib.hid hm3
  clear hl2 hA2 hc2 h2 hrc hm3
  obtain ⟨V, hW⟩ : ∃ z, ((w.alloc (.cells #[.int .i64 k, .int .i64 a, .int .i64 b, .slice An m cn] 42)).alloc (.cells #[.int .i64 r0, .int .i64 r1, .int .i64 r2, .int .i64 r3, .int .i64 r4] 31)) = z := ⟨_, rfl⟩
  have hb : Below w.heap.size w V := by rw [← hW]; exact (((Below.refl _ _).alloc (by first | (simp; done) | (simp; omega) | omega) _).alloc (by first | (simp; done) | (simp; omega) | omega) _)
  have az : V.heap.size = w.heap.size + 2 := by rw [← hW]; simp
  have NN := Lib.hid (show Blk V (w.heap.size) 42 #[.int .i64 k, .int .i64 a, .int .i64 b, .slice An m cn] by rw [← hW]; exact ((Below.heap_alloc _ _ _ (by first | (simp; done) | (simp; omega))).trans (Blk.new _ _ _)))
  have NR := Lib.hid (show Blk V (w.heap.size + 1) 31 #[.int .i64 r0, .int .i64 r1, .int .i64 r2, .int .i64 r3, .int .i64 r4] by rw [← hW]; exact ((show w.heap.size + 1 = ((w.alloc _)).heap.size by simp) ▸ Blk.new _ _ _))
  have AZV := Lib.hid az
  clear az
  have sz1 := hb.size
  have B1 := Lib.hid (hb)
  clear hb
  have N_1 := NN
  clear NN
  have ltN : w.heap.size < V.heap.size := N_1.out.lt
  have R_1 := NR
  clear NR
  have ltR : w.heap.size + 1 < V.heap.size := R_1.out.lt
  go_enter Try.func40, Try.ntmps40
  have xN0 : V.cell? ⟨w.heap.size, 0, none⟩ = some (.int .i64 k) := by rw [N_1.out.cell]; rfl
  have xN1 : V.cell? ⟨w.heap.size, 1, none⟩ = some (.int .i64 a) := by rw [N_1.out.cell]; rfl
  have xN2 : V.cell? ⟨w.heap.size, 2, none⟩ = some (.int .i64 b) := by rw [N_1.out.cell]; rfl
  have xN3 : V.cell? ⟨w.heap.size, 3, none⟩ = some (.slice An m cn) := by rw [N_1.out.cell]; rfl
  have xR0 : V.cell? ⟨w.heap.size + 1, 0, none⟩ = some (.int .i64 r0) := by rw [R_1.out.cell]; rfl
  have xR1 : V.cell? ⟨w.heap.size + 1, 1, none⟩ = some (.int .i64 r1) := by rw [R_1.out.cell]; rfl
  have xR2 : V.cell? ⟨w.heap.size + 1, 2, none⟩ = some (.int .i64 r2) := by rw [R_1.out.cell]; rfl
  have xR3 : V.cell? ⟨w.heap.size + 1, 3, none⟩ = some (.int .i64 r3) := by rw [R_1.out.cell]; rfl
  have xR4 : V.cell? ⟨w.heap.size + 1, 4, none⟩ = some (.int .i64 r4) := by rw [R_1.out.cell]; rfl
  go_wp2_with fail
  clear hW xN0 xN1 xN2 xN3 xR0 xR1 xR2 xR3 xR4
  refine (implChg_any k a b (dec1 a) r3 r4 An m cn zs HM.out HCN.out rfl _ (S0.out.below B1.out) hmn HOK.out HK.out HV.out HGO.out).mono ?_
  rintro e w3 ⟨rfl, hb⟩
  have sz2 := hb.size
  have B2 := Lib.hid (below_chain B1.out hb)
  have N_2 := Lib.hid (N_1.out.below hb)
  have R_2 := Lib.hid (R_1.out.below hb)
  clear hb B1 N_1 R_1
  have yR1 : w3.cell? ⟨w.heap.size + 1, 1, none⟩ = some (.int .i64 r1) := by rw [R_2.out.cell]; rfl
  have yR2 : w3.cell? ⟨w.heap.size + 1, 2, none⟩ = some (.int .i64 r2) := by rw [R_2.out.cell]; rfl
  obtain ⟨V3, hW⟩ : ∃ z, (w3.alloc (.cells #[.int .i64 r1, .int .i64 r2] 29)) = z := ⟨_, rfl⟩
  have hb : Below w3.heap.size w3 V3 := by rw [← hW]; exact ((Below.refl _ _).alloc (by first | (simp; done) | (simp; omega) | omega) _)
  have az : V3.heap.size = w3.heap.size + 1 := by rw [← hW]; simp
  have NT := Lib.hid (show Blk V3 (w3.heap.size) 29 #[.int .i64 r1, .int .i64 r2] by rw [← hW]; exact (Blk.new _ _ _))
  have AZV3 := Lib.hid az
  clear az
  have sz3 := hb.size
  have B3 := Lib.hid (below_chain B2.out hb)
  have N_3 := Lib.hid (N_2.out.below hb)
  have R_3 := Lib.hid (R_2.out.below hb)
  clear hb B2 N_2 R_2
  have T_3 := NT
  clear NT
  have ltT : w3.heap.size < V3.heap.size := T_3.out.lt
  have xN0 : V3.cell? ⟨w.heap.size, 0, none⟩ = some (.int .i64 k) := by rw [N_3.out.cell]; rfl
  have xN1 : V3.cell? ⟨w.heap.size, 1, none⟩ = some (.int .i64 a) := by rw [N_3.out.cell]; rfl
  have xN2 : V3.cell? ⟨w.heap.size, 2, none⟩ = some (.int .i64 b) := by rw [N_3.out.cell]; rfl
  have xN3 : V3.cell? ⟨w.heap.size, 3, none⟩ = some (.slice An m cn) := by rw [N_3.out.cell]; rfl
  have xR0 : V3.cell? ⟨w.heap.size + 1, 0, none⟩ = some (.int .i64 r0) := by rw [R_3.out.cell]; rfl
  have xR1 : V3.cell? ⟨w.heap.size + 1, 1, none⟩ = some (.int .i64 r1) := by rw [R_3.out.cell]; rfl
  have xR2 : V3.cell? ⟨w.heap.size + 1, 2, none⟩ = some (.int .i64 r2) := by rw [R_3.out.cell]; rfl
  have xR3 : V3.cell? ⟨w.heap.size + 1, 3, none⟩ = some (.int .i64 r3) := by rw [R_3.out.cell]; rfl
  have xR4 : V3.cell? ⟨w.heap.size + 1, 4, none⟩ = some (.int .i64 r4) := by rw [R_3.out.cell]; rfl
  go_wp2_with fail
  clear hW yR1 yR2 xN0 xN1 xN2 xN3 xR0 xR1 xR2 xR3 xR4
  refine (opOf_mem k a b An m cn hr _).mono ?_
  rintro e w4 ⟨rfl, hb⟩
  have sz4 := hb.size
  have B4 := Lib.hid (below_chain B3.out hb)
  have N_4 := Lib.hid (N_3.out.below hb)
  have R_4 := Lib.hid (R_3.out.below hb)
  have T_4 := Lib.hid (T_3.out.below hb)
  clear hb B3 N_3 R_3 T_3
  have q1 := as_mem
  obtain ⟨V5, hW⟩ : ∃ z, (w4.alloc (.cells #[.int .i64 k, .int .i64 a, .int .i64 b, .slice An m cn] 111)) = z := ⟨_, rfl⟩
  have hb : Below w4.heap.size w4 V5 := by rw [← hW]; exact ((Below.refl _ _).alloc (by first | (simp; done) | (simp; omega) | omega) _)
  have az : V5.heap.size = w4.heap.size + 1 := by rw [← hW]; simp
  have NF := Lib.hid (show Blk V5 (w4.heap.size) 111 #[.int .i64 k, .int .i64 a, .int .i64 b, .slice An m cn] by rw [← hW]; exact (Blk.new _ _ _))
  have AZV5 := Lib.hid az
  clear az
  have sz5 := hb.size
  have B5 := Lib.hid (below_chain B4.out hb)
  have N_5 := Lib.hid (N_4.out.below hb)
  have R_5 := Lib.hid (R_4.out.below hb)
  have T_5 := Lib.hid (T_4.out.below hb)
  clear hb B4 N_4 R_4 T_4
  have F_5 := NF
  clear NF
  have ltF : w4.heap.size < V5.heap.size := F_5.out.lt
  obtain ⟨V6, hV⟩ : ∃ v, V5.drew = v := ⟨_, rfl⟩
  have BV6 := Lib.hid (show Below V5.heap.size V5 V6 by rw [← hV]; exact (Below.refl _ _).drew)
  have HD := Lib.hid (show ProcHeld V6 (w4.heap.size) (w.heap.size + 1) k r0 r1 r2 r3 r4 V6 by rw [← hV]; exact ⟨by show V5.cell? _ = _; rw [F_5.out.cell]; rfl, by show V5.cell? _ = _; rw [R_5.out.cell]; rfl, by show V5.cell? _ = _; rw [R_5.out.cell]; rfl, by show V5.cell? _ = _; rw [R_5.out.cell]; rfl, by show V5.cell? _ = _; rw [R_5.out.cell]; rfl, by show V5.cell? _ = _; rw [R_5.out.cell]; rfl, Below.refl _ _⟩)
  go_wp2_with fail
  clear hW
  refine wp_region_held_drew (S := ProcHeld V6 (w4.heap.size) (w.heap.size + 1) k r0 r1 r2 r3 r4) (by kernel_rfl) ?_ (fun hHeld => ?_)
  · skip
    rw [hV]; exact HD.out
  change wpAnyH _ _ opsPR6 _ _ 11 (LPR6 0) _ _
  rw [hV] at hHeld ⊢
  clear hV
  refine regY tPR6_0 (.pointer (some ⟨w4.heap.size, 0, none⟩)) (fun W hSw => by unfold qPR6_0; go_simp) hHeld ?_
  try simp only [pt, List.set]
  refine regY tPR6_1 (.int .i64 k) (fun W hSw => by unfold qPR6_1; obtain ⟨s0, p0, p1, p2, p3, p4, _⟩ := hSw; go_simp) hHeld ?_
  try simp only [pt, List.set]
  refine regY tPR6_2 (.slice A2 n2 c2) (fun W hSw => by unfold qPR6_2; go_simp) hHeld ?_
  try simp only [pt, List.set]
  refine regY tPR6_3 (.agg #[.int .i64 r0, .int .i64 r1, .int .i64 r2, .int .i64 r3, .int .i64 r4]) (fun W hSw => by unfold qPR6_3; obtain ⟨s0, p0, p1, p2, p3, p4, _⟩ := hSw; go_simp) hHeld ?_
  try simp only [pt, List.set]
  refine cPR6_4 (fun K hK => ?_)
  rw [if_pos (by rfl)]
  unfold qPR6_4
  go_simp
  refine (cellOf_any r0 r1 r2 r3 r4 _).mono ?_
  rintro e w7 ⟨rfl, b7⟩
  refine Shut.out hK _ _ ?_ (fun hHeld => ?_)
  · exact hHeld.below b7
  clear hK K
  try simp only [pt, List.set]
  refine cPR6_5 (fun K hK => ?_)
  rw [if_pos (by rfl)]
  unfold qPR6_5
  go_simp
  refine (implRecG_row HL2.out HA2.out HC2.out hn2 HRC.out HM3.out _ (S2.out.below (below_chain B5.out (below_chain BV6.out hHeld.bel)))).mono ?_
  rintro e w8 ⟨A3, c3, rfl, r3x, b8⟩
  have R3 := Lib.hid (rowLow0 r3x (below_chain B5.out (below_chain BV6.out hHeld.bel)).size (Nat.le_refl _))
  clear r3x
  refine Shut.out hK _ _ ?_ (fun hHeld => ?_)
  · exact hHeld.below b8
  clear hK K
  try simp only [pt, List.set]
  refine regY tPR6_6 (.tuple #[.slice A3 m3 c3, .bool on]) (fun W hSw => by unfold qPR6_6; go_simp) hHeld ?_
  try simp only [pt, List.set]
  refine regY tPR6_7 (.slice A3 m3 c3) (fun W hSw => by unfold qPR6_7; go_simp) hHeld ?_
  try simp only [pt, List.set]
  refine regY tPR6_8 (.bool on) (fun W hSw => by unfold qPR6_8; go_simp) hHeld ?_
  try simp only [pt, List.set]
  refine regY tPR6_9 (.slice A3 m3 c3) (fun W hSw => by unfold qPR6_9; go_simp) hHeld ?_
  try simp only [pt, List.set]
  refine regY tPR6_10 (.bool on) (fun W hSw => by unfold qPR6_10; go_simp) hHeld ?_
  try simp only [pt, List.set]
  refine wpAnyH_done (by kernel_rfl) ?_ _
  have hb := hHeld.bel
  have hb5 := below_chain BV6.out hb
  clear hb hHeld HD BV6
  have sz6 := hb5.size
  have B6 := Lib.hid (below_chain B5.out hb5)
  have N_6 := Lib.hid (N_5.out.below hb5)
  have R_6 := Lib.hid (R_5.out.below hb5)
  have T_6 := Lib.hid (T_5.out.below hb5)
  have F_6 := Lib.hid (F_5.out.below hb5)
  clear hb5 B5 N_5 R_5 T_5 F_5
  have X_6 := R3
  clear R3
  cases on with
  | false =>
    have xN0 : w8.cell? ⟨w.heap.size, 0, none⟩ = some (.int .i64 k) := by rw [N_6.out.cell]; rfl
    have xN1 : w8.cell? ⟨w.heap.size, 1, none⟩ = some (.int .i64 a) := by rw [N_6.out.cell]; rfl
    have xN2 : w8.cell? ⟨w.heap.size, 2, none⟩ = some (.int .i64 b) := by rw [N_6.out.cell]; rfl
    have xN3 : w8.cell? ⟨w.heap.size, 3, none⟩ = some (.slice An m cn) := by rw [N_6.out.cell]; rfl
    obtain rfl : out = [] := by rw [← HOUT.out]; rfl
    go_wp2
    clear xN0 xN1 xN2 xN3
    have rO : Row (w8.alloc (.cells #[] 31)) w.heap.size (w8.alloc (.cells #[] 31)).heap.size 31 5 (some ⟨w8.heap.size, 0, none⟩) 0 0 (rcCells []) := rowLow0 (row_lit (size := 5) (Blk.new w8 31 #[])) (by omega) (by simp)
    exact bodyPost_ret (v := .tuple #[.slice A3 m3 c3, .slice (some ⟨w8.heap.size, 0, none⟩) 0 0]) (by simp [results, Try.results40, go_sem]) rfl (⟨A3, c3, _, 0, 0, rfl, rfl, ⟨X_6.out.own.alloc _, fun g hg => by have := X_6.out.lt g hg; simp; omega⟩, rO, B6.out.alloc B6.out.size _⟩)
  | true =>
    have xN0 : w8.cell? ⟨w.heap.size, 0, none⟩ = some (.int .i64 k) := by rw [N_6.out.cell]; rfl
    have xN1 : w8.cell? ⟨w.heap.size, 1, none⟩ = some (.int .i64 a) := by rw [N_6.out.cell]; rfl
    have xN2 : w8.cell? ⟨w.heap.size, 2, none⟩ = some (.int .i64 b) := by rw [N_6.out.cell]; rfl
    have xN3 : w8.cell? ⟨w.heap.size, 3, none⟩ = some (.slice An m cn) := by rw [N_6.out.cell]; rfl
    have xT0 : w8.cell? ⟨w3.heap.size, 0, none⟩ = some (.int .i64 r1) := by rw [T_6.out.cell]; rfl
    have xT1 : w8.cell? ⟨w3.heap.size, 1, none⟩ = some (.int .i64 r2) := by rw [T_6.out.cell]; rfl
    go_wp2_with fail
    clear xN0 xN1 xN2 xN3 xT0 xT1
    refine (sentTo_any zs m HM.out hmn An cn 0 r1 r2 ky vy _ (S0.out.below B6.out)).mono ?_
    rintro e w9 ⟨A4, c4, rfl, o4, hb⟩
    have sz7 := hb.size
    have B7 := Lib.hid (below_chain B6.out hb)
    have X_7 := Lib.hid (X_6.out.below hb)
    have N_7 := Lib.hid (N_6.out.below hb)
    have R_7 := Lib.hid (R_6.out.below hb)
    have T_7 := Lib.hid (T_6.out.below hb)
    have F_7 := Lib.hid (F_6.out.below hb)
    clear hb B6 X_6 N_6 R_6 T_6 F_6
    obtain ⟨B4x, c4x, he4, r4x⟩ := row_of o4
    simp only [Value.slice.injEq, true_and] at he4
    obtain ⟨rfl, rfl⟩ := he4
    clear o4
    have Y_7 := Lib.hid r4x
    clear r4x
    obtain rfl : out = emitL zs (r1, r2) ky vy := by rw [← HOUT.out]; rfl
    have lm := Lib.hid (show (emitL zs (r1, r2) ky vy).length = m by rw [emit_len]; exact HM.out)
    go_wp2
    exact bodyPost_ret (v := .tuple #[.slice A3 m3 c3, .slice A4 m c4]) (by simp [results, Try.results40, go_sem]) rfl (⟨A3, c3, A4, c4, m, lm.out, rfl, rowLow0 X_7.out (Nat.le_refl _) (by omega), rowLow0 Y_7.out (by omega) (Nat.le_refl _), B7.out⟩)
end Go.Proofs.Ytlanmkimaambgaa.hexes

