/-
  The program's helpers of Improve: recordOf, cellsAfter, and nodeFor's answer in one.
-/
import Derived.Test.YtbbagpnjjjohpaaJ23
import Derived.Test.YtbbagpnjjjohpaaJ20
import Derived.Test.YtbbagpnjjjohpaaJ10

namespace Go.Proofs.Ytbbagpnjjjohpaa.hexes
open Go.RowKit

set_option maxRecDepth 100000 in
theorem recordOf_any (x0 x1 x2 x3 : Int) (w : World) :
    Calls Try.prog 77 #[.agg #[.int .i64 x0, .int .i64 x1, .int .i64 x2, .int .i64 x3]] w fun e w' => e = .returned (.agg #[.int .i64 x0, .int .i64 x1, .int .i64 0, .int .i64 x2, .int .i64 x3]) ∧ Below w.heap.size w w' := by
  obtain ⟨V, hW⟩ : ∃ z, ((w.alloc (.cells #[.int .i64 x0, .int .i64 x1, .int .i64 x2, .int .i64 x3] 38)).alloc (.cells #[.int .i64 0, .int .i64 0, .int .i64 0, .int .i64 0, .int .i64 0] 51)) = z := ⟨_, rfl⟩
  have hb : Below w.heap.size w V := by rw [← hW]; exact (((Below.refl _ _).alloc (by first | (simp; done) | (simp; omega) | omega) _).alloc (by first | (simp; done) | (simp; omega) | omega) _)
  have az : V.heap.size = w.heap.size + 2 := by rw [← hW]; simp
  have NC := Lib.hid (show Blk V (w.heap.size) 38 #[.int .i64 x0, .int .i64 x1, .int .i64 x2, .int .i64 x3] by rw [← hW]; exact ((Below.heap_alloc _ _ _ (by first | (simp; done) | (simp; omega))).trans (Blk.new _ _ _)))
  have NR := Lib.hid (show Blk V (w.heap.size + 1) 51 #[.int .i64 0, .int .i64 0, .int .i64 0, .int .i64 0, .int .i64 0] by rw [← hW]; exact ((show w.heap.size + 1 = ((w.alloc _)).heap.size by simp) ▸ Blk.new _ _ _))
  have AZV := Lib.hid az
  clear az
  have sz1 := hb.size
  have B1 := Lib.hid (hb)
  clear hb
  have C_1 := NC
  clear NC
  have ltC : w.heap.size < V.heap.size := C_1.out.lt
  have R_1 := NR
  clear NR
  have ltR : w.heap.size + 1 < V.heap.size := R_1.out.lt
  go_enter Try.func77, Try.ntmps77
  have xC0 : V.cell? ⟨w.heap.size, 0, none⟩ = some (.int .i64 x0) := by rw [C_1.out.cell]; rfl
  have xC1 : V.cell? ⟨w.heap.size, 1, none⟩ = some (.int .i64 x1) := by rw [C_1.out.cell]; rfl
  have xC2 : V.cell? ⟨w.heap.size, 2, none⟩ = some (.int .i64 x2) := by rw [C_1.out.cell]; rfl
  have xC3 : V.cell? ⟨w.heap.size, 3, none⟩ = some (.int .i64 x3) := by rw [C_1.out.cell]; rfl
  have xR0 : V.cell? ⟨w.heap.size + 1, 0, none⟩ = some (.int .i64 0) := by rw [R_1.out.cell]; rfl
  have xR1 : V.cell? ⟨w.heap.size + 1, 1, none⟩ = some (.int .i64 0) := by rw [R_1.out.cell]; rfl
  have xR2 : V.cell? ⟨w.heap.size + 1, 2, none⟩ = some (.int .i64 0) := by rw [R_1.out.cell]; rfl
  have xR3 : V.cell? ⟨w.heap.size + 1, 3, none⟩ = some (.int .i64 0) := by rw [R_1.out.cell]; rfl
  have xR4 : V.cell? ⟨w.heap.size + 1, 4, none⟩ = some (.int .i64 0) := by rw [R_1.out.cell]; rfl
  have fr0 : V.frozen? ⟨w.heap.size + 1, 0, none⟩ = false := R_1.out.frozen 0
  have fr1 : V.frozen? ⟨w.heap.size + 1, 1, none⟩ = false := R_1.out.frozen 1
  have fr2 : V.frozen? ⟨w.heap.size + 1, 2, none⟩ = false := R_1.out.frozen 2
  have fr3 : V.frozen? ⟨w.heap.size + 1, 3, none⟩ = false := R_1.out.frozen 3
  have fr4 : V.frozen? ⟨w.heap.size + 1, 4, none⟩ = false := R_1.out.frozen 4
  go_wp2_with fail
  clear hW xC0 xC1 xC2 xC3 xR0 xR1 xR2 xR3 xR4 fr0 fr1 fr2 fr3 fr4
  generalize hWf : ((((V.setCell _ _).setCell _ _).setCell _ _).setCell _ _).setCell _ _ = Wf
  have bf : Blk Wf (w.heap.size + 1) 51 #[.int .i64 x0, .int .i64 x1, .int .i64 0, .int .i64 x2, .int .i64 x3] := by rw [← hWf]; exact (((((R_1.out.put 0 _).put 1 _).put 2 _).put 3 _).put 4 _)
  have hb : Below w.heap.size w Wf := by rw [← hWf]; exact (((((B1.out.setCell (by first | (simp; done) | (simp; omega)) _).setCell (by first | (simp; done) | (simp; omega)) _).setCell (by first | (simp; done) | (simp; omega)) _).setCell (by first | (simp; done) | (simp; omega)) _).setCell (by first | (simp; done) | (simp; omega)) _)
  have e0 : Wf.cell? ⟨w.heap.size + 1, 0, none⟩ = some (.int .i64 x0) := by rw [bf.cell]; rfl
  have e1 : Wf.cell? ⟨w.heap.size + 1, 1, none⟩ = some (.int .i64 x1) := by rw [bf.cell]; rfl
  have e2 : Wf.cell? ⟨w.heap.size + 1, 2, none⟩ = some (.int .i64 0) := by rw [bf.cell]; rfl
  have e3 : Wf.cell? ⟨w.heap.size + 1, 3, none⟩ = some (.int .i64 x2) := by rw [bf.cell]; rfl
  have e4 : Wf.cell? ⟨w.heap.size + 1, 4, none⟩ = some (.int .i64 x3) := by rw [bf.cell]; rfl
  exact bodyPost_ret (v := .agg #[.int .i64 x0, .int .i64 x1, .int .i64 0, .int .i64 x2, .int .i64 x3]) (by simp [results, Try.results77, go_sem, e0, e1, e2, e3, e4]) rfl ⟨rfl, hb⟩

set_option maxRecDepth 1000000 in
set_option maxHeartbeats 4000000 in
theorem cellsAfter_any (k a b : Int) (zs : List Int) (m : Nat) (hm : zs.length = m) (hmn : m ≤ 1048576) (An : Option Addr) (cn : Nat) (hcn : m ≤ cn) (x0 x1 x2 x3 : Int) {q : Bool} {ky vy : Int} {go : Bool} (hq : okC k a b (dec1 a) x2 x3 zs = q) (hk : chgK q k a x2 = ky) (hv : chgV q k a x3 = vy) (hg : chgO q k a b x2 = go) {out : List Ce} (hout : (if go = true then emitC zs x1 ky vy else []) = out) (w : World) (h : Ints w An zs) :
    Calls Try.prog 80 #[.agg #[.int .i64 k, .int .i64 a, .int .i64 b, .slice An m cn], .agg #[.int .i64 x0, .int .i64 x1, .int .i64 x2, .int .i64 x3]] w fun e w' => ∃ A c m4, out.length = m4 ∧ e = .returned (.slice A m4 c) ∧ Row w' w.heap.size w'.heap.size 38 4 A m4 c (ceCells out) ∧ Below w.heap.size w w' := by
  have HM := Lib.hid hm
  have HCN := Lib.hid hcn
  have HOK := Lib.hid hq
  have HK := Lib.hid hk
  have HV := Lib.hid hv
  have HGO := Lib.hid hg
  have HOUT := Lib.hid hout
  have S0 := Lib.hid h
  clear hm hcn hq hk hv hg hout h
  obtain ⟨V, hW⟩ : ∃ z, (((w.alloc (.cells #[.int .i64 k, .int .i64 a, .int .i64 b, .slice An m cn] 46)).alloc (.cells #[.int .i64 x0, .int .i64 x1, .int .i64 x2, .int .i64 x3] 38)).alloc (.cells #[] 38)) = z := ⟨_, rfl⟩
  have hb : Below w.heap.size w V := by rw [← hW]; exact ((((Below.refl _ _).alloc (by first | (simp; done) | (simp; omega) | omega) _).alloc (by first | (simp; done) | (simp; omega) | omega) _).alloc (by first | (simp; done) | (simp; omega) | omega) _)
  have az : V.heap.size = w.heap.size + 3 := by rw [← hW]; simp
  have NN := Lib.hid (show Blk V (w.heap.size) 46 #[.int .i64 k, .int .i64 a, .int .i64 b, .slice An m cn] by rw [← hW]; exact ((Below.heap_alloc _ _ _ (by first | (simp; done) | (simp; omega))).trans ((Below.heap_alloc _ _ _ (by first | (simp; done) | (simp; omega))).trans (Blk.new _ _ _))))
  have NC := Lib.hid (show Blk V (w.heap.size + 1) 38 #[.int .i64 x0, .int .i64 x1, .int .i64 x2, .int .i64 x3] by rw [← hW]; exact ((Below.heap_alloc _ _ _ (by first | (simp; done) | (simp; omega))).trans ((show w.heap.size + 1 = ((w.alloc _)).heap.size by simp) ▸ Blk.new _ _ _)))
  have NE := Lib.hid (show Blk V (w.heap.size + 2) 38 #[] by rw [← hW]; exact ((show w.heap.size + 2 = (((w.alloc _).alloc _)).heap.size by simp) ▸ Blk.new _ _ _))
  have AZV := Lib.hid az
  clear az
  have sz1 := hb.size
  have B1 := Lib.hid (hb)
  clear hb
  have N_1 := NN
  clear NN
  have ltN : w.heap.size < V.heap.size := N_1.out.lt
  have C_1 := NC
  clear NC
  have ltC : w.heap.size + 1 < V.heap.size := C_1.out.lt
  have E_1 := NE
  clear NE
  have ltE : w.heap.size + 2 < V.heap.size := E_1.out.lt
  have AE := Lib.hid (show Row V (w.heap.size + 2) (w.heap.size + 3) 38 4 (some ⟨w.heap.size + 2, 0, none⟩) 0 0 [] from row_lit (size := 4) E_1.out)
  go_enter Try.func80, Try.ntmps80
  have AE0_1 := AE
  clear AE
  have xN0 : V.cell? ⟨w.heap.size, 0, none⟩ = some (.int .i64 k) := by rw [N_1.out.cell]; rfl
  have xN1 : V.cell? ⟨w.heap.size, 1, none⟩ = some (.int .i64 a) := by rw [N_1.out.cell]; rfl
  have xN2 : V.cell? ⟨w.heap.size, 2, none⟩ = some (.int .i64 b) := by rw [N_1.out.cell]; rfl
  have xN3 : V.cell? ⟨w.heap.size, 3, none⟩ = some (.slice An m cn) := by rw [N_1.out.cell]; rfl
  have xC0 : V.cell? ⟨w.heap.size + 1, 0, none⟩ = some (.int .i64 x0) := by rw [C_1.out.cell]; rfl
  have xC1 : V.cell? ⟨w.heap.size + 1, 1, none⟩ = some (.int .i64 x1) := by rw [C_1.out.cell]; rfl
  have xC2 : V.cell? ⟨w.heap.size + 1, 2, none⟩ = some (.int .i64 x2) := by rw [C_1.out.cell]; rfl
  have xC3 : V.cell? ⟨w.heap.size + 1, 3, none⟩ = some (.int .i64 x3) := by rw [C_1.out.cell]; rfl
  go_wp2_with fail
  clear hW xN0 xN1 xN2 xN3 xC0 xC1 xC2 xC3
  refine (implChg_any k a b (dec1 a) x2 x3 An m cn zs HM.out HCN.out rfl _ (S0.out.below B1.out) hmn HOK.out HK.out HV.out HGO.out).mono ?_
  rintro e w3 ⟨rfl, hb⟩
  have sz2 := hb.size
  have B2 := Lib.hid (below_chain B1.out hb)
  have AE0_2 := Lib.hid (AE0_1.out.below hb)
  have N_2 := Lib.hid (N_1.out.below hb)
  have C_2 := Lib.hid (C_1.out.below hb)
  have E_2 := Lib.hid (E_1.out.below hb)
  clear hb B1 AE0_1 N_1 C_1 E_1
  cases go with
  | false =>
    obtain rfl : out = [] := by rw [← HOUT.out]; rfl
    go_wp2
    exact bodyPost_ret (v := .slice (some ⟨w.heap.size + 2, 0, none⟩) 0 0) (by simp [results, Try.results80, go_sem]) rfl ⟨_, 0, 0, rfl, rfl, ⟨own_base AE0_2.out.own (by omega), fun g hg => Nat.lt_of_lt_of_le (AE0_2.out.lt g hg) (by omega)⟩, B2.out⟩
  | true =>
    obtain rfl : out = emitC zs x1 ky vy := by rw [← HOUT.out]; rfl
    have xN3 : w3.cell? ⟨w.heap.size, 3, none⟩ = some (.slice An m cn) := by rw [N_2.out.cell]; rfl
    have SZ := Lib.hid (S0.out.below B2.out)
    go_wp2_with fail
    clear xN3
    go_loopw [5, 28] (fun v i wr => ∃ (j : Nat) (out : List Ce), emitC (zs.take j) x1 ky vy = out ∧ i = .int .i64 (j : Int) ∧ j ≤ m ∧ wr.ownsRow (w.heap.size + 2) 38 4 v j (ceCells out) ∧ Blk wr (w.heap.size + 1) 38 #[.int .i64 x0, .int .i64 x1, .int .i64 x2, .int .i64 x3] ∧ Below w.heap.size w wr ∧ w.heap.size + 3 ≤ wr.heap.size ∧ Ints wr An zs) (fun _ i _ => m - (intOf i).toNat)
    case atStart => exact ⟨0, _, rfl, rfl, Nat.zero_le _, AE0_2.out.own, C_2.out, B2.out, by omega, SZ.out⟩
    case round =>
      obtain ⟨j, out, hout, rfl, hj, hown, hx, hb, hsz, hzs⟩ := hrel
      have HU := Lib.hid hout
      have HO := Lib.hid hown
      have HX := Lib.hid hx
      have HB := Lib.hid hb
      have HZ := Lib.hid hzs
      clear hout hown hx hb hzs
      by_cases hlt : j < m
      · have lj : j < zs.length := by rw [HM.out]; exact hlt
        obtain ⟨bz, oz, z, rfl, hz, hze⟩ := HZ.out.at lj
        have i0 : (0 : Int) ≤ (j : Int) := by omega
        have i1 : (j : Int) < (m : Int) := by omega
        have ES := Lib.hid (show emitC (zs.take (j + 1)) x1 ky vy = out ++ [(z, x1, ky, vy)] by rw [emitC_step lj, HU.out, hz])
        have xC1 : wr.cell? ⟨w.heap.size + 1, 1, none⟩ = some (.int .i64 x1) := by rw [HX.out.cell]; rfl
        obtain ⟨U, hU⟩ : ∃ U, wr.alloc (.cells #[.int .i64 z, .int .i64 x1, .int .i64 ky, .int .i64 vy] 38) = U := ⟨_, rfl⟩
        have bU : Below wr.heap.size wr U := by rw [← hU]; exact (Below.refl _ _).alloc (Nat.le_refl _) _
        have NU := Lib.hid (show Ces U (some ⟨wr.heap.size, 0, none⟩) [(z, x1, ky, vy)] by rw [← hU]; exact ce_new _ _ _ _ _)
        have OU := Lib.hid (own_below HO.out bU)
        have XU := Lib.hid (HX.out.below bU)
        have BU := Lib.hid (below_chain HB.out bU)
        have ZU := Lib.hid (HZ.out.below bU)
        have su := bU.size
        have WU := Lib.hid (show U.heap.size = wr.heap.size + 1 by rw [← hU]; simp)
        have LE := Lib.hid (show w.heap.size + 2 ≤ U.heap.size by omega)
        clear bU hz lj HU
        go_wp2_with (at_builtin; refine wpList_append_ce rfl (.tmp 32) (.tmp 39) (by rfl) (w.heap.size + 2) _ j out (by rfl) OU.out (some ⟨wr.heap.size, 0, none⟩) 1 1 [(z, x1, ky, vy)] (by rfl) (fun h => by cases h) rfl NU.out (by omega) LE.out ?_; intro v8 w8 own8 gr8; generalize hG : wpList _ _ _ _ _ _ = GG)
        have hne : ∀ g, v8.ownBlock = some g → True := fun _ _ => trivial
        have XG := Lib.hid (XU.out.grown gr8 (fun hg => by have := own_ge OU.out _ hg.symm; omega))
        have B8 := Lib.hid (BU.out.grown gr8 BU.out.size (fun g hg => by have := own_ge OU.out g hg; omega))
        have O8 := Lib.hid own8
        have Z8 := Lib.hid ((S0.out.below (BU.out.grown gr8 BU.out.size (fun g hg => by have := own_ge OU.out g hg; omega))))
        have s8 := gr8.size
        clear own8 gr8 hU xC1 hne NU OU XU BU ZU HO HX HB HZ
        subst hG
        go_wp2
        go_roundw
        case rel => exact ⟨j + 1, _, ES.out, by go_num, by omega, O8.out, XG.out, B8.out, by omega, Z8.out⟩
        case measure => simp [intOf]; omega
      · obtain rfl : j = m := by omega
        have HE := Lib.hid (show emitC zs x1 ky vy = out by rw [← HU.out, List.take_of_length_le (Nat.le_of_eq HM.out)])
        have lm := Lib.hid (show out.length = j by rw [← HE.out, emitC_len]; exact HM.out)
        have dl : decide (j < j) = false := by simp
        clear hlt
        obtain ⟨A4, c4, rfl, hr4⟩ := row_of (w := w) (own_base HO.out (Nat.le_add_right _ 2))
        go_wp2
        go_ret
        exact ⟨A4, c4, j, by rw [HE.out]; exact lm.out, rfl, by rw [HE.out]; exact hr4, HB.out⟩
/-- nodeFor's answer, whether there is a node or not. -/
theorem nodeFor_one (gs : List Nd) (wk cp : Int) (A : Option Addr) (n c : Nat) (hl : gs.length = n) (ho : ∀ x ∈ gs, x.2.2.2.length ≤ 1048576) (hn : n ≤ 1048576) (r0 r1 r2 r3 r4 : Int) {gk : Bool} (hgk : (hasB gs r0 && okGr gs dec1 wk cp && okRc (r0, (r1, r2), r3, r4)) = gk) {k a b : Int} {zs : List Int} {m : Nat} (hx : (if gk = true then nodeAt gs r0 else (0, 0, 0, [])) = (k, a, b, zs)) (hm : zs.length = m) (w : World) (h : Nds w A gs) :
    Calls Try.prog 76 #[.agg #[.slice A n c, .int .i64 wk, .int .i64 cp], .agg #[.int .i64 r0, .int .i64 r1, .int .i64 r2, .int .i64 r3, .int .i64 r4]] w fun e w' => ∃ A1 c1, e = .returned (.tuple #[.agg #[.int .i64 k, .int .i64 a, .int .i64 b, .slice A1 m c1], .bool gk]) ∧ w'.ownsRow w.heap.size 3 1 (.slice A1 m c1) m (isCells zs) ∧ Below w.heap.size w w' := by
  cases gk with
  | false =>
    rw [if_neg (by simp)] at hx
    simp only [Prod.mk.injEq] at hx
    obtain ⟨rfl, rfl, rfl, rfl⟩ := hx
    subst hm
    exact (nodeFor_no gs wk cp A n c hl ho hn r0 r1 r2 r3 r4 w h hgk).mono fun _ _ ⟨he, hb⟩ => ⟨none, 0, he, ⟨rfl, .inl ⟨rfl, rfl⟩⟩, hb⟩
  | true =>
    rw [if_pos rfl] at hx
    simp only [Bool.and_eq_true] at hgk
    exact (nodeFor_yes gs wk cp A n c hl ho hn r0 r1 r2 r3 r4 w h hx hm hgk.1.1 hgk.1.2 hgk.2).mono fun _ _ ⟨A1, c1, he, hr, hb⟩ => ⟨A1, c1, he, hr.own, hb⟩
/-- A cell is right for its graph if the record at turn 0 is. -/
theorem impB_rc (gs : List Nd) (wk cp x0 x1 x2 x3 : Int) : (hasB gs x0 && okGr gs dec1 wk cp && okRc (x0, (x1, 0), x2, x3)) = impB gs wk cp (x0, x1, x2, x3) := by
  unfold impB
  cases hq : hasB gs x0 with
  | false => rfl
  | true =>
    cases hg : okGr gs dec1 wk cp with
    | false => rfl
    | true =>
      simp only [Bool.true_and]
      have h8 : gs.length ≤ 8 := by
        unfold okGr at hg
        simp only [Bool.and_eq_true, decide_eq_true_eq] at hg
        omega
      have h0 : 0 ≤ x0 ∧ x0 ≤ 7 := by
        unfold hasB at hq
        simp only [decide_eq_true_eq] at hq
        omega
      unfold okRc okCe okSt
      simp [h0]
end Go.Proofs.Ytbbagpnjjjohpaa.hexes

