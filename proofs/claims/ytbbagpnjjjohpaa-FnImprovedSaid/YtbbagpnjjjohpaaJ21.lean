/-
  The reference's Improve: the contract of spec.Improve.
-/
import Derived.Test.YtbbagpnjjjohpaaJ20
import Derived.Test.YtbbagpnjjjohpaaJ3

namespace Go.Proofs.Ytbbagpnjjjohpaa.hexes
open Go.RowKit

set_option maxRecDepth 1000000 in
set_option maxHeartbeats 16000000 in
theorem specImp_any (gs : List Nd) (wk cp : Int) (A : Option Addr) (n c : Nat) (hl : gs.length = n) (ho : ∀ x ∈ gs, x.2.2.2.length ≤ 1048576) (hn : n ≤ 1048576) (ces : List Ce) (A2 : Option Addr) (n2 c2 : Nat) (hl2 : ces.length = n2) (hA2 : A2 = none → c2 = 0) (hc2 : n2 ≤ c2) (hn2 : n2 ≤ 2000000) (x0 x1 x2 x3 : Int) (w : World) (h : Nds w A gs) (h2 : Ces w A2 ces) :
    Calls Try.prog 22 #[.agg #[.slice A n c, .int .i64 wk, .int .i64 cp], .slice A2 n2 c2, .agg #[.int .i64 x0, .int .i64 x1, .int .i64 x2, .int .i64 x3]] w (ImpEnd w (impG gs wk cp ces (x0, x1, x2, x3))) := by
  obtain ⟨⟨k, a, b, zs⟩, hx⟩ : ∃ x, nodeAt gs x0 = x := ⟨_, rfl⟩
  obtain ⟨m, hm⟩ : ∃ m, zs.length = m := ⟨_, rfl⟩
  obtain ⟨q, hq⟩ : ∃ q, hasB gs x0 = q := ⟨_, rfl⟩
  obtain ⟨gk, hgk⟩ : ∃ q, okGr gs dec1 wk cp = q := ⟨_, rfl⟩
  obtain ⟨e1, he1⟩ : ∃ q, decide (0 ≤ x1 ∧ x1 ≤ 3) = q := ⟨_, rfl⟩
  obtain ⟨e2, he2⟩ : ∃ q, decide (0 ≤ x2 ∧ x2 ≤ 99) = q := ⟨_, rfl⟩
  obtain ⟨e3, he3⟩ : ∃ q, decide (0 ≤ x3 ∧ x3 ≤ 999) = q := ⟨_, rfl⟩
  obtain ⟨res, hres⟩ : ∃ q, impG gs wk cp ces (x0, x1, x2, x3) = q := ⟨_, rfl⟩
  have IB := Lib.hid (show impB gs wk cp (x0, x1, x2, x3) = (q && gk && (e1 && e2 && e3)) by
    unfold impB okCe
    simp only [hq, hgk, he1, he2, he3])
  rw [hres]
  have hmn : m ≤ 1048576 := by
    have h := nodeAt_few ho x0
    rw [hx] at h
    rw [← hm]
    exact h
  have HX := Lib.hid hx
  have HM := Lib.hid hm
  have HQ := Lib.hid hq
  have HGK := Lib.hid hgk
  have HE1 := Lib.hid he1
  have HE2 := Lib.hid he2
  have HE3 := Lib.hid he3
  have HR := Lib.hid hres
  have HL := Lib.hid hl
  have HO := Lib.hid ho
  have HL2 := Lib.hid hl2
  have HA2 := Lib.hid hA2
  have HC2 := Lib.hid hc2
  have S0 := Lib.hid h
  have S2 := Lib.hid h2
  clear hx hm hq hgk he1 he2 he3 hres hl ho hl2 hA2 hc2 h h2
  obtain ⟨V, hW⟩ : ∃ z, ((w.alloc (.cells #[.slice A n c, .int .i64 wk, .int .i64 cp] 26)).alloc (.cells #[.int .i64 x0, .int .i64 x1, .int .i64 x2, .int .i64 x3] 38)) = z := ⟨_, rfl⟩
  have hb : Below w.heap.size w V := by rw [← hW]; exact (((Below.refl _ _).alloc (by first | (simp; done) | (simp; omega) | omega) _).alloc (by first | (simp; done) | (simp; omega) | omega) _)
  have az : V.heap.size = w.heap.size + 2 := by rw [← hW]; simp
  have NG := Lib.hid (show Blk V (w.heap.size) 26 #[.slice A n c, .int .i64 wk, .int .i64 cp] by rw [← hW]; exact ((Below.heap_alloc _ _ _ (by first | (simp; done) | (simp; omega))).trans (Blk.new _ _ _)))
  have NX := Lib.hid (show Blk V (w.heap.size + 1) 38 #[.int .i64 x0, .int .i64 x1, .int .i64 x2, .int .i64 x3] by rw [← hW]; exact ((show w.heap.size + 1 = ((w.alloc _)).heap.size by simp) ▸ Blk.new _ _ _))
  have AZV := Lib.hid az
  clear az
  have sz1 := hb.size
  have B1 := Lib.hid (hb)
  clear hb
  have G_1 := NG
  clear NG
  have ltG : w.heap.size < V.heap.size := G_1.out.lt
  have X_1 := NX
  clear NX
  have ltX : w.heap.size + 1 < V.heap.size := X_1.out.lt
  have LIT := Lib.hid (World.ownsRow_lit (base := V.heap.size) (e := 38) (size := 4) V #[] 0 (Nat.le_refl _) (by decide) (by rfl))
  have BA := Lib.hid ((Below.refl V.heap.size V).alloc (Nat.le_refl _) (.cells #[] 38))
  have S3 := Lib.hid ((S2.out.below B1.out).below BA.out)
  go_enter Try.func22, Try.ntmps22
  go_wp2_with (at_builtin; refine wpList_append_ce rfl (.tmp 18) (.tmp 19) (by rfl) V.heap.size (.slice (some ⟨V.heap.size, 0, none⟩) 0 0) 0 [] (by rfl) LIT.out A2 n2 c2 ces (by rfl) HA2.out HL2.out S3.out (by omega) BA.out.size ?_; intro vs w2 own gr; generalize hG : wpList _ _ _ _ _ _ = GG)
  clear hW
  have hb : Below V.heap.size V w2 := BA.out.grown gr BA.out.size (own_ge LIT.out)
  rw [Nat.zero_add, List.nil_append] at own
  obtain ⟨As, cc, rfl, rS⟩ := row_of own
  clear own gr LIT BA S3
  have sz2 := hb.size
  have B2 := Lib.hid (below_chain B1.out hb)
  have G_2 := Lib.hid (G_1.out.below hb)
  have X_2 := Lib.hid (X_1.out.below hb)
  clear hb B1 G_1 X_1
  have S_2 := Lib.hid rS
  clear rS
  obtain ⟨V2, hW⟩ : ∃ z, (w2.alloc (.cells #[] 38)) = z := ⟨_, rfl⟩
  have hb : Below w2.heap.size w2 V2 := by rw [← hW]; exact ((Below.refl _ _).alloc (by first | (simp; done) | (simp; omega) | omega) _)
  have az : V2.heap.size = w2.heap.size + 1 := by rw [← hW]; simp
  have NE := Lib.hid (show Blk V2 (w2.heap.size) 38 #[] by rw [← hW]; exact (Blk.new _ _ _))
  have AZV2 := Lib.hid az
  clear az
  have sz3 := hb.size
  have B3 := Lib.hid (below_chain B2.out hb)
  have S_3 := Lib.hid (S_2.out.below hb)
  have G_3 := Lib.hid (G_2.out.below hb)
  have X_3 := Lib.hid (X_2.out.below hb)
  clear hb B2 S_2 G_2 X_2
  have E_3 := NE
  clear NE
  have ltE : w2.heap.size < V2.heap.size := E_3.out.lt
  have rO := row_lit (size := 4) E_3.out
  have O_3 := Lib.hid rO
  clear rO
  clear E_3
  subst hG
  have xG0 : V2.cell? ⟨w.heap.size, 0, none⟩ = some (.slice A n c) := by rw [G_3.out.cell]; rfl
  have xG1 : V2.cell? ⟨w.heap.size, 1, none⟩ = some (.int .i64 wk) := by rw [G_3.out.cell]; rfl
  have xG2 : V2.cell? ⟨w.heap.size, 2, none⟩ = some (.int .i64 cp) := by rw [G_3.out.cell]; rfl
  have xX0 : V2.cell? ⟨w.heap.size + 1, 0, none⟩ = some (.int .i64 x0) := by rw [X_3.out.cell]; rfl
  have xX1 : V2.cell? ⟨w.heap.size + 1, 1, none⟩ = some (.int .i64 x1) := by rw [X_3.out.cell]; rfl
  have xX2 : V2.cell? ⟨w.heap.size + 1, 2, none⟩ = some (.int .i64 x2) := by rw [X_3.out.cell]; rfl
  have xX3 : V2.cell? ⟨w.heap.size + 1, 3, none⟩ = some (.int .i64 x3) := by rw [X_3.out.cell]; rfl
  go_wp2_with fail
  clear hW xG0 xG1 xG2 xX0 xX1 xX2 xX3
  refine (specNodeOf_row HX.out HM.out HQ.out wk cp A n c HL.out HO.out hn _ (S0.out.below B3.out)).mono ?_
  rintro e w4 ⟨An, cn, rfl, rZ, hb⟩
  have sz4 := hb.size
  have B4 := Lib.hid (below_chain B3.out hb)
  have S_4 := Lib.hid (S_3.out.below hb)
  have O_4 := Lib.hid (O_3.out.below hb)
  have G_4 := Lib.hid (G_3.out.below hb)
  have X_4 := Lib.hid (X_3.out.below hb)
  clear hb B3 S_3 O_3 G_3 X_3
  have Z_4 := Lib.hid rZ
  clear rZ
  obtain ⟨V4, hW⟩ : ∃ z, (w4.alloc (.cells #[.int .i64 k, .int .i64 a, .int .i64 b, .slice An m cn] 46)) = z := ⟨_, rfl⟩
  have hb : Below w4.heap.size w4 V4 := by rw [← hW]; exact ((Below.refl _ _).alloc (by first | (simp; done) | (simp; omega) | omega) _)
  have az : V4.heap.size = w4.heap.size + 1 := by rw [← hW]; simp
  have NN := Lib.hid (show Blk V4 (w4.heap.size) 46 #[.int .i64 k, .int .i64 a, .int .i64 b, .slice An m cn] by rw [← hW]; exact (Blk.new _ _ _))
  have AZV4 := Lib.hid az
  clear az
  have sz5 := hb.size
  have B5 := Lib.hid (below_chain B4.out hb)
  have S_5 := Lib.hid (S_4.out.below hb)
  have O_5 := Lib.hid (O_4.out.below hb)
  have Z_5 := Lib.hid (Z_4.out.below hb)
  have G_5 := Lib.hid (G_4.out.below hb)
  have X_5 := Lib.hid (X_4.out.below hb)
  clear hb B4 S_4 O_4 Z_4 G_4 X_4
  have N_5 := NN
  clear NN
  have ltN : w4.heap.size < V4.heap.size := N_5.out.lt
  cases q with
  | false =>
    have HF := Lib.hid (show res = (ces, []) by rw [← HR.out]; exact impG_no (by rw [IB.out]; simp))
    go_wp2
    clear hW
    exact bodyPost_ret (v := .tuple #[.slice As n2 cc, .slice (some ⟨w2.heap.size, 0, none⟩) 0 0]) (by simp [results, Try.results22, go_sem]) rfl (by rw [HF.out]; exact ⟨As, cc, n2, _, 0, 0, HL2.out, rfl, rfl, (Wce.of_row S_5.out).bounds (by omega) (by omega), (Wce.of_row O_5.out).bounds (by omega) (by omega), fun g o o1 hA hB => by have h := S_5.out.lt g (by rw [hA]; rfl); simp only [Option.some.injEq, Addr.mk.injEq, and_true] at hB; omega, B5.out⟩)
  | true =>
    have xG0 : V4.cell? ⟨w.heap.size, 0, none⟩ = some (.slice A n c) := by rw [G_5.out.cell]; rfl
    have xG1 : V4.cell? ⟨w.heap.size, 1, none⟩ = some (.int .i64 wk) := by rw [G_5.out.cell]; rfl
    have xG2 : V4.cell? ⟨w.heap.size, 2, none⟩ = some (.int .i64 cp) := by rw [G_5.out.cell]; rfl
    go_wp2_with fail
    clear hW xG0 xG1 xG2
    refine (specGrOk_any gs wk cp A n c HL.out HO.out hn HGK.out _ (S0.out.below B5.out)).mono ?_
    rintro e w5 ⟨rfl, hb⟩
    have sz6 := hb.size
    have B6 := Lib.hid (below_chain B5.out hb)
    have S_6 := Lib.hid (S_5.out.below hb)
    have O_6 := Lib.hid (O_5.out.below hb)
    have Z_6 := Lib.hid (Z_5.out.below hb)
    have G_6 := Lib.hid (G_5.out.below hb)
    have X_6 := Lib.hid (X_5.out.below hb)
    have N_6 := Lib.hid (N_5.out.below hb)
    clear hb B5 S_5 O_5 Z_5 G_5 X_5 N_5
    cases gk with
    | false =>
      have HF := Lib.hid (show res = (ces, []) by rw [← HR.out]; exact impG_no (by rw [IB.out]; simp))
      go_wp2
      exact bodyPost_ret (v := .tuple #[.slice As n2 cc, .slice (some ⟨w2.heap.size, 0, none⟩) 0 0]) (by simp [results, Try.results22, go_sem]) rfl (by rw [HF.out]; exact ⟨As, cc, n2, _, 0, 0, HL2.out, rfl, rfl, (Wce.of_row S_6.out).bounds (by omega) (by omega), (Wce.of_row O_6.out).bounds (by omega) (by omega), fun g o o1 hA hB => by have h := S_6.out.lt g (by rw [hA]; rfl); simp only [Option.some.injEq, Addr.mk.injEq, and_true] at hB; omega, B6.out⟩)
    | true =>
      have xX0 : w5.cell? ⟨w.heap.size + 1, 0, none⟩ = some (.int .i64 x0) := by rw [X_6.out.cell]; rfl
      have xX1 : w5.cell? ⟨w.heap.size + 1, 1, none⟩ = some (.int .i64 x1) := by rw [X_6.out.cell]; rfl
      have xX2 : w5.cell? ⟨w.heap.size + 1, 2, none⟩ = some (.int .i64 x2) := by rw [X_6.out.cell]; rfl
      have xX3 : w5.cell? ⟨w.heap.size + 1, 3, none⟩ = some (.int .i64 x3) := by rw [X_6.out.cell]; rfl
      go_wp2_with fail
      clear xX0 xX1 xX2 xX3
      refine (specInN_is HE1.out _).mono ?_
      rintro e w6 ⟨rfl, rfl⟩
      cases e1 with
      | false =>
        have HF := Lib.hid (show res = (ces, []) by rw [← HR.out]; exact impG_no (by rw [IB.out]; simp))
        go_wp2
        exact bodyPost_ret (v := .tuple #[.slice As n2 cc, .slice (some ⟨w2.heap.size, 0, none⟩) 0 0]) (by simp [results, Try.results22, go_sem]) rfl (by rw [HF.out]; exact ⟨As, cc, n2, _, 0, 0, HL2.out, rfl, rfl, (Wce.of_row S_6.out).bounds (by omega) (by omega), (Wce.of_row O_6.out).bounds (by omega) (by omega), fun g o o1 hA hB => by have h := S_6.out.lt g (by rw [hA]; rfl); simp only [Option.some.injEq, Addr.mk.injEq, and_true] at hB; omega, B6.out⟩)
      | true =>
        have xX0 : w5.cell? ⟨w.heap.size + 1, 0, none⟩ = some (.int .i64 x0) := by rw [X_6.out.cell]; rfl
        have xX1 : w5.cell? ⟨w.heap.size + 1, 1, none⟩ = some (.int .i64 x1) := by rw [X_6.out.cell]; rfl
        have xX2 : w5.cell? ⟨w.heap.size + 1, 2, none⟩ = some (.int .i64 x2) := by rw [X_6.out.cell]; rfl
        have xX3 : w5.cell? ⟨w.heap.size + 1, 3, none⟩ = some (.int .i64 x3) := by rw [X_6.out.cell]; rfl
        go_wp2_with fail
        clear xX0 xX1 xX2 xX3
        refine (specInN_is HE2.out _).mono ?_
        rintro e w7 ⟨rfl, rfl⟩
        cases e2 with
        | false =>
          have HF := Lib.hid (show res = (ces, []) by rw [← HR.out]; exact impG_no (by rw [IB.out]; simp))
          go_wp2
          exact bodyPost_ret (v := .tuple #[.slice As n2 cc, .slice (some ⟨w2.heap.size, 0, none⟩) 0 0]) (by simp [results, Try.results22, go_sem]) rfl (by rw [HF.out]; exact ⟨As, cc, n2, _, 0, 0, HL2.out, rfl, rfl, (Wce.of_row S_6.out).bounds (by omega) (by omega), (Wce.of_row O_6.out).bounds (by omega) (by omega), fun g o o1 hA hB => by have h := S_6.out.lt g (by rw [hA]; rfl); simp only [Option.some.injEq, Addr.mk.injEq, and_true] at hB; omega, B6.out⟩)
        | true =>
          have xX0 : w5.cell? ⟨w.heap.size + 1, 0, none⟩ = some (.int .i64 x0) := by rw [X_6.out.cell]; rfl
          have xX1 : w5.cell? ⟨w.heap.size + 1, 1, none⟩ = some (.int .i64 x1) := by rw [X_6.out.cell]; rfl
          have xX2 : w5.cell? ⟨w.heap.size + 1, 2, none⟩ = some (.int .i64 x2) := by rw [X_6.out.cell]; rfl
          have xX3 : w5.cell? ⟨w.heap.size + 1, 3, none⟩ = some (.int .i64 x3) := by rw [X_6.out.cell]; rfl
          go_wp2_with fail
          clear xX0 xX1 xX2 xX3
          refine (specInN_is HE3.out _).mono ?_
          rintro e w8 ⟨rfl, rfl⟩
          cases e3 with
          | false =>
            have HF := Lib.hid (show res = (ces, []) by rw [← HR.out]; exact impG_no (by rw [IB.out]; simp))
            go_wp2
            exact bodyPost_ret (v := .tuple #[.slice As n2 cc, .slice (some ⟨w2.heap.size, 0, none⟩) 0 0]) (by simp [results, Try.results22, go_sem]) rfl (by rw [HF.out]; exact ⟨As, cc, n2, _, 0, 0, HL2.out, rfl, rfl, (Wce.of_row S_6.out).bounds (by omega) (by omega), (Wce.of_row O_6.out).bounds (by omega) (by omega), fun g o o1 hA hB => by have h := S_6.out.lt g (by rw [hA]; rfl); simp only [Option.some.injEq, Addr.mk.injEq, and_true] at hB; omega, B6.out⟩)
          | true =>
            obtain ⟨us, on, hrc⟩ : ∃ p o, recC 5 ces (x0, x1, x2, x3) = (p, o) := ⟨_, _, rfl⟩
            obtain ⟨m3, hm3⟩ : ∃ m, us.length = m := ⟨_, rfl⟩
            have HRC := Lib.hid hrc
            have HM3 := Lib.hid hm3
            clear hrc hm3
            have xX0 : w5.cell? ⟨w.heap.size + 1, 0, none⟩ = some (.int .i64 x0) := by rw [X_6.out.cell]; rfl
            have xX1 : w5.cell? ⟨w.heap.size + 1, 1, none⟩ = some (.int .i64 x1) := by rw [X_6.out.cell]; rfl
            have xX2 : w5.cell? ⟨w.heap.size + 1, 2, none⟩ = some (.int .i64 x2) := by rw [X_6.out.cell]; rfl
            have xX3 : w5.cell? ⟨w.heap.size + 1, 3, none⟩ = some (.int .i64 x3) := by rw [X_6.out.cell]; rfl
            go_wp2_with fail
            clear xX0 xX1 xX2 xX3
            refine (specRecG_rowI HL2.out HA2.out HC2.out hn2 HRC.out HM3.out _ (S2.out.below B6.out)).mono ?_
            rintro e w9 ⟨A3, c3, rfl, rX, hb⟩
            have sz7 := hb.size
            have B7 := Lib.hid (below_chain B6.out hb)
            have S_7 := Lib.hid (S_6.out.below hb)
            have O_7 := Lib.hid (O_6.out.below hb)
            have Z_7 := Lib.hid (Z_6.out.below hb)
            have G_7 := Lib.hid (G_6.out.below hb)
            have X_7 := Lib.hid (X_6.out.below hb)
            have N_7 := Lib.hid (N_6.out.below hb)
            clear hb B6 S_6 O_6 Z_6 G_6 X_6 N_6
            have Y_7 := Lib.hid rX
            clear rX
            cases on with
            | false =>
              have HF := Lib.hid (show res = (ces, []) by rw [← HR.out]; exact impG_off HRC.out)
              go_wp2
              exact bodyPost_ret (v := .tuple #[.slice As n2 cc, .slice (some ⟨w2.heap.size, 0, none⟩) 0 0]) (by simp [results, Try.results22, go_sem]) rfl (by rw [HF.out]; exact ⟨As, cc, n2, _, 0, 0, HL2.out, rfl, rfl, (Wce.of_row S_7.out).bounds (by omega) (by omega), (Wce.of_row O_7.out).bounds (by omega) (by omega), fun g o o1 hA hB => by have h := S_7.out.lt g (by rw [hA]; rfl); simp only [Option.some.injEq, Addr.mk.injEq, and_true] at hB; omega, B7.out⟩)
            | true =>
              clear S_7
              obtain ⟨q2, hq2⟩ : ∃ q, okC k a b (dec1 a) x2 x3 zs = q := ⟨_, rfl⟩
              obtain ⟨ky, hK⟩ : ∃ v, chgK q2 k a x2 = v := ⟨_, rfl⟩
              obtain ⟨vy, hQ⟩ : ∃ v, chgV q2 k a x3 = v := ⟨_, rfl⟩
              obtain ⟨go, hgo⟩ : ∃ v, chgO q2 k a b x2 = v := ⟨_, rfl⟩
              have HF := Lib.hid (show res = (us, if go = true then emitC zs x1 ky vy else []) by rw [← HR.out]; exact impG_on (c := (x0, x1, x2, x3)) (by rw [IB.out]; rfl) HRC.out HX.out hq2 hK hQ hgo)
              have HQ2 := Lib.hid hq2
              have HK := Lib.hid hK
              have HQV := Lib.hid hQ
              have HGO := Lib.hid hgo
              clear hq2 hK hQ hgo
              have xN0 : w9.cell? ⟨w4.heap.size, 0, none⟩ = some (.int .i64 k) := by rw [N_7.out.cell]; rfl
              have xN1 : w9.cell? ⟨w4.heap.size, 1, none⟩ = some (.int .i64 a) := by rw [N_7.out.cell]; rfl
              have xN2 : w9.cell? ⟨w4.heap.size, 2, none⟩ = some (.int .i64 b) := by rw [N_7.out.cell]; rfl
              have xN3 : w9.cell? ⟨w4.heap.size, 3, none⟩ = some (.slice An m cn) := by rw [N_7.out.cell]; rfl
              have xX0 : w9.cell? ⟨w.heap.size + 1, 0, none⟩ = some (.int .i64 x0) := by rw [X_7.out.cell]; rfl
              have xX1 : w9.cell? ⟨w.heap.size + 1, 1, none⟩ = some (.int .i64 x1) := by rw [X_7.out.cell]; rfl
              have xX2 : w9.cell? ⟨w.heap.size + 1, 2, none⟩ = some (.int .i64 x2) := by rw [X_7.out.cell]; rfl
              have xX3 : w9.cell? ⟨w.heap.size + 1, 3, none⟩ = some (.int .i64 x3) := by rw [X_7.out.cell]; rfl
              go_wp2_with fail
              clear xN0 xN1 xN2 xN3 xX0 xX1 xX2 xX3
              refine (specChg_any k a b (dec1 a) x2 x3 An m cn zs HM.out rfl _ Z_7.out.is hmn HQ2.out HK.out HQV.out HGO.out).mono ?_
              rintro e w10 ⟨rfl, hb⟩
              have sz8 := hb.size
              have B8 := Lib.hid (below_chain B7.out hb)
              have O_8 := Lib.hid (O_7.out.below hb)
              have Z_8 := Lib.hid (Z_7.out.below hb)
              have Y_8 := Lib.hid (Y_7.out.below hb)
              have G_8 := Lib.hid (G_7.out.below hb)
              have X_8 := Lib.hid (X_7.out.below hb)
              have N_8 := Lib.hid (N_7.out.below hb)
              clear hb B7 O_7 Z_7 Y_7 G_7 X_7 N_7
              cases go with
              | false =>
                have HF2 := Lib.hid (show res = (us, []) by rw [HF.out]; rfl)
                have xN0 : w10.cell? ⟨w4.heap.size, 0, none⟩ = some (.int .i64 k) := by rw [N_8.out.cell]; rfl
                have xN1 : w10.cell? ⟨w4.heap.size, 1, none⟩ = some (.int .i64 a) := by rw [N_8.out.cell]; rfl
                have xN2 : w10.cell? ⟨w4.heap.size, 2, none⟩ = some (.int .i64 b) := by rw [N_8.out.cell]; rfl
                have xN3 : w10.cell? ⟨w4.heap.size, 3, none⟩ = some (.slice An m cn) := by rw [N_8.out.cell]; rfl
                go_wp2
                go_loopw [9, 17] (fun v i wr => v = .slice (some ⟨w2.heap.size, 0, none⟩) 0 0 ∧ i = .int .i64 0 ∧ wr = w10) (fun _ _ _ => 0)
                case atStart => exact ⟨rfl, rfl, rfl⟩
                case round =>
                  obtain ⟨rfl, rfl, hw⟩ := hrel
                  subst hw
                  by_cases m0 : 0 < m
                  · have dm : decide ((0 : Int) < (m : Int)) = true := by simp; omega
                    go_wp2
                    exact bodyPost_ret (v := .tuple #[.slice A3 m3 c3, .slice (some ⟨w2.heap.size, 0, none⟩) 0 0]) (by simp [results, Try.results22, go_sem]) rfl (by rw [HF2.out]; exact ⟨A3, c3, m3, _, 0, 0, HM3.out, rfl, rfl, (Wce.of_row Y_8.out).bounds (by omega) (by omega), (Wce.of_row O_8.out).bounds (by omega) (by omega), fun g o o1 hA hB => by have h := own_ge Y_8.out.own g (by rw [hA]; rfl); simp only [Option.some.injEq, Addr.mk.injEq, and_true] at hB; omega, B8.out⟩)
                  · have dm : decide ((0 : Int) < (m : Int)) = false := by simp; omega
                    go_wp2
                    exact bodyPost_ret (v := .tuple #[.slice A3 m3 c3, .slice (some ⟨w2.heap.size, 0, none⟩) 0 0]) (by simp [results, Try.results22, go_sem]) rfl (by rw [HF2.out]; exact ⟨A3, c3, m3, _, 0, 0, HM3.out, rfl, rfl, (Wce.of_row Y_8.out).bounds (by omega) (by omega), (Wce.of_row O_8.out).bounds (by omega) (by omega), fun g o o1 hA hB => by have h := own_ge Y_8.out.own g (by rw [hA]; rfl); simp only [Option.some.injEq, Addr.mk.injEq, and_true] at hB; omega, B8.out⟩)
              | true =>
                obtain ⟨nb, hnb⟩ : ∃ g, g = w4.heap.size := ⟨_, rfl⟩
                obtain ⟨xb, hxb⟩ : ∃ g, g = w.heap.size + 1 := ⟨_, rfl⟩
                obtain ⟨loS, hiS, hY, hlo, hhi, hOS⟩ : ∃ lo hi, Row w10 lo hi 38 4 A3 m3 c3 (ceCells us) ∧ V4.heap.size ≤ lo ∧ hi ≤ w10.heap.size ∧ w2.heap.size < lo := ⟨_, _, Y_8.out, by omega, by omega, by omega⟩
                have LS := Lib.hid (show ImpSt w w10 loS hiS w.heap.size nb xb A3 m3 c3 us An m cn zs k a b x0 x1 x2 x3 (some ⟨w2.heap.size, 0, none⟩) 0 0 [] from ⟨(Wce.of_row O_8.out).bounds (by omega) (by omega), hY, own_base Z_8.out.own (by omega), by rw [hnb]; exact N_8.out, by rw [hxb]; exact X_8.out, fun g o hA => by simp only [Option.some.injEq, Addr.mk.injEq, and_true] at hA; omega, by omega, by omega, by omega, B8.out⟩)
                have HF2 := Lib.hid (show res = (us, emitC zs x1 ky vy) by rw [HF.out]; rfl)
                clear hY
                go_wp2_with fail
                go_loopw [9, 17] (fun v i wr => ∃ (j : Nat) (AO : Option Addr) (cO : Nat), i = .int .i64 (j : Int) ∧ j ≤ m ∧ v = .slice AO j cO ∧ ImpSt w wr loS hiS w.heap.size nb xb A3 m3 c3 us An m cn zs k a b x0 x1 x2 x3 AO j cO (emitC (zs.take j) x1 ky vy)) (fun _ i _ => m - (intOf i).toNat)
                case atStart => exact ⟨0, _, 0, rfl, Nat.zero_le _, rfl, LS.out⟩
                case round =>
                  obtain ⟨j, AO, cO, rfl, hj, rfl, hS⟩ := hrel
                  have SR := Lib.hid hS
                  clear hS
                  have n3 : wr.cell? ⟨nb, 3, none⟩ = some (.slice An m cn) := by rw [SR.out.n.cell]; rfl
                  rw [hnb] at n3
                  by_cases hlt : j < m
                  · obtain ⟨bz, oz, z, hAz, hz2, hze⟩ := SR.out.at.2.at (show j < zs.length by rw [HM.out]; exact hlt)
                    have i0 : (0 : Int) ≤ (j : Int) := by omega
                    have i1 : (j : Int) < (m : Int) := by omega
                    obtain ⟨out, hout⟩ : ∃ o, emitC (zs.take j) x1 ky vy = o := ⟨_, rfl⟩
                    have ES := Lib.hid (show emitC (zs.take (j + 1)) x1 ky vy = out ++ [(z, x1, ky, vy)] by rw [emitC_step (by rw [HM.out]; exact hlt), hout, hz2])
                    rw [hout] at SR
                    obtain ⟨V9, hV⟩ : ∃ v, wr.drew = v := ⟨_, rfl⟩
                    have SV := Lib.hid (show ImpSt w V9 loS hiS w.heap.size nb xb A3 m3 c3 us An m cn zs k a b x0 x1 x2 x3 AO j cO out by rw [← hV]; exact SR.out.fresh ((Below.refl _ _).drew))
                    have HV := Lib.hid (by have h := SV.out.held (show j < zs.length by rw [HM.out]; exact hlt) hAz hz2; rw [hnb, hxb] at h; exact h)
                    have HAZ := Lib.hid hAz
                    have HZ2 := Lib.hid hz2
                    clear hAz hz2
                    go_wp2_with fail
                    clear n3 hze
                    refine wp_region_held_drew (S := ImpHeld (w4.heap.size) m cn bz oz j z (w.heap.size + 1) x1) (by kernel_rfl) ?_ (fun hHeld => ?_)
                    · skip
                      rw [hV]; exact HV.out
                    change wpAnyH _ _ opsI13 _ _ 14 (LI13 0) _ _
                    rw [hV] at hHeld ⊢
                    clear hV
                    refine regY tI13_0 (.slice AO j cO) (fun W hSw => by unfold qI13_0; go_simp) hHeld ?_
                    try simp only [pt, List.set]
                    refine regY tI13_1 (.pointer (some ⟨w4.heap.size, 3, none⟩)) (fun W hSw => by unfold qI13_1; go_simp) hHeld ?_
                    try simp only [pt, List.set]
                    refine regY tI13_2 (.slice (some ⟨bz, oz, none⟩) m cn) (fun W hSw => by unfold qI13_2; obtain ⟨c3, e0, t1, _⟩ := hSw; go_simp) hHeld ?_
                    try simp only [pt, List.set]
                    refine regY tI13_3 (.int .i64 (j : Int)) (fun W hSw => by unfold qI13_3; go_simp) hHeld ?_
                    try simp only [pt, List.set]
                    refine regY tI13_4 (.pointer (some ⟨bz, oz + j, none⟩)) (fun W hSw => by unfold qI13_4; go_simp) hHeld ?_
                    try simp only [pt, List.set]
                    refine regY tI13_5 (.int .i64 z) (fun W hSw => by unfold qI13_5; obtain ⟨c3, e0, t1, _⟩ := hSw; go_simp) hHeld ?_
                    try simp only [pt, List.set]
                    refine regY tI13_6 (.pointer (some ⟨w.heap.size + 1, 1, none⟩)) (fun W hSw => by unfold qI13_6; go_simp) hHeld ?_
                    try simp only [pt, List.set]
                    refine regY tI13_7 (.int .i64 x1) (fun W hSw => by unfold qI13_7; obtain ⟨c3, e0, t1, _⟩ := hSw; go_simp) hHeld ?_
                    try simp only [pt, List.set]
                    refine regY tI13_8 (.int .i64 ky) (fun W hSw => by unfold qI13_8; go_simp) hHeld ?_
                    try simp only [pt, List.set]
                    refine regY tI13_9 (.int .i64 vy) (fun W hSw => by unfold qI13_9; go_simp) hHeld ?_
                    try simp only [pt, List.set]
                    refine regY tI13_10 (.agg #[.int .i64 z, .int .i64 x1, .int .i64 ky, .int .i64 vy]) (fun W hSw => by unfold qI13_10; go_simp) hHeld ?_
                    try simp only [pt, List.set]
                    refine cI13_11 (fun K hK => ?_)
                    rw [if_pos (by rfl)]
                    unfold qI13_11
                    go_simp
                    obtain ⟨g, hg⟩ : ∃ g, g = V9.heap.size := ⟨_, rfl⟩
                    rw [← hg]
                    generalize hU : World.alloc _ _ = U
                    have bU : Below V9.heap.size V9 U := by rw [← hU]; exact (Below.refl _ _).alloc (Nat.le_refl _) _
                    have NU := Lib.hid (show Ces U (some ⟨g, 0, none⟩) [(z, x1, ky, vy)] by rw [← hU, hg]; exact ce_new _ _ _ _ _)
                    have SU := Lib.hid (SV.out.fresh bU)
                    have HU := hHeld.below bU
                    clear hU hg bU
                    refine Shut.out hK _ _ ?_ (fun hHeld => ?_)
                    · exact HU
                    clear hK K
                    try simp only [pt, List.set]
                    refine cI13_12 (fun K hK => ?_)
                    refine step_append_wce rfl (.tmp 86) (.tmp 97) (by rfl) (by rfl) SU.out.o (some ⟨g, 0, none⟩) 1 1 [(z, x1, ky, vy)] (by rfl) (fun h => by cases h) rfl NU.out (by omega) SU.out.bel.size ?_
                    intro AN cN w9 own gr ha
                    have S9 := Lib.hid (SU.out.app own gr ha)
                    have H9 := S9.out.held (by rw [HM.out]; exact hlt) HAZ.out HZ2.out
                    rw [hnb, hxb] at H9
                    clear own gr ha
                    refine Shut.out hK _ _ ?_ (fun hHeld => ?_)
                    · exact H9
                    rw [show qI13_12.dst = some 98 from rfl]
                    clear hK K
                    try simp only [pt, List.set]
                    refine regY tI13_13 (.slice AN (j + 1) cN) (fun W hSw => by unfold qI13_13; go_simp) hHeld ?_
                    try simp only [pt, List.set]
                    refine wpAnyH_done (by kernel_rfl) ?_ _
                    clear hHeld SU NU SV HV
                    go_wp2
                    go_roundw
                    case rel => first | exact ⟨j + 1, AN, cN, by go_num, by omega, rfl, by rw [ES.out]; exact S9.out⟩ | ((repeat apply Exists.intro); refine ⟨?_, rfl⟩; exact ⟨j + 1, AN, cN, by go_num, by omega, rfl, by rw [ES.out]; exact S9.out⟩)
                    case measure => simp [intOf]; omega
                  · obtain rfl : j = m := by omega
                    have HE := Lib.hid (show res = (us, emitC (zs.take j) x1 ky vy) by rw [HF2.out, List.take_of_length_le (by rw [HM.out]; exact Nat.le_refl _)])
                    have dl : decide (j < j) = false := by simp
                    clear hlt
                    go_wp2
                    exact bodyPost_ret (v := .tuple #[.slice A3 m3 c3, .slice AO j cO]) (by simp [results, Try.results22, go_sem]) rfl (SR.out.done HE.out)
end Go.Proofs.Ytbbagpnjjjohpaa.hexes

