/-
  spec.l08From and spec.Reaches.
-/
import Derived.Test.YtjplkoglibagkaaJ19

namespace Go.Proofs.Ytjplkoglibagkaa.hexes
open Go.RowKit

set_option maxRecDepth 100000 in
set_option maxHeartbeats 8000000 in
theorem specFrom_any {gs : List Nd} {d : Int → Int} {wk cp : Int} (hok : okGr gs d wk cp = true) {i : Nat} (hi : i < gs.length) (A : Option Addr) (n c : Nat) (hl : gs.length = n) (w : World) (h : Nds w A gs) :
    Calls Try.prog 56 #[.agg #[.slice A n c, .int .i64 wk, .int .i64 cp], .int .i64 (i : Int)] w fun e w' => ∃ (v : Value) (m : Nat) (S : List Int), e = .returned v ∧ S.length = m ∧ m ≤ 8 ∧ (∀ t, t ∈ S ↔ Path gs (i : Int) t) ∧ w'.ownsRow w.heap.size 3 1 v m (isCells S) ∧ Below w.heap.size w w' := by
  obtain ⟨W, hW⟩ : ∃ W, w.alloc (.cells #[.slice A n c, .int .i64 wk, .int .i64 cp] 26) = W := ⟨_, rfl⟩
  have BW := Lib.hid (show Below w.heap.size w W by rw [← hW]; exact (Below.refl w.heap.size w).alloc (Nat.le_refl _) _)
  have KW := Lib.hid (show Blk W w.heap.size 26 #[.slice A n c, .int .i64 wk, .int .i64 cp] by rw [← hW]; exact Blk.new _ _ _)
  obtain ⟨T, hT⟩ : ∃ T, W.alloc (.cells #[] 3) = T := ⟨_, rfl⟩
  have BT := Lib.hid (show Below W.heap.size W T by rw [← hT]; exact (Below.refl _ _).alloc (Nat.le_refl _) _)
  have OT := Lib.hid (show T.ownsRow W.heap.size 3 1 (.slice (some ⟨W.heap.size, 0, none⟩) 0 0) 0 (isCells []) by rw [← hT]; exact World.ownsRow_lit W #[] 0 (Nat.le_refl _) (by decide) rfl)
  have SW := Lib.hid BW.out.size
  have HL := Lib.hid hl
  have ED := Lib.hid (edges_of hok)
  have LN := Lib.hid (show gs.length ≤ 8 from (okGr_len hok).2)
  have OU := Lib.hid (fun j hj => okGr_outs hok j hj)
  have H1 := Lib.hid (h.below BW.out)
  have KT := Lib.hid (KW.out.below BT.out)
  have x0 : T.cell? ⟨w.heap.size, 0, none⟩ = some (.slice A n c) := by rw [KT.out.cell]; rfl
  obtain ⟨b, off, k0, a0, bb0, zs0, A0, n0, c0, rfl, hx, hz, hc0, hin, hnil, e0, e1, e2, e3⟩ := (H1.out.below BT.out).atN hi
  have O0 := Lib.hid (show outsAt gs (i : Int) = zs0 by rw [outsAt_of rfl hi, hx])
  have Z0 := Lib.hid hz
  have IN0 := Lib.hid hin
  have NIL0 := Lib.hid hnil
  have hn0 : n0 ≤ 2 := by have := (OU.out i hi).1; rw [hx] at this; rw [← hz]; exact this
  have W0 := Lib.hid (show Work gs (i : Int) 0 zs0 by
    have hnd := (OU.out i hi).2
    rw [hx] at hnd
    have hre := reached_start gs (i : Int)
    rw [O0.out] at hre
    exact ⟨hre, hnd, fun x hx => ED.out (i : Int) x (by rw [O0.out]; exact hx), Nat.zero_le _⟩)
  have i0 : (0 : Int) ≤ (i : Int) := by omega
  have i1 : (i : Int) < (n : Int) := by omega
  clear h hok hx hz hin hnil e0 e1 e2 hi hl
  go_enter Try.func56, Try.ntmps56
  go_wp2_with (at_builtin; refine wpList_append_is rfl (.tmp 9) (.tmp 15) (by rfl) W.heap.size _ 0 [] (by rfl) OT.out A0 n0 c0 zs0 (by rfl) NIL0.out Z0.out IN0.out (by omega) BT.out.size ?_; intro v8 w8 own8 gr8; generalize hG : wpList _ _ _ _ _ _ = G)
  have hb8 : Below W.heap.size W w8 := BT.out.grown gr8 BT.out.size (own_ge OT.out)
  rw [Nat.zero_add, List.nil_append] at own8
  have O8 := Lib.hid own8
  have B8 := Lib.hid hb8
  clear own8 gr8 hb8 x0 e3 hT hW O0 IN0 NIL0 KT BT OT
  subst hG
  go_wp2
  go_loopw [5, 6] (fun v q wr => ∃ (k m : Nat) (S : List Int), q = .int .i64 (k : Int) ∧ S.length = m ∧ Work gs (i : Int) k S ∧ wr.ownsRow W.heap.size 3 1 v m (isCells S) ∧ Below W.heap.size W wr) (fun _ q _ => 9 - (intOf q).toNat)
  case atStart => exact ⟨0, n0, zs0, rfl, Z0.out, W0.out, O8.out, B8.out⟩
  case round =>
    obtain ⟨k, m, S, rfl, hm, hwk, hown, hb⟩ := hrel
    obtain ⟨wo, hwo⟩ : ∃ z, z = wr := ⟨_, rfl⟩
    subst hwo
    have HM := Lib.hid hm
    have HWK := Lib.hid hwk
    have HO := Lib.hid hown
    have HB := Lib.hid hb
    have hm8 : m ≤ 8 := by have := hwk.len; have := LN.out; omega
    have KR := Lib.hid (KW.out.below hb)
    have NR := Lib.hid (H1.out.below hb)
    obtain ⟨A5, c5, rfl, hf5⟩ := own_form hown
    clear hm hwk hown hb O8 B8 W0
    by_cases hlt : k < m
    · have lS : k < S.length := by rw [HM.out]; exact hlt
      obtain ⟨g5, rfl⟩ := hf5 (by omega)
      obtain ⟨x, hSx⟩ : ∃ x, S[k] = x := ⟨_, rfl⟩
      have hbx := HWK.out.bd x (hSx ▸ List.getElem_mem lS)
      obtain ⟨q, rfl⟩ : ∃ q : Nat, x = (q : Int) := ⟨x.toNat, by omega⟩
      have hq : q < gs.length := by omega
      obtain ⟨b', off', k1, a1, bb1, zs1, A1, n1, c1, hA, hx, hz, hc1, hin, hnil, e0, e1, e2, e3'⟩ := H1.out.atN hq
      simp only [Option.some.injEq, Addr.mk.injEq, and_true] at hA
      obtain ⟨rfl, rfl⟩ := hA
      have X := Lib.hid (show outsAt gs (q : Int) = zs1 by rw [outsAt_of rfl hq, hx])
      have SX := Lib.hid hSx
      have IN := Lib.hid hin
      have e3 := below_keep HB.out e3'
      have HZ := Lib.hid hz
      have hn1 : n1 ≤ 2 := by have := (OU.out q hq).1; rw [hx] at this; rw [← hz]; exact this
      have PQ := Lib.hid (HWK.out.re.only (q : Int) (hSx ▸ List.getElem_mem lS))
      have r0 : wo.cell? ⟨w.heap.size, 0, none⟩ = some (.slice (some ⟨b, off, none⟩) n c) := by rw [KR.out.cell]; rfl
      have s0 : wo.cell? ⟨g5, k, none⟩ = some (.int .i64 (q : Int)) := by rw [HO.out.cellAt k (by omega), isCells_at S k lS, hSx]
      have k0' : (0 : Int) ≤ (k : Int) := by omega
      have k1' : (k : Int) < (m : Int) := by omega
      have q0 : (0 : Int) ≤ (q : Int) := by omega
      have q1 : (q : Int) < (n : Int) := by have := HL.out; omega
      clear hx hz hin hnil hSx hbx hq e0 e1 e2 e3' hf5 NR
      go_wp2_with fail
      go_quiet (fail)
      go_wp2
      clear r0 s0 e3
      go_loopw [5, 8] (fun v j wr => ∃ (p m' : Nat) (S' : List Int), p ≤ n1 ∧ j = .int .i64 (p : Int) ∧ S'.length = m' ∧ Work gs (i : Int) k S' ∧ S'[k]? = some (q : Int) ∧ (∀ y ∈ zs1.take p, y ∈ S') ∧ wr.ownsRow W.heap.size 3 1 v m' (isCells S') ∧ Below W.heap.size W wr) (fun _ j _ => n1 - (intOf j).toNat)
      case atStart => exact ⟨0, m, S, Nat.zero_le _, rfl, HM.out, HWK.out, by rw [List.getElem?_eq_getElem lS, SX.out], fun y hy => by simp at hy, HO.out, belowN HB.out _⟩
      case round =>
        obtain ⟨p, m', S', hp, rfl, hm', hwk', hat, htk, hown', hb'⟩ := hrel
        have HM' := Lib.hid hm'
        have HWK' := Lib.hid hwk'
        have HAT := Lib.hid hat
        have HTK := Lib.hid htk
        have HO' := Lib.hid hown'
        have HB' := Lib.hid hb'
        have hm8' : m' ≤ 8 := by have := hwk'.len; have := LN.out; omega
        have INR := Lib.hid (IN.out.below hb')
        obtain ⟨A6, c6, rfl, hf6⟩ := own_form hown'
        clear hm' hwk' hat htk hown' hb' HM HWK HO SX lS hm8 k0' k1' hlt
        by_cases hlp : p < n1
        · have lz : p < zs1.length := by rw [HZ.out]; exact hlp
          obtain ⟨b1, o1, y, rfl, hy, ey⟩ := INR.out.at lz
          have Y := Lib.hid hy
          have EY := Lib.hid (show Path gs (i : Int) y from .step PQ.out (by rw [X.out, ← hy]; exact List.getElem_mem lz))
          have p0 : (0 : Int) ≤ (p : Int) := by omega
          have p1 : (p : Int) < (n1 : Int) := by omega
          clear hy
          by_cases hmem : y ∈ S'
          · have E := Lib.hid (l08Has_is HM'.out (decide_eq_true hmem) A6 c6 wr (by
              obtain ⟨A7, c7, he, _, hs⟩ := Ints.of_own HO'.out
              simp only [Value.slice.injEq, true_and] at he
              obtain ⟨rfl, rfl⟩ := he
              exact hs) (by omega))
            have HTK2 := Lib.hid (show ∀ x ∈ zs1.take (p + 1), x ∈ S' by
              rw [List.take_succ_eq_append_getElem lz, Y.out]
              intro x hx
              rcases List.mem_append.1 hx with hx | hx
              · exact HTK.out x hx
              · obtain rfl : x = y := by simpa using hx
                exact hmem)
            clear hmem lz Y EY HTK
            go_wp2_with fail
            refine E.out.mono ?_
            rintro e w5 ⟨rfl, rfl⟩
            go_wp2
            go_roundw
            case rel => exact ⟨p + 1, m', S', by omega, by go_num, HM'.out, HWK'.out, HAT.out, HTK2.out, HO'.out, HB'.out⟩
            case measure => simp [intOf]; omega
          · have E := Lib.hid (l08Has_is HM'.out (decide_eq_false hmem) A6 c6 wr (by
              obtain ⟨A7, c7, he, _, hs⟩ := Ints.of_own HO'.out
              simp only [Value.slice.injEq, true_and] at he
              obtain ⟨rfl, rfl⟩ := he
              exact hs) (by omega))
            have HTK2 := Lib.hid (show ∀ x ∈ zs1.take (p + 1), x ∈ S' ++ [y] by
              rw [List.take_succ_eq_append_getElem lz, Y.out]
              intro x hx
              rcases List.mem_append.1 hx with hx | hx
              · exact List.mem_append_left _ (HTK.out x hx)
              · exact List.mem_append_right _ hx)
            have HWK2 := Lib.hid (HWK'.out.put ED.out EY.out hmem)
            have HAT2 := Lib.hid (show (S' ++ [y])[k]? = some (q : Int) by
              have h1 := (List.getElem?_eq_some_iff.1 HAT.out).1
              rw [List.getElem?_append_left h1]
              exact HAT.out)
            clear hmem lz Y EY HTK
            go_wp2_with fail
            refine E.out.mono ?_
            rintro e w5 ⟨rfl, rfl⟩
            go_wp2_with (at_builtin; refine wpList_append_is rfl (.tmp 45) (.tmp 50) (by rfl) W.heap.size _ m' S' (by rfl) (HO'.out.alloc _) (some ⟨wr.heap.size, 0, none⟩) 1 1 [y] (by rfl) (fun h => by cases h) rfl (is_new wr y) (by omega) (Nat.le_trans HB'.out.size (by simp)) ?_; intro v9 w9 own9 gr9)
            have hb9 := (HB'.out.alloc HB'.out.size _).grown gr9 (Nat.le_trans HB'.out.size (by simp)) (own_ge HO'.out)
            have O9 := Lib.hid own9
            have B9 := Lib.hid hb9
            clear own9 gr9 hb9 ey
            go_wp2
            go_roundw
            case rel => exact ⟨p + 1, m' + 1, S' ++ [y], by omega, by go_num, by simp [HM'.out], HWK2.out, HAT2.out, HTK2.out, O9.out, B9.out⟩
            case measure => simp [intOf]; omega
        · have HW2 := Lib.hid (show Work gs (i : Int) (k + 1) S' by
            obtain ⟨h1, h2⟩ := List.getElem?_eq_some_iff.1 HAT.out
            have h3 := HTK.out
            rw [List.take_of_length_le (by rw [HZ.out]; omega)] at h3
            exact ⟨reached_take HWK'.out.re h1 (by rw [h2, X.out]; exact h3), HWK'.out.nd, HWK'.out.bd, h1⟩)
          have hk8 : k < m' := by rw [← HM'.out]; exact (List.getElem?_eq_some_iff.1 HAT.out).1
          clear HAT HTK
          go_wp2
          go_roundw
          case rel => exact ⟨k + 1, m', S', by go_num, HM'.out, HW2.out, HO'.out, HB'.out⟩
          case measure => simp [intOf]; omega
    · have FIN := Lib.hid (fun t => reached_end HWK.out.re (by rw [HM.out]; omega) t)
      go_wp2
      go_ret
      exact ⟨_, m, S, rfl, HM.out, hm8, FIN.out, own_base HO.out SW.out, below_chain BW.out HB.out⟩

/-- What Reaches answers. -/
noncomputable def reachG (gs : List Nd) (wk cp f t : Int) : Bool := okGr gs dec1 wk cp && decide (0 ≤ f ∧ f ≤ (gs.length : Int) - 1) && reachB gs f t

set_option maxRecDepth 100000 in
set_option maxHeartbeats 4000000 in
theorem specReach_is {gs : List Nd} {wk cp f t : Int} {r : Bool} (hr : reachG gs wk cp f t = r) {n : Nat} (hl : gs.length = n) (hs : ∀ x ∈ gs, x.2.2.2.length ≤ 1048576) (hn : n ≤ 1048576) (A : Option Addr) (c : Nat) (w : World) (h : Nds w A gs) :
    Calls Try.prog 25 #[.agg #[.slice A n c, .int .i64 wk, .int .i64 cp], .int .i64 f, .int .i64 t] w fun e w' => e = .returned (.bool r) ∧ Below w.heap.size w w' := by
  obtain ⟨W, hW⟩ : ∃ W, w.alloc (.cells #[.slice A n c, .int .i64 wk, .int .i64 cp] 26) = W := ⟨_, rfl⟩
  have BW := Lib.hid (show Below w.heap.size w W by rw [← hW]; exact (Below.refl w.heap.size w).alloc (Nat.le_refl _) _)
  have KW := Lib.hid (show Blk W w.heap.size 26 #[.slice A n c, .int .i64 wk, .int .i64 cp] by rw [← hW]; exact Blk.new _ _ _)
  have H1 := Lib.hid (h.below BW.out)
  have x0 : W.cell? ⟨w.heap.size, 0, none⟩ = some (.slice A n c) := by rw [KW.out.cell]; rfl
  have x1 : W.cell? ⟨w.heap.size, 1, none⟩ = some (.int .i64 wk) := by rw [KW.out.cell]; rfl
  have x2 : W.cell? ⟨w.heap.size, 2, none⟩ = some (.int .i64 cp) := by rw [KW.out.cell]; rfl
  obtain ⟨o, ho⟩ : ∃ o, okGr gs dec1 wk cp = o := ⟨_, rfl⟩
  obtain ⟨q, hq⟩ : ∃ q, decide (0 ≤ f ∧ f ≤ (n : Int) - 1) = q := ⟨_, rfl⟩
  have EO := Lib.hid (specGrOk_any gs wk cp A n c hl hs hn ho W H1.out)
  have EQ := Lib.hid (fun W => specInN_is hq W)
  have mm : IntKind.i64.wrap ((n : Int) - 1) = (n : Int) - 1 := IntWalk.i64_in _ (by omega)
  have HR := Lib.hid (show r = (o && q && reachB gs f t) by rw [← hr]; unfold reachG; rw [ho, hl, hq])
  have HO := Lib.hid ho
  have HQ := Lib.hid hq
  have HL := Lib.hid hl
  clear hr h hs hq ho hl
  cases o with
  | false =>
    have HE := Lib.hid (show r = false by rw [HR.out]; rfl)
    go_enter Try.func25, Try.ntmps25
    go_wp2_with fail
    refine EO.out.mono ?_
    rintro e w1 ⟨rfl, hb⟩
    have B1 := Lib.hid (below_chain BW.out hb)
    clear hb x0 x1 x2 hW
    go_wp2
    go_ret
    exact ⟨congrArg (fun b => Ending.returned (Value.bool b)) HE.out.symm, B1.out⟩
  | true =>
  go_enter Try.func25, Try.ntmps25
  go_wp2_with fail
  refine EO.out.mono ?_
  rintro e w1 ⟨rfl, hb⟩
  have B1 := Lib.hid (below_chain BW.out hb)
  have K1 := Lib.hid (KW.out.below hb)
  have N1 := Lib.hid (H1.out.below hb)
  clear hb x0 x1 x2 hW
  have x0 : w1.cell? ⟨w.heap.size, 0, none⟩ = some (.slice A n c) := by rw [K1.out.cell]; rfl
  have x1 : w1.cell? ⟨w.heap.size, 1, none⟩ = some (.int .i64 wk) := by rw [K1.out.cell]; rfl
  have x2 : w1.cell? ⟨w.heap.size, 2, none⟩ = some (.int .i64 cp) := by rw [K1.out.cell]; rfl
  cases q with
  | false =>
    have HE := Lib.hid (show r = false by rw [HR.out]; rfl)
    go_wp2_with fail
    refine (EQ.out _).mono ?_
    rintro e w2 ⟨rfl, rfl⟩
    go_wp2
    go_ret
    exact ⟨congrArg (fun b => Ending.returned (Value.bool b)) HE.out.symm, B1.out⟩
  | true =>
    obtain ⟨i, rfl⟩ : ∃ i : Nat, f = (i : Int) := ⟨f.toNat, by have := of_decide_eq_true HQ.out; omega⟩
    have hi : i < gs.length := by have := of_decide_eq_true HQ.out; have := HL.out; omega
    have EF := Lib.hid (specFrom_any HO.out hi A n c HL.out w1 N1.out)
    clear hi HQ
    go_wp2_with fail
    refine (EQ.out _).mono ?_
    rintro e w2 ⟨rfl, rfl⟩
    go_wp2_with fail
    refine EF.out.mono ?_
    rintro e w3 ⟨v3, m, S, rfl, hm, hm8, hS, hown, hb⟩
    have B3 := Lib.hid (below_chain B1.out hb)
    obtain ⟨A3, c3, rfl, hl3, s3⟩ := Ints.of_own hown
    have EH := Lib.hid (l08Has_is (n := m) (zs := S) hm (q := t) (r := r) (by
      rw [HR.out]
      have e := reachB_is (gs := gs) (a := (i : Int)) (t := t) (b := decide (t ∈ S)) (by rw [decide_eq_true_iff]; exact hS t)
      rw [e]
      rfl) A3 c3 w3 s3 (by omega))
    clear hb x0 x1 x2 hm hS hown hl3 s3
    go_wp2_with fail
    refine EH.out.mono ?_
    rintro e w4 ⟨rfl, rfl⟩
    go_wp2
    go_ret
    exact ⟨rfl, B3.out⟩

end Go.Proofs.Ytjplkoglibagkaa.hexes

