/-
  The program's Adjust and AddCounts: the contracts of slices.Clone over counts, impl.Adjust and impl.AddCounts.
-/
import Derived.Test.YtiehpniogehkmaaImplTable
import Derived.Test.YtiehpniogehkmaaSpecAdd
namespace Go.Proofs.Ytiehpniogehkmaa.hexes
open Go.RowKit Go.Maps

set_option maxRecDepth 100000 in
theorem cloneCt_any (n : Nat) (zs : List Ct) (hz : zs.length = n) (A : Option Addr) (c : Nat) (hA : A = none → c = 0) (w : World) (h1 : Cts w A zs) (hn : n ≤ 4194304) :
    Calls Try.prog 47 #[.slice A n c] w fun e w' => ∃ v, e = .returned v ∧ w'.ownsRow w.heap.size 62 3 v n (ctCells zs) ∧ Below w.heap.size w w' := by
  cases A with
  | none =>
    obtain rfl := cts_none h1 hz
    obtain rfl := hA rfl
    obtain rfl := List.eq_nil_of_length_eq_zero hz
    clear h1 hz hA
    have q22 : ∀ (w : World) (a : Option Addr) (n c n' c' : Nat), (binOp .eql 24 (.slice a n c) (.slice none n' c')).run Try.prog w = .ok (.bool a.isNone) w := fun w a n c n' c' => Lib.run_eql_slice_nil w _ _ a n c n' c' Try.underlying24
    go_enter Try.func47, Try.ntmps47
    go_wp2
    go_ret
    exact ⟨_, rfl, World.ownsRow_nil _ _ _ _, Below.refl _ _⟩
  | some ad =>
    have hb := Below.alloc (Below.refl w.heap.size w) (Nat.le_refl _) (.cells #[] 62)
    have S := Lib.hid (h1.below hb)
    have HB := Lib.hid hb
    have HZ := Lib.hid hz
    clear h1 hz hA hb
    have q22 : ∀ (w : World) (a : Option Addr) (n c n' c' : Nat), (binOp .eql 24 (.slice a n c) (.slice none n' c')).run Try.prog w = .ok (.bool a.isNone) w := fun w a n c n' c' => Lib.run_eql_slice_nil w _ _ a n c n' c' Try.underlying24
    go_enter Try.func47, Try.ntmps47
    go_wp2_with (at_builtin; refine wpList_append_ct rfl (.tmp 5) (.tmp 6) (by rfl) w.heap.size (.slice (some ⟨w.heap.size, 0, none⟩) 0 0) 0 [] (by rfl) (World.ownsRow_lit w #[] 0 (Nat.le_refl _) (by decide) (by rfl)) (some ad) n c zs rfl (fun h => by cases h) HZ.out S.out (by omega) HB.out.size ?_; intro v' w2 own2 gr2)
    have hb2 := HB.out.grown gr2 HB.out.size (fun k hk => Nat.le_of_eq (Option.some.inj hk))
    rw [Nat.zero_add, List.nil_append] at own2
    have O2 := Lib.hid own2
    have B2 := Lib.hid hb2
    clear own2 gr2 hb2
    go_wp2
    go_ret
    exact ⟨_, rfl, O2.out, B2.out⟩

theorem implCtOk_is (n : Nat) (zs : List Ct) (hz : zs.length = n) (A : Option Addr) (c : Nat) (r : Bool) (hr : okCts zs = r) (w : World) (h1 : Cts w A zs) (hn : n ≤ 4194304) :
    Calls Try.prog 16 #[.slice A n c] w fun e w' => e = .returned (.bool r) ∧ Below w.heap.size w w' := by
  subst hr; exact implCtOk_any n zs hz A c w h1 hn
theorem adjust_is {b m : Nat} {zs : List Ct} (hT : Table zs) {x y nn : Int} (hs : okSt x y = true) (hn : (Lit.int .i64 nn).wf = true) {r : Bool} (hr : adjOk zs (x, y) nn = r) {w : World} (hm : CtMap w b m zs) (hb : m ≤ 4194304) :
    Calls Try.prog 49 #[.map (some b), .agg #[.int .i64 x, .int .i64 y], .int .i64 nn] w fun e w' => e = .returned (.bool r) ∧ w.grownBy w' (some b) ∧ (r = true → CtMap w' b (m + 1) (adjL zs (x, y) nn)) := by
  subst hr; exact adjust_any b m zs hT x y nn hs hn w hm hb

set_option maxRecDepth 1000000 in
set_option maxHeartbeats 4000000 in
theorem implAdj_any (n : Nat) (zs : List Ct) (hz : zs.length = n) (A : Option Addr) (c : Nat) (hA : A = none → c = 0) (x y nn : Int) (hw : (Lit.int .i64 nn).wf = true) (w : World) (h1 : Cts w A zs) (hn : n ≤ 2000000) :
    Calls Try.prog 13 #[.slice A n c, .agg #[.int .i64 x, .int .i64 y], .int .i64 nn] w (AdjEnd w zs (x, y) nn) := by
  have hb := Below.alloc (Below.refl w.heap.size w) (Nat.le_refl _) (.cells #[.int .i64 x, .int .i64 y] 26)
  obtain ⟨wb, hwb⟩ : ∃ wb, w.alloc (.cells #[.int .i64 x, .int .i64 y] 26) = wb := ⟨_, rfl⟩
  have HWB := Lib.hid hwb
  rw [hwb] at hb
  have B0 := Lib.hid hb
  have S0 := Lib.hid (h1.below hb)
  have X0 := Lib.hid (show wb.cell? ⟨w.heap.size, 0, none⟩ = some (.int .i64 x) by rw [← hwb]; simp)
  have Y0 := Lib.hid (show wb.cell? ⟨w.heap.size, 1, none⟩ = some (.int .i64 y) by rw [← hwb]; simp)
  have HZ := Lib.hid hz
  have HA := Lib.hid hA
  have HW := Lib.hid hw
  have H1 := Lib.hid h1
  clear hz hA hw h1 hb hwb
  cases hok : okCts zs with
  | false =>
    have NO := Lib.hid (show adjOk zs (x, y) nn = false by unfold adjOk; rw [hok]; rfl)
    have C := Lib.hid (implCtOk_is n zs HZ.out A c false hok wb S0.out (by omega))
    clear hok
    go_enter Try.func13, Try.ntmps13
    go_wp2_with fail
    rw [HWB.out]
    refine C.out.mono ?_
    rintro e w1 ⟨rfl, b1⟩
    have B1 := Lib.hid (below_chain B0.out b1)
    have S1 := Lib.hid (S0.out.below b1)
    clear b1 C
    go_wp2_with fail
    refine (cloneCt_any n zs HZ.out A c HA.out w1 S1.out (by omega)).mono ?_
    rintro e w2 ⟨v, rfl, o2, b2⟩
    have O2 := Lib.hid (own_base o2 B1.out.size)
    have B2 := Lib.hid (below_chain B1.out b2)
    clear o2 b2
    go_wp2_with fail
    exact bodyPost_ret (v := .tuple #[v, .bool false]) (by simp [results, Try.results13, go_sem]) rfl (AdjEnd.no NO.out HZ.out O2.out B2.out)
  | true =>
    have C := Lib.hid (implCtOk_is n zs HZ.out A c true hok wb S0.out (by omega))
    cases hst : okSt x y with
    | false =>
      have NO := Lib.hid (show adjOk zs (x, y) nn = false by unfold adjOk; rw [hok, hst]; rfl)
      have E := Lib.hid (fun W => implOkS_is hst W)
      clear hok hst
      go_enter Try.func13, Try.ntmps13
      go_wp2_with fail
      rw [HWB.out]
      refine C.out.mono ?_
      rintro e w1 ⟨rfl, b1⟩
      have B1 := Lib.hid (below_chain B0.out b1)
      have S1 := Lib.hid (S0.out.below b1)
      have x1 := below_keep b1 X0.out
      have y1 := below_keep b1 Y0.out
      clear b1 C
      go_wp2_with fail
      refine (E.out _).mono ?_
      rintro e w2 ⟨rfl, b2⟩
      have B2 := Lib.hid (below_chain B1.out b2)
      have S2 := Lib.hid (S1.out.below b2)
      clear b2 E x1 y1
      go_wp2_with fail
      refine (cloneCt_any n zs HZ.out A c HA.out w2 S2.out (by omega)).mono ?_
      rintro e w3 ⟨v, rfl, o3, b3⟩
      have O3 := Lib.hid (own_base o3 B2.out.size)
      have B3 := Lib.hid (below_chain B2.out b3)
      clear o3 b3
      go_wp2_with fail
      exact bodyPost_ret (v := .tuple #[v, .bool false]) (by simp [results, Try.results13, go_sem]) rfl (AdjEnd.no NO.out HZ.out O3.out B3.out)
    | true =>
      have E := Lib.hid (fun W => implOkS_is hst W)
      have TT := Lib.hid (okCts_table hok)
      have ST := Lib.hid hst
      clear hok hst
      go_enter Try.func13, Try.ntmps13
      go_wp2_with fail
      rw [HWB.out]
      refine C.out.mono ?_
      rintro e w1 ⟨rfl, b1⟩
      have B1 := Lib.hid (below_chain B0.out b1)
      have S1 := Lib.hid (S0.out.below b1)
      have x1 := below_keep b1 X0.out
      have y1 := below_keep b1 Y0.out
      clear b1 C
      go_wp2_with fail
      refine (E.out _).mono ?_
      rintro e w2 ⟨rfl, b2⟩
      have B2 := Lib.hid (below_chain B1.out b2)
      have S2 := Lib.hid (S1.out.below b2)
      replace x1 := Lib.hid (below_keep b2 x1)
      replace y1 := Lib.hid (below_keep b2 y1)
      clear b2 E
      go_wp2_with fail
      refine (byStamp_any n zs HZ.out TT.out A c w2 S2.out (by omega)).mono ?_
      rintro e w3 ⟨b, rfl, hbb, m3, b3⟩
      have B3 := Lib.hid (below_chain B2.out b3)
      have x3 := below_keep b3 x1.out
      have y3 := below_keep b3 y1.out
      have S3 := Lib.hid (S2.out.below b3)
      have hbw : w.heap.size ≤ b := Nat.le_trans B2.out.size hbb
      have M3 := Lib.hid m3
      clear b3 m3 x1 y1
      cases hadj : adjOk zs (x, y) nn with
      | false =>
        have NO := Lib.hid hadj
        have AD := Lib.hid (adjust_is TT.out ST.out HW.out hadj M3.out (by omega))
        clear hadj
        go_wp2_with fail
        refine AD.out.mono ?_
        rintro e w4 ⟨rfl, g4, _⟩
        have B4 := Lib.hid (B3.out.grown g4 B3.out.size (fun j e => by cases e; exact hbw))
        have S4 := Lib.hid (H1.out.below B4.out)
        clear g4 AD
        go_wp2_with fail
        refine (cloneCt_any n zs HZ.out A c HA.out w4 S4.out (by omega)).mono ?_
        rintro e w5 ⟨v, rfl, o5, b5⟩
        have O5 := Lib.hid (own_base o5 B4.out.size)
        have B5 := Lib.hid (below_chain B4.out b5)
        clear o5 b5
        go_wp2_with fail
        exact bodyPost_ret (v := .tuple #[v, .bool false]) (by simp [results, Try.results13, go_sem]) rfl (AdjEnd.no NO.out HZ.out O5.out B5.out)
      | true =>
        have YES := Lib.hid hadj
        have AD := Lib.hid (adjust_is TT.out ST.out HW.out hadj M3.out (by omega))
        have TL := Lib.hid (table_adjL hadj)
        clear hadj
        go_wp2_with fail
        refine AD.out.mono ?_
        rintro e w4 ⟨rfl, g4, m4⟩
        have B4 := Lib.hid (B3.out.grown g4 B3.out.size (fun j e => by cases e; exact hbw))
        have M4 := Lib.hid (m4 trivial)
        clear g4 m4 AD x3 y3
        go_wp2_with fail
        refine (tableOf_any b (n + 1) _ TL.out (by omega) w4 M4.out).mono ?_
        rintro e w5 ⟨v, rfl, o5, b5⟩
        have O5 := Lib.hid (own_base o5 B4.out.size)
        have B5 := Lib.hid (below_chain B4.out b5)
        clear o5 b5
        go_wp2_with fail
        exact bodyPost_ret (v := .tuple #[v, .bool true]) (by simp [results, Try.results13, go_sem]) rfl ⟨v, by rw [YES.out], O5.out, B5.out⟩

theorem table_addL1 : ∀ (b a : List Ct), Table a → Table (addL a b).1
  | [], a, h => by simpa [addL] using h
  | z :: b, a, h => by
    unfold addL
    split
    · rename_i hk; exact table_addL1 b _ (table_adjL hk)
    · exact h

set_option maxRecDepth 1000000 in
set_option maxHeartbeats 4000000 in
theorem implAdd_any (n m : Nat) (zs ys : List Ct) (hz : zs.length = n) (hy : ys.length = m) (A1 A2 : Option Addr) (c1 c2 : Nat) (hA1 : A1 = none → c1 = 0) (w : World) (h1 : Cts w A1 zs) (h2 : Cts w A2 ys) (hn : n + m ≤ 1500000) :
    Calls Try.prog 19 #[.slice A1 n c1, .slice A2 m c2] w (AddEnd w zs ys) := by
  have HZ := Lib.hid hz
  have HY := Lib.hid hy
  have HA := Lib.hid hA1
  have H1 := Lib.hid h1
  have H2 := Lib.hid h2
  clear hz hy hA1 h1 h2
  cases hok : okCts zs with
  | false =>
    have NO := Lib.hid (show addOk zs ys = false by unfold addOk; rw [hok]; rfl)
    have C := Lib.hid (implCtOk_is n zs HZ.out A1 c1 false hok w H1.out (by omega))
    clear hok
    go_enter Try.func19, Try.ntmps19
    go_wp2_with fail
    refine C.out.mono ?_
    rintro e w1 ⟨rfl, b1⟩
    have B1 := Lib.hid b1
    have S1 := Lib.hid (H1.out.below b1)
    clear b1 C
    go_wp2_with fail
    refine (cloneCt_any n zs HZ.out A1 c1 HA.out w1 S1.out (by omega)).mono ?_
    rintro e w2 ⟨v, rfl, o2, b2⟩
    have O2 := Lib.hid (own_base o2 B1.out.size)
    have B2 := Lib.hid (below_chain B1.out b2)
    clear o2 b2
    go_wp2_with fail
    exact bodyPost_ret (v := .tuple #[v, .bool false]) (by simp [results, Try.results19, go_sem]) rfl (AddEnd.no NO.out HZ.out O2.out B2.out)
  | true =>
    have C := Lib.hid (implCtOk_is n zs HZ.out A1 c1 true hok w H1.out (by omega))
    cases hok2 : okCts ys with
    | false =>
      have NO := Lib.hid (show addOk zs ys = false by unfold addOk; rw [hok, hok2]; rfl)
      clear hok
      go_enter Try.func19, Try.ntmps19
      go_wp2_with fail
      refine C.out.mono ?_
      rintro e w1 ⟨rfl, b1⟩
      have B1 := Lib.hid b1
      clear b1 C
      go_wp2_with fail
      refine (implCtOk_is m ys HY.out A2 c2 false hok2 w1 (H2.out.below B1.out) (by omega)).mono ?_
      clear hok2
      rintro e w2 ⟨rfl, b2⟩
      have B2 := Lib.hid (below_chain B1.out b2)
      have S2 := Lib.hid (H1.out.below B2.out)
      clear b2
      go_wp2_with fail
      refine (cloneCt_any n zs HZ.out A1 c1 HA.out w2 S2.out (by omega)).mono ?_
      rintro e w3 ⟨v, rfl, o3, b3⟩
      have O3 := Lib.hid (own_base o3 B2.out.size)
      have B3 := Lib.hid (below_chain B2.out b3)
      clear o3 b3
      go_wp2_with fail
      exact bodyPost_ret (v := .tuple #[v, .bool false]) (by simp [results, Try.results19, go_sem]) rfl (AddEnd.no NO.out HZ.out O3.out B3.out)
    | true =>
      have T1 := Lib.hid (okCts_table hok)
      have T2 := Lib.hid (okCts_table hok2)
      have HOK := Lib.hid (show addOk zs ys = (addL zs ys).2 by unfold addOk; rw [hok, hok2]; rfl)
      clear hok
      go_enter Try.func19, Try.ntmps19
      go_wp2_with fail
      refine C.out.mono ?_
      rintro e w1 ⟨rfl, b1⟩
      have B1 := Lib.hid b1
      clear b1 C
      go_wp2_with fail
      refine (implCtOk_is m ys HY.out A2 c2 true hok2 w1 (H2.out.below B1.out) (by omega)).mono ?_
      clear hok2
      rintro e w2 ⟨rfl, b2⟩
      have B2 := Lib.hid (below_chain B1.out b2)
      have S2 := Lib.hid (H1.out.below B2.out)
      clear b2
      go_wp2_with fail
      refine (byStamp_any n zs HZ.out T1.out A1 c1 w2 S2.out (by omega)).mono ?_
      rintro e w3 ⟨b, rfl, hbb, m3, b3⟩
      have B3 := Lib.hid (below_chain B2.out b3)
      have hbw : w.heap.size ≤ b := Nat.le_trans B2.out.size hbb
      have M3 := Lib.hid m3
      clear b3 m3 hbb
      go_wp2
      go_loopw [23] (fun i wr => ∃ k : Nat, k ≤ m ∧ i = .int .i64 k ∧ (addL zs (ys.take k)).2 = true ∧ CtMap wr b (n + k) (addL zs (ys.take k)).1 ∧ Below w.heap.size w wr) (fun i _ => m - (intOf i).toNat)
      case atStart => exact ⟨0, Nat.zero_le _, rfl, rfl, M3.out, B3.out⟩
      case round =>
        obtain ⟨k, hk, rfl, ht, hm, hb⟩ := hrel
        have HT := Lib.hid ht
        have HM := Lib.hid hm
        have HB := Lib.hid hb
        clear ht hm hb
        by_cases hlt : k < m
        · have l1 : k < ys.length := by rw [HY.out]; exact hlt
          obtain ⟨b1, o1, p0, p1, p2, rfl, x1, e0, e1, e2⟩ := (H2.out.below HB.out).at l1
          have i0 : (0 : Int) ≤ (k : Int) := by omega
          have i1 : (k : Int) < (m : Int) := by omega
          have hE := T2.out.ent ys[k] (List.getElem_mem l1)
          rw [x1] at hE
          have ST := Lib.hid hE.1
          have WP := Lib.hid (wf_small (x := p2) (by have := hE.2.1; dsimp only at this; omega))
          have BA := Lib.hid (HB.out.alloc HB.out.size (.cells #[.int .i64 p0, .int .i64 p1, .int .i64 p2] 62))
          have MA := Lib.hid (HM.out.kept (World.grownBy_alloc wr (.cells #[.int .i64 p0, .int .i64 p1, .int .i64 p2] 62) none) (by simp))
          have TC := Lib.hid (table_addL1 (ys.take k) zs T1.out)
          have hst := addL_step l1 HT.out
          rw [x1] at hst
          cases hadj : adjOk (addL zs (ys.take k)).1 (p0, p1) p2 with
          | false =>
            rw [hadj] at hst
            have NO := Lib.hid (show addOk zs ys = false by rw [HOK.out]; exact addL_stuck ys zs (k + 1) (by rw [hst]; rfl))
            have AD := Lib.hid (adjust_is TC.out ST.out WP.out hadj MA.out (by omega))
            clear hadj hst x1 hE l1
            go_wp2_with fail
            refine AD.out.mono ?_
            rintro e w4 ⟨rfl, g4, _⟩
            have B4 := Lib.hid (BA.out.grown g4 BA.out.size (fun j e => by cases e; exact hbw))
            have S4 := Lib.hid (H1.out.below B4.out)
            clear g4 AD
            go_wp2_with fail
            refine (cloneCt_any n zs HZ.out A1 c1 HA.out w4 S4.out (by omega)).mono ?_
            rintro e w5 ⟨v, rfl, o5, b5⟩
            have O5 := Lib.hid (own_base o5 B4.out.size)
            have B5 := Lib.hid (below_chain B4.out b5)
            clear o5 b5
            go_wp2_with fail
            exact bodyPost_ret (v := .tuple #[v, .bool false]) (by simp [results, Try.results19, go_sem]) rfl (AddEnd.no NO.out HZ.out O5.out B5.out)
          | true =>
            rw [hadj] at hst
            simp only [if_true] at hst
            have HS := Lib.hid hst
            have AD := Lib.hid (adjust_is TC.out ST.out WP.out hadj MA.out (by omega))
            clear hadj hst x1 hE l1
            go_wp2_with fail
            refine AD.out.mono ?_
            rintro e w4 ⟨rfl, g4, m4⟩
            have B4 := Lib.hid (BA.out.grown g4 BA.out.size (fun j e => by cases e; exact hbw))
            have M4 := Lib.hid (m4 trivial)
            clear g4 m4 AD
            go_wp2
            go_roundw
            case rel => exact ⟨k + 1, by omega, by go_num, by rw [HS.out], by rw [HS.out]; exact M4.out, B4.out⟩
            case measure => simp [intOf]; omega
        · have hfin : ys.take k = ys := List.take_of_length_le (by rw [HY.out]; omega)
          have ht := HT.out
          have hm := HM.out
          rw [hfin] at ht hm
          have YES := Lib.hid (show addOk zs ys = true by rw [HOK.out]; exact ht)
          have SUM := Lib.hid (show sumsL zs ys = (addL zs ys).1 by unfold sumsL; rw [if_pos YES.out])
          have M5 := Lib.hid hm
          have TC := Lib.hid (table_addL1 ys zs T1.out)
          clear ht hm hfin
          go_wp2_with fail
          refine (tableOf_any b (n + k) _ TC.out (by omega) wr M5.out).mono ?_
          rintro e w5 ⟨v, rfl, o5, b5⟩
          have O5 := Lib.hid (own_base o5 HB.out.size)
          have B5 := Lib.hid (below_chain HB.out b5)
          clear o5 b5
          go_wp2_with fail
          exact bodyPost_ret (v := .tuple #[v, .bool true]) (by simp [results, Try.results19, go_sem]) rfl ⟨v, by rw [YES.out], by rw [SUM.out]; exact O5.out, B5.out⟩
end Go.Proofs.Ytiehpniogehkmaa.hexes
