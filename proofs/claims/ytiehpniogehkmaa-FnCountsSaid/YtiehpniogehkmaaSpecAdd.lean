/-
  The reference's AddCounts: the contract of spec.AddCounts.
-/
import Derived.Test.YtiehpniogehkmaaSpecAdj
namespace Go.Proofs.Ytiehpniogehkmaa.hexes
open Go.RowKit

/-- How AddCounts ends. -/
def AddEnd (w : World) (a b : List Ct) (e : Ending) (w' : World) : Prop :=
  ∃ v, e = .returned (.tuple #[v, .bool (addOk a b)]) ∧ w'.ownsRow w.heap.size 62 3 v (sumsL a b).length (ctCells (sumsL a b)) ∧ Below w.heap.size w w'
theorem AddEnd.no {w w' : World} {a b : List Ct} {n : Nat} {v : Value} (h : addOk a b = false) (hz : a.length = n) (ho : w'.ownsRow w.heap.size 62 3 v n (ctCells a)) (hb : Below w.heap.size w w') : AddEnd w a b (.returned (.tuple #[v, .bool false])) w' :=
  ⟨v, by rw [h], by unfold sumsL; rw [h]; simpa [hz] using ho, hb⟩
theorem adjL_len (zs : List Ct) (s : Int × Int) (n : Int) : (adjL zs s n).length ≤ zs.length + 1 := by
  unfold adjL
  split
  · exact putL_len _ _ _
  · omega
theorem addL_step {a b : List Ct} {k : Nat} (hk : k < b.length) (h : (addL a (b.take k)).2 = true) : addL a (b.take (k + 1)) = if adjOk (addL a (b.take k)).1 b[k].1 b[k].2 = true then (adjL (addL a (b.take k)).1 b[k].1 b[k].2, true) else ((addL a (b.take k)).1, false) := by
  rw [List.take_succ_eq_append_getElem hk, addL_snoc, if_pos h]
theorem addL_stuck : ∀ (b a : List Ct) (k : Nat), (addL a (b.take k)).2 = false → (addL a b).2 = false
  | [], a, k, h => by simpa using h
  | z :: b, a, 0, h => by simp [addL] at h
  | z :: b, a, k + 1, h => by
    rw [List.take_succ_cons] at h
    unfold addL at h ⊢
    by_cases hk : adjOk a z.1 z.2 = true
    · rw [if_pos hk] at h ⊢
      exact addL_stuck b _ k h
    · rw [if_neg hk]

theorem cts_drew {w : World} {A : Option Addr} {zs : List Ct} (h : Cts w A zs) : Cts w.drew A zs := h
theorem addL_len : ∀ (b a : List Ct), (addL a b).1.length ≤ a.length + b.length
  | [], a => by simp [addL]
  | z :: b, a => by
    unfold addL
    split
    · have h1 := addL_len b (adjL a z.1 z.2)
      have h2 := adjL_len a z.1 z.2
      simp only [List.length_cons]; omega
    · simp
theorem sumsL_len (a b : List Ct) : (sumsL a b).length ≤ a.length + b.length := by
  unfold sumsL
  split
  · exact addL_len b a
  · omega

/-- Adjust of a table that can be read, with its answer written out. -/
theorem specAdj_is {l c3 : Nat} {cur : List Ct} (hl : cur.length = l) {A3 : Option Addr} (hA : A3 = none → c3 = 0) {x y nn : Int} {r : Bool} (hr : adjOk cur (x, y) nn = r) (hn : l ≤ 2000000) (W : World) (h : Cts W A3 cur) :
    Calls Try.prog 14 #[.slice A3 l c3, .agg #[.int .i64 x, .int .i64 y], .int .i64 nn] W fun e w' => ∃ v, e = .returned (.tuple #[v, .bool r]) ∧ w'.ownsRow W.heap.size 62 3 v (adjL cur (x, y) nn).length (ctCells (adjL cur (x, y) nn)) ∧ Below W.heap.size W w' := by
  subst hr; exact specAdj_any l cur hl A3 c3 hA x y nn W h hn

set_option maxRecDepth 1000000 in
set_option maxHeartbeats 4000000 in
theorem specAdd_any (n m : Nat) (zs ys : List Ct) (hz : zs.length = n) (hy : ys.length = m) (A1 A2 : Option Addr) (c1 c2 : Nat) (hA1 : A1 = none → c1 = 0) (w : World) (h1 : Cts w A1 zs) (h2 : Cts w A2 ys) (hn : n + m ≤ 1500000) :
    Calls Try.prog 20 #[.slice A1 n c1, .slice A2 m c2] w (AddEnd w zs ys) := by
  have hb := Below.alloc (Below.refl w.heap.size w) (Nat.le_refl _) (.cells #[] 62)
  have H1 := Lib.hid h1
  have H2 := Lib.hid h2
  have S := Lib.hid (h1.below hb)
  have HB := Lib.hid hb
  have HZ := Lib.hid hz
  have HY := Lib.hid hy
  have HA1 := Lib.hid hA1
  clear h1 h2 hz hy hb hA1
  go_enter Try.func20, Try.ntmps20
  go_wp2_with (at_builtin; refine wpList_append_ct rfl (.tmp 11) (.tmp 12) (by rfl) w.heap.size (.slice (some ⟨w.heap.size, 0, none⟩) 0 0) 0 [] (by rfl) (World.ownsRow_lit w #[] 0 (Nat.le_refl _) (by decide) (by rfl)) A1 n c1 zs (by rfl) HA1.out HZ.out S.out (by omega) HB.out.size ?_; intro vs w2 own2 gr2)
  have hb2 := HB.out.grown gr2 HB.out.size (fun k hk => Nat.le_of_eq (Option.some.inj hk))
  rw [Nat.zero_add, List.nil_append] at own2
  have O2 := Lib.hid own2
  have B2 := Lib.hid hb2
  clear own2 gr2 hb2 S HB
  have CK := specCtOk_any n zs HZ.out A1 c1 w2 (H1.out.below B2.out) (by omega)
  cases ho : okCts zs with
  | false =>
    rw [ho] at CK
    have NO := Lib.hid (show addOk zs ys = false by unfold addOk; rw [ho]; rfl)
    have E1 := Lib.hid CK
    clear CK ho
    refine E1.out.mono ?_
    rintro e w3 ⟨rfl, b3⟩
    have B3 := Lib.hid (below_chain B2.out b3)
    have O3 := Lib.hid (own_below O2.out b3)
    clear b3
    go_wp2
    exact bodyPost_ret (v := .tuple #[vs, .bool false]) (by simp [results, Try.results20, go_sem]) rfl (AddEnd.no NO.out HZ.out O3.out B3.out)
  | true =>
    rw [ho] at CK
    have E1 := Lib.hid CK
    clear CK
    refine E1.out.mono ?_
    rintro e w3 ⟨rfl, b3⟩
    have B3 := Lib.hid (below_chain B2.out b3)
    have O3 := Lib.hid (own_below O2.out b3)
    clear b3 B2 O2 E1
    have CK := specCtOk_any m ys HY.out A2 c2 w3 (H2.out.below B3.out) (by omega)
    cases hp : okCts ys with
    | false =>
      rw [hp] at CK
      have NO := Lib.hid (show addOk zs ys = false by unfold addOk; rw [ho, hp]; rfl)
      have E1 := Lib.hid CK
      clear CK ho hp
      go_wp2_with fail
      refine E1.out.mono ?_
      rintro e w4 ⟨rfl, b4⟩
      have B4 := Lib.hid (below_chain B3.out b4)
      have O4 := Lib.hid (own_below O3.out b4)
      clear b4
      go_wp2
      exact bodyPost_ret (v := .tuple #[vs, .bool false]) (by simp [results, Try.results20, go_sem]) rfl (AddEnd.no NO.out HZ.out O4.out B4.out)
    | true =>
      rw [hp] at CK
      have E1 := Lib.hid CK
      have HO := Lib.hid ho
      have HP := Lib.hid hp
      clear CK ho hp
      go_wp2_with fail
      refine E1.out.mono ?_
      rintro e w4 ⟨rfl, b4⟩
      have B4 := Lib.hid (below_chain B3.out b4)
      have O4 := Lib.hid (own_below O3.out b4)
      clear b4 B3 O3 E1
      go_wp2
      go_loopw [7, 8] (fun o i wr => ∃ (k l : Nat) (cur : List Ct), k ≤ m ∧ l ≤ n + k ∧ cur.length = l ∧ i = .int .i64 k ∧ addL zs (ys.take k) = (cur, true) ∧ wr.ownsRow w.heap.size 62 3 o l (ctCells cur) ∧ Below w.heap.size w wr) (fun _ i _ => m - (intOf i).toNat)
      case atStart => exact ⟨0, n, zs, Nat.zero_le _, by omega, HZ.out, rfl, by simp [addL], O4.out, B4.out⟩
      case round =>
        obtain ⟨k, l, cur, hk, hlk, hcl, rfl, had, hown, hb⟩ := hrel
        obtain ⟨A3, c3, rfl, _, hcs⟩ := Cts.of_own hown
        have CL := Lib.hid hcl
        have AD := Lib.hid had
        have OW := Lib.hid hown
        have HB := Lib.hid hb
        have NL := Lib.hid (own_nil hown)
        clear hcl had hown hb
        by_cases hlt : k < m
        · have l2 : k < ys.length := by rw [HY.out]; exact hlt
          obtain ⟨b, off, p0, p1, p2, rfl, x1, e0, e1, e2⟩ := (H2.out.below HB.out).at l2
          have i0 : (0 : Int) ≤ (k : Int) := by omega
          have i1 : (k : Int) < (m : Int) := by omega
          have hstep := addL_step (a := zs) l2 (by rw [AD.out])
          rw [AD.out, x1] at hstep
          have k3 := Below.refl wr.heap.size wr
          cases hr : adjOk cur (p0, p1) p2 with
          | true =>
            have ST := Lib.hid (show addL zs (ys.take (k + 1)) = (adjL cur (p0, p1) p2, true) by rw [hstep]; simp [hr])
            have E := Lib.hid (fun W h => specAdj_is CL.out NL.out hr (by omega) W h)
            have hle := adjL_len cur (p0, p1) p2
            rw [CL.out] at hle
            clear hstep hr x1 l2
            go_wp2_with fail
            go_region_held3 (fun w' => w'.cell? ⟨b, off + k * 3, none⟩ = some (.int .i64 p0) ∧ w'.cell? ⟨b, off + k * 3 + 1, none⟩ = some (.int .i64 p1) ∧ w'.cell? ⟨b, off + k * 3 + 2, none⟩ = some (.int .i64 p2) ∧ Cts w' A3 cur ∧ Below wr.heap.size wr w')
              (((try go_split_ands); refine ⟨?_, ?_, ?_, ?_, ?_⟩ <;> (repeat (first | with_reducible assumption | with_reducible refine drew_keep ?_ | with_reducible refine below_keep hbd ?_ | with_reducible refine cts_drew ?_ | with_reducible refine Cts.below ?_ hbd | with_reducible refine Below.drew ?_ | with_reducible refine below_chain ?_ hbd))))
              (first | (go_at_call 14; (try go_split_ands); (with_reducible refine (E.out _ (by assumption)).mono ?_); rintro e w5 ⟨v5, rfl, own5, hbd⟩))
            have B5 := Lib.hid (below_chain HB.out.drew hbd)
            have O5 := Lib.hid (own_base own5 HB.out.size)
            clear own5 hbd
            go_wp2
            go_roundw
            case rel => exact ⟨k + 1, _, _, by omega, by omega, rfl, by go_num, ST.out, O5.out, B5.out⟩
            case measure => simp [intOf]; omega
          | false =>
            have NO := Lib.hid (show addOk zs ys = false by
              have : (addL zs ys).2 = false := addL_stuck ys zs (k + 1) (by rw [hstep]; simp [hr])
              unfold addOk; rw [this]; simp)
            have E := Lib.hid (fun W h => specAdj_is CL.out NL.out hr (by omega) W h)
            clear hstep hr x1 l2
            go_wp2_with fail
            go_region_held3 (fun w' => w'.cell? ⟨b, off + k * 3, none⟩ = some (.int .i64 p0) ∧ w'.cell? ⟨b, off + k * 3 + 1, none⟩ = some (.int .i64 p1) ∧ w'.cell? ⟨b, off + k * 3 + 2, none⟩ = some (.int .i64 p2) ∧ Cts w' A3 cur ∧ Below wr.heap.size wr w')
              (((try go_split_ands); refine ⟨?_, ?_, ?_, ?_, ?_⟩ <;> (repeat (first | with_reducible assumption | with_reducible refine drew_keep ?_ | with_reducible refine below_keep hbd ?_ | with_reducible refine cts_drew ?_ | with_reducible refine Cts.below ?_ hbd | with_reducible refine Below.drew ?_ | with_reducible refine below_chain ?_ hbd))))
              (first | (go_at_call 14; (try go_split_ands); (with_reducible refine (E.out _ (by assumption)).mono ?_); rintro e w5 ⟨v5, rfl, own5, hbd⟩))
            have B5 := Lib.hid (below_chain HB.out.drew hbd)
            have BA := Lib.hid (Below.alloc (Below.refl w5.heap.size w5) (Nat.le_refl _) (.cells #[] 62))
            clear own5 hbd
            go_wp2_with (at_builtin; refine wpList_append_ct rfl (.tmp 47) (.tmp 48) (by rfl) w5.heap.size (.slice (some ⟨w5.heap.size, 0, none⟩) 0 0) 0 [] (by rfl) (World.ownsRow_lit w5 #[] 0 (Nat.le_refl _) (by decide) (by rfl)) A1 n c1 zs (by rfl) HA1.out HZ.out ((H1.out.below B5.out).below BA.out) (by omega) BA.out.size ?_; intro v6 w6 own6 gr6)
            have hb6 := BA.out.grown gr6 BA.out.size (fun k hk => Nat.le_of_eq (Option.some.inj hk))
            rw [Nat.zero_add, List.nil_append] at own6
            have O6 := Lib.hid (own_base own6 B5.out.size)
            have B6 := Lib.hid (below_chain B5.out hb6)
            clear own6 gr6 hb6
            go_wp2
            exact bodyPost_ret (v := .tuple #[v6, .bool false]) (by simp [results, Try.results20, go_sem]) rfl (AddEnd.no NO.out HZ.out O6.out B6.out)
        · have hall : addL zs ys = (cur, true) := by
            have h3 := AD.out
            rw [List.take_of_length_le (by rw [HY.out]; omega)] at h3
            exact h3
          have hyes : addOk zs ys = true := by unfold addOk; rw [HO.out, HP.out, hall]; rfl
          have hsum : sumsL zs ys = cur := by unfold sumsL; rw [hyes, hall]; rfl
          have FIN := Lib.hid (show AddEnd w zs ys (.returned (.tuple #[.slice A3 l c3, .bool true])) wr from ⟨_, by rw [hyes], by rw [hsum, CL.out]; exact OW.out, HB.out⟩)
          clear hall hyes hsum hcs
          go_wp2
          exact bodyPost_ret (v := .tuple #[.slice A3 l c3, .bool true]) (by simp [results, Try.results20, go_sem]) rfl FIN.out
end Go.Proofs.Ytiehpniogehkmaa.hexes
