/-
  Chapter 5's plain functions as the reference has them: the contracts of spec.OwnerOf, spec.RecordOk, spec.OfEpoch, spec.CountsOfRecords and spec.l05Same.
-/
import Derived.Test.YthkkleicekhelaaRcKit
import Derived.OpenShut
namespace Go.Proofs.Ythkkleicekhelaa.hexes
open Go.RowKit

theorem specOkSt_is {x y : Int} {b : Bool} (h : okSt x y = b) (W : World) : Calls Try.prog 76 #[.agg #[.int .i64 x, .int .i64 y]] W fun e w' => e = .returned (.bool b) ∧ Below W.heap.size W w' := by
  subst h; exact specOk_any _ _ W

theorem own_rem (key k : Int) (hk : 0 < k) : key % k = if key.tmod k < 0 then key.tmod k + k else key.tmod k := by
  have h1 := Int.mul_tdiv_add_tmod key k
  have h2 : key.tmod k < k := Int.tmod_lt_of_pos key hk
  have h3 : -k < key.tmod k := by
    rcases Int.lt_or_le key 0 with h | h
    · have := Int.tmod_lt_of_pos (-key) hk
      rw [Int.neg_tmod] at this
      omega
    · have := Int.tmod_nonneg k h
      omega
  have h4 : key % k = key.tmod k % k := by
    conv => lhs; rw [← h1]
    rw [Int.add_comm, Int.add_mul_emod_self_left]
  rw [h4]
  split
  · rw [← Int.add_emod_right, Int.emod_eq_of_lt (by omega) (by omega)]
  · exact Int.emod_eq_of_lt (by omega) (by omega)
/-- What OwnerOf answers. -/
def ownR (key k : Int) : Int := if k < 1 then 0 else key % k
theorem tmod_bd (key k : Int) (hk : 0 < k) : -k < key.tmod k ∧ key.tmod k < k := by
  refine ⟨?_, Int.tmod_lt_of_pos key hk⟩
  rcases Int.lt_or_le key 0 with h | h
  · have := Int.tmod_lt_of_pos (-key) hk
    rw [Int.neg_tmod] at this
    omega
  · have := Int.tmod_nonneg k h
    omega

theorem specInI_is {n a b : Int} {r : Bool} (h : decide (a ≤ n ∧ n ≤ b) = r) (W : World) : Calls Try.prog 55 #[.int .i64 n, .int .i64 a, .int .i64 b] W fun e w' => e = .returned (.bool r) ∧ W = w' := by
  subst h
  refine (specIn_any n a b W).mono ?_
  rintro e w' ⟨rfl, rfl⟩
  exact ⟨rfl, rfl⟩

set_option maxRecDepth 100000 in
theorem specRcOk_any (p0 p1 p2 p3 p4 : Int) (w : World) :
    Calls Try.prog 49 #[.agg #[.int .i64 p0, .int .i64 p1, .int .i64 p2, .int .i64 p3, .int .i64 p4]] w fun e w' => e = .returned (.bool (okRc (p0, (p1, p2), p3, p4))) ∧ Below w.heap.size w w' := by
  have hb := (Below.refl w.heap.size w).alloc (Nat.le_refl _) (.cells #[.int .i64 p0, .int .i64 p1, .int .i64 p2, .int .i64 p3, .int .i64 p4] 30)
  have HB := Lib.hid hb
  clear hb
  cases h0 : decide (0 ≤ p0 ∧ p0 ≤ 7) with
  | false =>
    have HF := Lib.hid (show okRc (p0, (p1, p2), p3, p4) = false by unfold okRc; rw [h0]; rfl)
    have E0 := Lib.hid (fun W => specInI_is h0 W)
    clear h0
    go_enter Try.func49, Try.ntmps49
    go_wp2_with fail
    refine (E0.out _).mono ?_
    rintro e w1 ⟨rfl, rfl⟩
    go_wp2
    go_ret
    exact ⟨congrArg (fun b => Ending.returned (Value.bool b)) HF.out.symm, HB.out⟩
  | true =>
    have E0 := Lib.hid (fun W => specInI_is h0 W)
    have H0 := Lib.hid h0
    clear h0
    go_enter Try.func49, Try.ntmps49
    go_wp2_with fail
    refine (E0.out _).mono ?_
    rintro e w1 ⟨rfl, rfl⟩
    obtain ⟨W, hW⟩ : ∃ W, w.alloc (.cells #[.int .i64 p0, .int .i64 p1, .int .i64 p2, .int .i64 p3, .int .i64 p4] 30) = W := ⟨_, rfl⟩
    have b1 : W.cell? ⟨w.heap.size, 1, none⟩ = some (.int .i64 p1) := by rw [← hW]; simp
    have b2 : W.cell? ⟨w.heap.size, 2, none⟩ = some (.int .i64 p2) := by rw [← hW]; simp
    have b3 : W.cell? ⟨w.heap.size, 3, none⟩ = some (.int .i64 p3) := by rw [← hW]; simp
    have b4 : W.cell? ⟨w.heap.size, 4, none⟩ = some (.int .i64 p4) := by rw [← hW]; simp
    rw [hW] at HB ⊢
    clear hW E0
    cases h1 : okSt p1 p2 with
    | false =>
      have HF := Lib.hid (show okRc (p0, (p1, p2), p3, p4) = false by unfold okRc; rw [H0.out, h1]; rfl)
      have E1 := Lib.hid (fun W => specOkSt_is h1 W)
      clear h1
      go_wp2_with fail
      refine (E1.out _).mono ?_
      rintro e w2 ⟨rfl, hbd⟩
      have B2 := Lib.hid (below_chain HB.out hbd)
      clear hbd
      go_wp2
      go_ret
      exact ⟨congrArg (fun b => Ending.returned (Value.bool b)) HF.out.symm, B2.out⟩
    | true =>
      have E1 := Lib.hid (fun W => specOkSt_is h1 W)
      have H1 := Lib.hid h1
      clear h1
      go_wp2_with fail
      refine (E1.out _).mono ?_
      rintro e w2 ⟨rfl, hbd⟩
      have B2 := Lib.hid (below_chain HB.out hbd)
      have d3 := below_keep hbd b3
      have d4 := below_keep hbd b4
      clear hbd b1 b2 b3 b4 E1
      cases h2 : decide (0 ≤ p3 ∧ p3 ≤ 99) with
      | false =>
        have HF := Lib.hid (show okRc (p0, (p1, p2), p3, p4) = false by unfold okRc; rw [H0.out, H1.out, h2]; rfl)
        have E2 := Lib.hid (fun W => specInI_is h2 W)
        clear h2
        go_wp2_with fail
        refine (E2.out _).mono ?_
        rintro e w3 ⟨rfl, rfl⟩
        go_wp2
        go_ret
        exact ⟨congrArg (fun b => Ending.returned (Value.bool b)) HF.out.symm, B2.out⟩
      | true =>
        have E2 := Lib.hid (fun W => specInI_is h2 W)
        obtain ⟨r, hr⟩ : ∃ r, decide (0 ≤ p4 ∧ p4 ≤ 999) = r := ⟨_, rfl⟩
        have HF := Lib.hid (show okRc (p0, (p1, p2), p3, p4) = r by unfold okRc; rw [H0.out, H1.out, h2, hr]; simp)
        have E3 := Lib.hid (fun W => specInI_is hr W)
        clear hr
        clear h2
        go_wp2_with fail
        refine (E2.out _).mono ?_
        rintro e w3 ⟨rfl, rfl⟩
        go_wp2_with fail
        refine (E3.out _).mono ?_
        rintro e w4 ⟨rfl, rfl⟩
        go_wp2
        go_ret
        exact ⟨congrArg (fun b => Ending.returned (Value.bool b)) HF.out.symm, B2.out⟩

set_option maxRecDepth 100000 in
theorem specOfEp_any (n : Nat) (zs : List Rc) (hz : zs.length = n) (A : Option Addr) (c : Nat) (x : Int) (w : World) (h1 : Rcs w A zs) (hn : n ≤ 1048576) :
    Calls Try.prog 60 #[.slice A n c, .int .i64 x] w fun e w' => ∃ v, e = .returned v ∧ w'.ownsRow w.heap.size 30 5 v (ofEpR zs x).length (rcCells (ofEpR zs x)) ∧ Below w.heap.size w w' := by
  have H1 := Lib.hid h1
  have HZ := Lib.hid hz
  clear h1 hz
  go_enter Try.func60, Try.ntmps60
  go_wp2
  go_loopw [5, 6] (fun v i wr => ∃ (k m : Nat) (out : List Rc), k ≤ n ∧ out.length = m ∧ out = ofEpR (zs.take k) x ∧ i = .int .i64 k ∧ wr.ownsRow w.heap.size 30 5 v m (rcCells out) ∧ Below w.heap.size w wr) (fun _ i _ => n - (intOf i).toNat)
  case atStart => exact ⟨0, 0, [], Nat.zero_le _, rfl, rfl, rfl, World.ownsRow_lit w #[] 0 (Nat.le_refl _) (by decide) rfl, (Below.refl _ _).alloc (Nat.le_refl _) _⟩
  case round =>
    obtain ⟨k, m, out, hk, hml, hout, rfl, hown, hb⟩ := hrel
    have ML := Lib.hid hml
    have HU := Lib.hid hout
    have HO := Lib.hid hown
    have HB := Lib.hid hb
    have hmn : m ≤ n := by
      have := ofEpR_length (zs.take k) x
      rw [← HU.out, ML.out, List.length_take] at this
      omega
    clear hml hout hown hb
    by_cases hlt : k < n
    · have l1 : k < zs.length := by rw [HZ.out]; exact hlt
      obtain ⟨b1, o1, p0, p1, p2, p3, p4, rfl, x1, e0, e1, e2, e3, e4⟩ := (H1.out.below HB.out).at l1
      have i0 : (0 : Int) ≤ (k : Int) := by omega
      have i1 : (k : Int) < (n : Int) := by omega
      by_cases he : p1 = x
      · have HS := Lib.hid (show out ++ [(p0, (p1, p2), p3, p4)] = ofEpR (zs.take (k + 1)) x by rw [ofEpR_step l1, ← HU.out, x1]; simp [he])
        have hd : (p1 == x) = true := by simpa using he
        clear x1 l1 HU he
        go_wp2_with (at_builtin; refine wpList_append_rc rfl (.tmp 22) (.tmp 27) (by rfl) w.heap.size _ m out (by rfl) (HO.out.alloc _) (some ⟨wr.heap.size, 0, none⟩) 1 1 [(p0, (p1, p2), p3, p4)] (by rfl) (fun h => by cases h) rfl (rc_new wr p0 p1 p2 p3 p4) (by omega) (Nat.le_trans HB.out.size (by simp)) ?_; intro v8 w8 own8 gr8)
        have hb8 := (HB.out.alloc HB.out.size _).grown gr8 (Nat.le_trans HB.out.size (by simp)) (own_ge HO.out)
        have O8 := Lib.hid own8
        have B8 := Lib.hid hb8
        clear own8 gr8 hb8
        go_wp2
        go_roundw
        case rel => exact ⟨k + 1, m + 1, out ++ [(p0, (p1, p2), p3, p4)], by omega, by simp [ML.out], HS.out, by go_num, O8.out, B8.out⟩
        case measure => simp [intOf]; omega
      · have HS := Lib.hid (show out = ofEpR (zs.take (k + 1)) x by rw [ofEpR_step l1, ← HU.out, x1]; simp [he])
        have hd : (p1 == x) = false := by simpa using he
        clear x1 l1 HU he
        go_wp2
        go_roundw
        case rel => exact ⟨k + 1, m, out, by omega, ML.out, HS.out, by go_num, HO.out, HB.out⟩
        case measure => simp [intOf]; omega
    · have hfin : out = ofEpR zs x := by
        have h3 := HU.out
        rw [List.take_of_length_le (by rw [HZ.out]; omega)] at h3
        exact h3
      subst hfin
      have ML2 := ML.out
      subst ML2
      go_wp2
      go_ret
      exact ⟨_, rfl, HO.out, HB.out⟩

end Go.Proofs.Ythkkleicekhelaa.hexes
