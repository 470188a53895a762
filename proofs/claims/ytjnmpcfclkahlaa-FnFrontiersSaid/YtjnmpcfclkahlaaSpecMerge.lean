/-
  The reference's MergeFronts and FrontierOk: the contracts of spec.MergeFronts and spec.FrontierOk.
-/
import Derived.Test.YtjnmpcfclkahlaaAppendSt
namespace Go.Proofs.Ytjnmpcfclkahlaa.hexes
open Go.RowKit

set_option maxRecDepth 100000 in
theorem specMerge_any (n m : Nat) (zs ys : List (Int × Int)) (hz : zs.length = n) (hy : ys.length = m) (A1 A2 : Option Addr) (c1 c2 : Nat) (hA1 : A1 = none → c1 = 0) (hA2 : A2 = none → c2 = 0) (w : World) (h1 : Sts w A1 zs) (h2 : Sts w A2 ys) (hn : n + m ≤ 4194304) :
    Calls Try.prog 17 #[.slice A1 n c1, .slice A2 m c2] w fun e w' => ∃ v, e = .returned v ∧ w'.ownsRow w.heap.size 32 2 v (minL (zs ++ ys)).length (stCells (minL (zs ++ ys))) ∧ Below w.heap.size w w' := by
  have hb := Below.alloc (Below.refl w.heap.size w) (Nat.le_refl _) (.cells #[] 32)
  have S := Lib.hid (h1.below hb)
  have T := Lib.hid (h2.below hb)
  have T0 := Lib.hid h2
  have HB := Lib.hid hb
  have HZ := Lib.hid hz
  have HY := Lib.hid hy
  have HA1 := Lib.hid hA1
  have HA2 := Lib.hid hA2
  clear h1 h2 hz hy hb hA1 hA2
  go_enter Try.func17, Try.ntmps17
  go_wp2_with (first | (at_builtin; refine wpList_append_sts rfl (.tmp 5) (.tmp 6) (by rfl) w.heap.size (.slice (some ⟨w.heap.size, 0, none⟩) 0 0) 0 [] (by rfl) (World.ownsRow_lit w #[] 0 (Nat.le_refl _) (by decide) (by rfl)) A1 n c1 zs (by rfl) HA1.out HZ.out S.out (by omega) HB.out.size ?_; intro v1 w1 own1 gr1; have hb1 := HB.out.grown gr1 HB.out.size (fun k hk => Nat.le_of_eq (Option.some.inj hk)); rw [Nat.zero_add, List.nil_append] at own1; have O1 := Lib.hid own1; have B1 := Lib.hid hb1; clear own1 gr1 hb1) | (at_builtin; refine wpList_append_sts rfl (.tmp 7) (.tmp 8) (by rfl) w.heap.size v1 n zs (by rfl) O1.out A2 m c2 ys (by rfl) HA2.out HY.out (T0.out.below B1.out) hn B1.out.size ?_; intro v2 w2 own2 gr2; have hb2 := B1.out.grown gr2 B1.out.size (own_ge O1.out); obtain ⟨A3, c3, rfl, hl3, s3⟩ := Sts.of_own own2; have B2 := Lib.hid hb2; have S3 := Lib.hid s3; have L3 := Lib.hid hl3; clear own2 gr2 hb2 hl3 s3))
  refine (specMin_any (n + m) (zs ++ ys) L3.out A3 c3 w2 S3.out (by omega)).mono ?_
  rintro e w3 ⟨v3, rfl, own3, b3⟩
  have O3 := Lib.hid (own_base own3 B2.out.size)
  have B3 := Lib.hid (below_chain B2.out b3)
  clear own3 b3
  go_wp2
  go_ret
  exact ⟨_, rfl, O3.out, B3.out⟩

/-- What FrontierOk answers. -/
def okFrontL (zs : List (Int × Int)) : Bool := (zs.all fun z => okSt z.1 z.2) && decide (zs = minL zs)

theorem okFront_no {zs : List (Int × Int)} (h : (zs.all fun z => okSt z.1 z.2) = false) : okFrontL zs = false := by unfold okFrontL; rw [h]; rfl
theorem okFront_yes {zs : List (Int × Int)} (h : (zs.all fun z => okSt z.1 z.2) = true) : okFrontL zs = decide (zs = minL zs) := by unfold okFrontL; rw [h]; rfl

theorem minL_length (zs : List (Int × Int)) : (minL zs).length ≤ zs.length := by
  have := fold_length zs zs []
  simpa [minL] using this

theorem specOk_is {x y : Int} {b : Bool} (h : okSt x y = b) (W : World) : Calls Try.prog 44 #[.agg #[.int .i64 x, .int .i64 y]] W fun e w' => e = .returned (.bool b) ∧ Below W.heap.size W w' := by
  subst h; exact specOk_any _ _ W

theorem implOk_is {x y : Int} {b : Bool} (h : okSt x y = b) (W : World) : Calls Try.prog 43 #[.agg #[.int .i64 x, .int .i64 y]] W fun e w' => e = .returned (.bool b) ∧ Below W.heap.size W w' := by
  subst h; exact implOk_any _ _ W

set_option maxRecDepth 100000 in
theorem specFOk_any (n : Nat) (zs : List (Int × Int)) (hz : zs.length = n) (A : Option Addr) (c : Nat) (w : World) (h1 : Sts w A zs) (hn : n ≤ 4194304) :
    Calls Try.prog 20 #[.slice A n c] w fun e w' => e = .returned (.bool (okFrontL zs)) ∧ Below w.heap.size w w' := by
  have H1 := Lib.hid h1
  have HZ := Lib.hid hz
  clear h1 hz
  go_enter Try.func20, Try.ntmps20
  go_wp2
  go_loopw [3] (fun i wr => ∃ k : Nat, k ≤ n ∧ i = .int .i64 k ∧ (zs.take k).all (fun z => okSt z.1 z.2) = true ∧ Below w.heap.size w wr) (fun i _ => n - (intOf i).toNat)
  case atStart => exact ⟨0, Nat.zero_le _, rfl, rfl, Below.refl _ _⟩
  case round =>
    obtain ⟨k, hk, rfl, ht, hb⟩ := hrel
    have HT := Lib.hid ht
    have HB := Lib.hid hb
    clear ht
    by_cases hlt : k < n
    · have l1 : k < zs.length := by rw [HZ.out]; exact hlt
      obtain ⟨b1, o1, p, q, rfl, x1, e1, e2⟩ := (H1.out.below hb).at l1
      have i0 : (0 : Int) ≤ (k : Int) := by omega
      have i1 : (k : Int) < (n : Int) := by omega
      clear hb
      by_cases he : okSt p q = true
      · have HT2 := Lib.hid (all_step l1 HT.out (by rw [x1]; exact he))
        have E := Lib.hid (fun W => specOk_is he W)
        clear x1 he HT l1
        go_wp2_with (go_at_call 44; with_reducible refine (E.out _).mono ?_; rintro e w5 ⟨rfl, hbd⟩)
        have B5 := below_chain HB.out hbd
        clear hbd
        go_roundw
        case rel => exact ⟨k + 1, by omega, by go_num, HT2.out, B5⟩
        case measure => simp [intOf]; omega
      · have he' : okSt p q = false := by simpa using he
        have HF := Lib.hid (okFront_no (all_not (f := fun z : Int × Int => okSt z.1 z.2) l1 (by rw [x1]; exact he')))
        have E := Lib.hid (fun W => specOk_is he' W)
        clear x1 he he' HT l1
        go_wp2_with (go_at_call 44; with_reducible refine (E.out _).mono ?_; rintro e w5 ⟨rfl, hbd⟩)
        go_ret
        exact ⟨congrArg (fun b => Ending.returned (Value.bool b)) HF.out.symm, below_chain HB.out hbd⟩
    · have HF := Lib.hid (okFront_yes (all_end (k := k) (by rw [HZ.out]; omega) HT.out))
      clear hb
      go_wp2_with fail
      refine (specMin_any n zs HZ.out A c _ (H1.out.below HB.out) hn).mono ?_
      rintro e w3 ⟨v3, rfl, own3, b3⟩
      obtain ⟨A3, c3, rfl, hl3, s3⟩ := Sts.of_own own3
      have S3 := Lib.hid s3
      have B3 := Lib.hid (below_chain HB.out b3)
      have hlen := minL_length zs
      have HL := Lib.hid hlen
      clear own3 hl3 s3 b3 hlen
      go_wp2_with fail
      refine (specSame_any (minL zs).length n (minL zs) zs rfl HZ.out A3 A c3 c _ S3.out (H1.out.below B3.out) (by have := HL.out; have := HZ.out; omega)).mono ?_
      rintro e w4 ⟨rfl, b4⟩
      have B4 := Lib.hid (below_chain B3.out b4)
      clear b4
      rw [show decide (minL zs = zs) = okFrontL zs from HF.out ▸ by simp [eq_comm]]
      go_wp2
      go_ret
      exact ⟨rfl, B4.out⟩

end Go.Proofs.Ytjnmpcfclkahlaa.hexes
