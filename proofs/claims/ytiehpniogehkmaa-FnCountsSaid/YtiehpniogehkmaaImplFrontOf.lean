/-
  The program's FrontOf: the contract of impl.FrontOf.
-/
import Derived.Test.YtiehpniogehkmaaImplMinimal
import Derived.Test.YtiehpniogehkmaaSpecCt2
namespace Go.Proofs.Ytiehpniogehkmaa.hexes
open Go.RowKit

set_option maxRecDepth 100000 in
theorem implFrontOf_any (n : Nat) (zs : List Ct) (hz : zs.length = n) (A : Option Addr) (c : Nat) (w : World) (h1 : Cts w A zs) (hn : n ≤ 1048576) :
    Calls Try.prog 22 #[.slice A n c] w fun e w' => ∃ v, e = .returned v ∧ w'.ownsRow w.heap.size 26 2 v (minL (posL zs)).length (stCells (minL (posL zs))) ∧ Below w.heap.size w w' := by
  have H1 := Lib.hid h1
  have HZ := Lib.hid hz
  clear h1 hz
  go_enter Try.func22, Try.ntmps22
  go_wp2
  go_loopw [3, 9] (fun v i wr => ∃ (k m : Nat) (out : List (Int × Int)), k ≤ n ∧ out.length = m ∧ out = posL (zs.take k) ∧ i = .int .i64 k ∧ wr.ownsRow w.heap.size 26 2 v m (stCells out) ∧ Below w.heap.size w wr) (fun _ i _ => n - (intOf i).toNat)
  case atStart => exact ⟨0, 0, [], Nat.zero_le _, rfl, rfl, rfl, World.ownsRow_lit w #[] 0 (Nat.le_refl _) (by decide) rfl, (Below.refl _ _).alloc (Nat.le_refl _) _⟩
  case round =>
    obtain ⟨k, m, out, hk, hml, hout, rfl, hown, hb⟩ := hrel
    have ML := Lib.hid hml
    have HU := Lib.hid hout
    have HO := Lib.hid hown
    have HB := Lib.hid hb
    have hmn : m ≤ n := by
      have := posL_length (zs.take k)
      rw [← HU.out, ML.out, List.length_take] at this
      omega
    clear hml hout hown hb
    by_cases hlt : k < n
    · have l1 : k < zs.length := by rw [HZ.out]; exact hlt
      obtain ⟨b1, o1, p0, p1, p2, rfl, x1, e0, e1, e2⟩ := (H1.out.below HB.out).at l1
      have i0 : (0 : Int) ≤ (k : Int) := by omega
      have i1 : (k : Int) < (n : Int) := by omega
      have BA := Lib.hid (HB.out.alloc HB.out.size (.cells #[.int .i64 p0, .int .i64 p1, .int .i64 p2] 62))
      have OA := Lib.hid (HO.out.alloc (.cells #[.int .i64 p0, .int .i64 p1, .int .i64 p2] 62))
      by_cases he : 0 < p2
      · have HS := Lib.hid (show out ++ [(p0, p1)] = posL (zs.take (k + 1)) by rw [posL_step l1, ← HU.out, x1]; simp [he])
        have hd : decide (p2 > 0) = true := decide_eq_true he
        clear x1 l1 HU he
        have hb2 : Below w.heap.size w ((wr.alloc (.cells #[.int .i64 p0, .int .i64 p1, .int .i64 p2] 62)).alloc (.cells #[.int .i64 p0, .int .i64 p1] 26)) := BA.out.alloc BA.out.size _
        have BB := Lib.hid hb2
        have NW := Lib.hid (show Sts ((wr.alloc (.cells #[.int .i64 p0, .int .i64 p1, .int .i64 p2] 62)).alloc (.cells #[.int .i64 p0, .int .i64 p1] 26)) (some ⟨wr.heap.size + 1, 0, none⟩) [(p0, p1)] by have := sts_new (wr.alloc (.cells #[.int .i64 p0, .int .i64 p1, .int .i64 p2] 62)) p0 p1; rwa [World.size_alloc] at this)
        clear hb2
        go_wp2_with (at_builtin; refine wpList_append_sts rfl (.tmp 16) (.tmp 19) (by rfl) w.heap.size _ m out (by rfl) (OA.out.alloc _) (some ⟨wr.heap.size + 1, 0, none⟩) 1 1 [(p0, p1)] (by rfl) (fun h => by cases h) rfl NW.out (by omega) BB.out.size ?_; intro v8 w8 own8 gr8)
        have hb8 := BB.out.grown gr8 BB.out.size (own_ge OA.out)
        have O8 := Lib.hid own8
        have B8 := Lib.hid hb8
        clear own8 gr8 hb8
        go_wp2
        go_roundw
        case rel => exact ⟨k + 1, m + 1, out ++ [(p0, p1)], by omega, by simp [ML.out], HS.out, by go_num, O8.out, B8.out⟩
        case measure => simp [intOf]; omega
      · have HS := Lib.hid (show out = posL (zs.take (k + 1)) by rw [posL_step l1, ← HU.out, x1]; simp [he])
        have hd : decide (p2 > 0) = false := decide_eq_false he
        clear x1 l1 HU he
        go_wp2
        go_roundw
        case rel => exact ⟨k + 1, m, out, by omega, ML.out, HS.out, by go_num, OA.out, BA.out⟩
        case measure => simp [intOf]; omega
    · have hfin : out = posL zs := by
        have h3 := HU.out
        rw [List.take_of_length_le (by rw [HZ.out]; omega)] at h3
        exact h3
      subst hfin
      obtain ⟨A3, c3, rfl, _, s3⟩ := Sts.of_own HO.out
      have N3 := Lib.hid (own_nil HO.out)
      have S3 := Lib.hid s3
      clear s3
      go_wp2_with fail
      refine (implMin_any m (posL zs) ML.out A3 c3 N3.out _ S3.out (by omega)).mono ?_
      rintro e w3 ⟨v3, rfl, own3, b3⟩
      have O3 := Lib.hid (own_base own3 HB.out.size)
      have B3 := Lib.hid (below_chain HB.out b3)
      clear own3 b3
      go_wp2
      go_ret
      exact ⟨_, rfl, O3.out, B3.out⟩
end Go.Proofs.Ytiehpniogehkmaa.hexes
