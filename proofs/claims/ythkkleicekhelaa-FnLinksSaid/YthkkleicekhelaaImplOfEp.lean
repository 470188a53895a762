/-
  The program's OfEpoch.
-/
import Derived.Test.YthkkleicekhelaaSpecRc1
namespace Go.Proofs.Ythkkleicekhelaa.hexes
open Go.RowKit

theorem implOfEp_any (n : Nat) (zs : List Rc) (hz : zs.length = n) (A : Option Addr) (c : Nat) (x : Int) (w : World) (h1 : Rcs w A zs) (hn : n ≤ 1048576) :
    Calls Try.prog 59 #[.slice A n c, .int .i64 x] w fun e w' => ∃ v, e = .returned v ∧ w'.ownsRow w.heap.size 30 5 v (ofEpR zs x).length (rcCells (ofEpR zs x)) ∧ Below w.heap.size w w' := by
  have H1 := Lib.hid h1
  have HZ := Lib.hid hz
  clear h1 hz
  go_enter Try.func59, Try.ntmps59
  go_wp2
  go_loopw [5, 11] (fun v i wr => ∃ (k m : Nat) (out : List Rc), k ≤ n ∧ out.length = m ∧ out = ofEpR (zs.take k) x ∧ i = .int .i64 k ∧ wr.ownsRow w.heap.size 30 5 v m (rcCells out) ∧ Below w.heap.size w wr) (fun _ i _ => n - (intOf i).toNat)
  case atStart => exact ⟨0, 0, [], Nat.zero_le _, rfl, rfl, rfl, World.ownsRow_lit w #[] 0 (Nat.le_refl _) (by decide) rfl, (Below.refl _ _).alloc (Nat.le_refl _) _⟩
  case round =>
    obtain ⟨k, m, out, hk, hml, hout, rfl, hown, hb⟩ := hrel
    have ML := Lib.hid hml
    have HU := Lib.hid hout
    have HO := Lib.hid hown
    have HB := Lib.hid hb
    have hmn : m ≤ n := by
      have := ofEpR_length (zs.take k) x
      rw [← HU.out, ML.out, List.length_take] at this
      omega
    clear hml hout hown hb
    by_cases hlt : k < n
    · have l1 : k < zs.length := by rw [HZ.out]; exact hlt
      obtain ⟨b1, o1, p0, p1, p2, p3, p4, rfl, x1, e0, e1, e2, e3, e4⟩ := (H1.out.below HB.out).at l1
      have i0 : (0 : Int) ≤ (k : Int) := by omega
      have i1 : (k : Int) < (n : Int) := by omega
      have BA := Lib.hid (HB.out.alloc HB.out.size (.cells #[.int .i64 p0, .int .i64 p1, .int .i64 p2, .int .i64 p3, .int .i64 p4] 30))
      have OA := Lib.hid (HO.out.alloc (.cells #[.int .i64 p0, .int .i64 p1, .int .i64 p2, .int .i64 p3, .int .i64 p4] 30))
      have RN := Lib.hid (show Rcs ((wr.alloc (.cells #[.int .i64 p0, .int .i64 p1, .int .i64 p2, .int .i64 p3, .int .i64 p4] 30)).alloc (.cells #[.int .i64 p0, .int .i64 p1, .int .i64 p2, .int .i64 p3, .int .i64 p4] 30)) (some ⟨wr.heap.size + 1, 0, none⟩) [(p0, (p1, p2), p3, p4)] from (show wr.heap.size + 1 = (wr.alloc (.cells #[.int .i64 p0, .int .i64 p1, .int .i64 p2, .int .i64 p3, .int .i64 p4] 30)).heap.size by simp) ▸ rc_new (wr.alloc (.cells #[.int .i64 p0, .int .i64 p1, .int .i64 p2, .int .i64 p3, .int .i64 p4] 30)) p0 p1 p2 p3 p4)
      by_cases he : p1 = x
      · have HS := Lib.hid (show out ++ [(p0, (p1, p2), p3, p4)] = ofEpR (zs.take (k + 1)) x by rw [ofEpR_step l1, ← HU.out, x1]; simp [he])
        have hd : (p1 == x) = true := by simpa using he
        clear x1 l1 HU he
        go_wp2_with (at_builtin; refine wpList_append_rc rfl (.tmp 20) (.tmp 22) (by rfl) w.heap.size _ m out (by rfl) (OA.out.alloc _) (some ⟨wr.heap.size + 1, 0, none⟩) 1 1 [(p0, (p1, p2), p3, p4)] (by rfl) (fun h => by cases h) rfl RN.out (by omega) (Nat.le_trans BA.out.size (by simp)) ?_; intro v8 w8 own8 gr8)
        have hb8 := (BA.out.alloc BA.out.size _).grown gr8 (Nat.le_trans BA.out.size (by simp)) (own_ge HO.out)
        have O8 := Lib.hid own8
        have B8 := Lib.hid hb8
        clear own8 gr8 hb8
        go_wp2
        go_roundw
        case rel => exact ⟨k + 1, m + 1, out ++ [(p0, (p1, p2), p3, p4)], by omega, by simp [ML.out], HS.out, by go_num, O8.out, B8.out⟩
        case measure => simp [intOf]; omega
      · have HS := Lib.hid (show out = ofEpR (zs.take (k + 1)) x by rw [ofEpR_step l1, ← HU.out, x1]; simp [he])
        have hd : (p1 == x) = false := by simpa using he
        clear x1 l1 HU he
        go_wp2
        go_roundw
        case rel => exact ⟨k + 1, m, out, by omega, ML.out, HS.out, by go_num, OA.out, BA.out⟩
        case measure => simp [intOf]; omega
    · have hfin : out = ofEpR zs x := by
        have h3 := HU.out
        rw [List.take_of_length_le (by rw [HZ.out]; omega)] at h3
        exact h3
      subst hfin
      have ML2 := ML.out
      subst ML2
      go_wp2
      go_ret
      exact ⟨_, rfl, HO.out, HB.out⟩

end Go.Proofs.Ythkkleicekhelaa.hexes
