/-
  slices.IndexFunc and slices.ContainsFunc at cells, for whatever predicate.
-/
import Derived.Test.YtlmjmhdmhpkkkaaCeKit
namespace Go.Proofs.Ytlmjmhdmhpkkkaa.hexes
open Go.RowKit

/-- The place of the first at which p holds, or -1. -/
structure IdxIs (p : Ce → Bool) (zs : List Ce) (r : Int) : Prop where
  hit : (∃ k, ∃ h : k < zs.length, r = (k : Int) ∧ p zs[k] = true ∧ ∀ z ∈ zs.take k, p z = false) ∨ (r = -1 ∧ ∀ z ∈ zs, p z = false)

/-- What is asked of a predicate: its answer, whatever has been laid since. -/
def PredCe (g : Nat) (bs lb : Array Value) (p : Ce → Bool) (w : World) : Prop :=
  ∀ (W : World) (z0 z1 z2 z3 : Int), Below w.heap.size w W → Calls Try.prog g (bs.push (.agg #[.int .i64 z0, .int .i64 z1, .int .i64 z2, .int .i64 z3]) ++ lb) W fun e w' => e = .returned (.bool (p (z0, z1, z2, z3))) ∧ Below w.heap.size w w'

set_option maxRecDepth 100000 in
set_option maxHeartbeats 4000000 in
theorem idxFn_any (g : Nat) (bs lb : Array Value) (eg : ∀ args w, (callFunc g args).run Try.prog w = .ok (.enter g args) w) (p : Ce → Bool) (n : Nat) (zs : List Ce) (hz : zs.length = n) (A : Option Addr) (c : Nat) (w : World) (h1 : Ces w A zs) (hp : PredCe g bs lb p w) (hn : n ≤ 4194304) :
    Calls Try.prog 63 #[.slice A n c, .func (.func g) bs lb] w fun e w' => ∃ r, e = .returned (.int .i64 r) ∧ IdxIs p zs r ∧ Below w.heap.size w w' := by
  have H1 := Lib.hid h1
  have HZ := Lib.hid hz
  have HP := Lib.hid hp
  clear h1 hz hp
  go_enter Try.func63, Try.ntmps63
  go_wp2
  go_loopw [5, 8] (fun _ i wr => ∃ k : Nat, k ≤ n ∧ i = .int .i64 k ∧ (∀ z ∈ zs.take k, p z = false) ∧ Below w.heap.size w wr) (fun _ i _ => n - (intOf i).toNat)
  case atStart => exact ⟨0, Nat.zero_le _, rfl, (fun z hz => by simp at hz), Below.refl _ _⟩
  case round =>
    obtain ⟨k, hk, rfl, hf, hb⟩ := hrel
    have HF := Lib.hid hf
    have HB := Lib.hid hb
    clear hf hb
    by_cases hlt : k < n
    · have l1 : k < zs.length := by rw [HZ.out]; exact hlt
      obtain ⟨b1, o1, p0, p1, p2, p3, rfl, xz, e0, e1, e2, e3⟩ := (H1.out.below HB.out).at l1
      have i0 : (0 : Int) ≤ (k : Int) := by omega
      have i1 : (k : Int) < (n : Int) := by omega
      have hcall := HP.out wr p0 p1 p2 p3 HB.out
      cases hq : p (p0, p1, p2, p3) with
      | true =>
        rw [hq] at hcall
        have HR := Lib.hid (show IdxIs p zs (k : Int) from ⟨.inl ⟨k, l1, rfl, by rw [xz]; exact hq, HF.out⟩⟩)
        clear xz l1 HF hq
        go_wp2_with fail
        refine hcall.mono ?_
        rintro e w' ⟨rfl, hb'⟩
        have HB' := Lib.hid hb'
        clear hb' hcall
        go_wp2
        go_ret
        exact ⟨_, rfl, HR.out, HB'.out⟩
      | false =>
        rw [hq] at hcall
        have HS := Lib.hid (show ∀ z ∈ zs.take (k + 1), p z = false from fun z hz => by
          rw [List.take_succ_eq_append_getElem l1] at hz
          rcases List.mem_append.1 hz with h | h
          · exact HF.out z h
          · obtain rfl : z = zs[k] := by simpa using h
            rw [xz]
            exact hq)
        clear xz l1 HF hq
        go_wp2_with fail
        refine hcall.mono ?_
        rintro e w' ⟨rfl, hb'⟩
        have HB' := Lib.hid hb'
        clear hb' hcall
        go_wp2
        go_roundw
        case rel => exact ⟨k + 1, by omega, by go_num, HS.out, HB'.out⟩
        case measure => simp [intOf]; omega
    · have HR := Lib.hid (show IdxIs p zs (-1) from ⟨.inr ⟨rfl, by
        have h := HF.out
        rwa [List.take_of_length_le (by rw [HZ.out]; omega)] at h⟩⟩)
      go_wp2
      go_ret
      exact ⟨_, rfl, HR.out, HB.out⟩

set_option maxRecDepth 100000 in
theorem conFn_any (g : Nat) (bs lb : Array Value) (eg : ∀ args w, (callFunc g args).run Try.prog w = .ok (.enter g args) w) (p : Ce → Bool) (n : Nat) (zs : List Ce) (hz : zs.length = n) (A : Option Addr) (c : Nat) (w : World) (h1 : Ces w A zs) (hp : PredCe g bs lb p w) (hn : n ≤ 4194304) :
    Calls Try.prog 60 #[.slice A n c, .func (.func g) bs lb] w fun e w' => e = .returned (.bool (zs.any p)) ∧ Below w.heap.size w w' := by
  have C := Lib.hid (idxFn_any g bs lb eg p n zs hz A c w h1 hp hn)
  clear h1 hz hp
  go_enter Try.func60, Try.ntmps60
  go_wp2_with fail
  refine C.out.mono ?_
  rintro e w1 ⟨r, rfl, hr, b1⟩
  have B1 := Lib.hid b1
  have HA := Lib.hid (show zs.any p = decide (0 ≤ r) by
    rcases hr.hit with ⟨k, hk, rfl, ht, _⟩ | ⟨rfl, hf⟩
    · rw [List.any_eq_true.2 ⟨zs[k], List.getElem_mem hk, ht⟩]; simp
    · rw [List.any_eq_false.2 (fun z hz => by rw [hf z hz]; decide)]; rfl)
  clear hr b1 C
  go_wp2
  go_ret
  exact ⟨congrArg (fun b => Ending.returned (Value.bool b)) HA.out.symm, B1.out⟩
end Go.Proofs.Ytlmjmhdmhpkkkaa.hexes
