/-
  The walk of FnExactOwnerOf, given the contract of impl.OwnerOf.
-/
import Derived.Test.YtdmbkjebagnloaaSpecRc1
namespace Go.Proofs.Ytdmbkjebagnloaa.fnExactOwnerOf
open Go.RowKit Go.Proofs.Ytdmbkjebagnloaa.hexes

theorem walk_of (a : Int) (_wa : (Lit.int .i64 a).wf = true) (b : Int) (wb : (Lit.int .i64 b).wf = true) (w : World)
    (I0 : ∀ W : World, Calls Try.prog 13 #[.int .i64 a, .int .i64 b] W fun e w' => e = .returned (.int .i64 (ownR a b)) ∧ Below W.heap.size W w') :
    Calls Try.prog 10 #[.int .i64 a, .int .i64 b] w fun e w' => e = .returned (.bool true) ∧ Below w.heap.size w w' := by
  have I := Lib.hid I0
  have SP := Lib.hid (fun W => specOwner_any a b wb W)
  obtain ⟨r, hr⟩ : ∃ r, r = ownR a b := ⟨_, rfl⟩
  have HR := Lib.hid hr
  have hrr : (r != r) = false := by simp
  clear hr I0
  go_enter Try.func10, Try.ntmps10
  go_wp2_with fail
  refine (SP.out _).mono ?_
  rintro e w1 ⟨rfl, rfl⟩
  rw [← HR.out]
  go_wp2_with fail
  refine (I.out _).mono ?_
  rintro e w2 ⟨rfl, b2⟩
  rw [← HR.out]
  have B2 := Lib.hid b2
  clear b2
  go_wp2
  go_ret
  exact ⟨rfl, B2.out⟩
end Go.Proofs.Ytdmbkjebagnloaa.fnExactOwnerOf
