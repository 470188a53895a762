/-
  The draw of OwnerOf's arguments: the contract of spec.DrawOwnerOf.
-/
import Derived.Test.YtdmbkjebagnloaaDrawStamps
import Derived.Test.YtdmbkjebagnloaaCursor
namespace Go.Proofs.Ytdmbkjebagnloaa.hexes
open Go.RowKit

theorem wf_pickK {nn : Int} (h : nn ∈ [(0 : Int), 1, 5, 99, -1, -7, 9223372036854775807, -9223372036854775808]) : (Lit.int .i64 nn).wf = true := by
  simp only [List.mem_cons, List.not_mem_nil, or_false] at h
  rcases h with rfl | rfl | rfl | rfl | rfl | rfl | rfl | rfl <;> rfl
theorem wf_pickW {nn : Int} (h : nn ∈ [(1 : Int), 2, 3, 4, 0, -1, 9223372036854775807]) : (Lit.int .i64 nn).wf = true := by
  simp only [List.mem_cons, List.not_mem_nil, or_false] at h
  rcases h with rfl | rfl | rfl | rfl | rfl | rfl | rfl <;> rfl
def OwnerDraw (w : World) (e : Ending) (w' : World) : Prop :=
  ∃ a b : Int, e = .returned (.tuple #[.int .i64 a, .int .i64 b]) ∧ (Lit.int .i64 a).wf = true ∧ (Lit.int .i64 b).wf = true ∧ Below w.heap.size w w'

set_option maxRecDepth 100000 in
theorem drawOwner_any (w : World) (A : Option Addr) (len cap : Nat) (hlen : len ≤ 2097152) (hcame : Came w A len) :
    Calls Try.prog 12 #[.slice A len cap] w (OwnerDraw w) := by
  have HC := Lib.hid hcame
  clear hcame
  go_enter Try.func12, Try.ntmps12
  go_wp2_with fail
  refine (new_any w A len cap hlen HC.out).mono ?_
  rintro e w1 ⟨c, rfl, hcw, hcur, hb1⟩
  have hck : ∀ k, some c = some k → w.heap.size ≤ k := fun k hk => by simp at hk; omega
  have C1 := Lib.hid hcur
  have B1 := Lib.hid hb1
  clear hcur hb1 HC
  go_wp2_with fail
  refine (pickInt_any _ c _ A len cap 8 [(0 : Int), 1, 5, 99, -1, -7, 9223372036854775807, -9223372036854775808] rfl (by omega) (by omega) hlen (C1.out.grown (World.grownBy_alloc _ _ none)) (by have := C1.out.lt; omega) (Blk.new _ _ _)).mono ?_
  rintro e w2 ⟨a, ha, rfl, hc2, g2⟩
  have WA := Lib.hid (wf_pickK ha)
  have C2 := Lib.hid hc2
  have B2 := Lib.hid ((B1.out.alloc B1.out.size _).grown g2 (Nat.le_trans B1.out.size (by simp)) hck)
  clear ha hc2 g2 C1 B1
  go_wp2_with fail
  refine (pickInt_any _ c _ A len cap 7 [(1 : Int), 2, 3, 4, 0, -1, 9223372036854775807] rfl (by omega) (by omega) hlen (C2.out.grown (World.grownBy_alloc _ _ none)) (by have := C2.out.lt; omega) (Blk.new _ _ _)).mono ?_
  rintro e w3 ⟨b, hb, rfl, hc3, g3⟩
  have WB := Lib.hid (wf_pickW hb)
  have B3 := Lib.hid ((B2.out.alloc B2.out.size _).grown g3 (Nat.le_trans B2.out.size (by simp)) hck)
  clear hb hc3 g3 C2 B2
  go_wp2_with fail
  exact bodyPost_ret (v := .tuple #[.int .i64 a, .int .i64 b]) (by simp [results, Try.results12, go_sem]) rfl ⟨a, b, rfl, WA.out, WB.out, B3.out⟩
end Go.Proofs.Ytdmbkjebagnloaa.hexes
