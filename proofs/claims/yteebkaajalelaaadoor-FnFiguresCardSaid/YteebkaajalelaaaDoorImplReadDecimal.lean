/-
  The program's ReadDecimal: the contracts of impl.ReadDecimal at a decimal text of a number within the limit, and at any other text.
-/
import Derived.Test.YteebkaajalelaaaDoorImplDecimal
import Derived.Test.YteebkaajalelaaaDoorDecs
import Derived.Shelf.Strconv.ErrVarAll
namespace Go.Proofs.YteebkaajalelaaaDoor.hexes
open Go.RowKit

/-- What the two listed errors hold, and the table. -/
structure Held (w : World) : Prop where
  tab : Lib.TabIs Tryd.prog w "internal/strconv.uint64pow10" .u64 Lib.pow10Tab
  syn : ∃ tp p, w.var? Tryd.prog "strconv.ErrSyntax" = some #[.iface tp p]
  ran : ∃ tp p, w.var? Tryd.prog "strconv.ErrRange" = some #[.iface tp p]

theorem atoi_ok (s : ByteArray) (v : Int) (hs : s.size ≤ 1048576) (h : Lib.atoiAll s.data.toList = .ok v) (w : World) :
    Calls Tryd.prog 25 #[.string s] w fun e w' => e = .returned (.tuple #[.int .i64 v, .nilIface]) ∧ Below w.heap.size w w' := by
  refine (Tryd.strconv_Atoi_ok s (by omega) v h w).mono fun e w' hh => ⟨hh.1, ?_⟩
  rcases hh.2 with rfl | ⟨t, rfl⟩
  · exact Below.refl _ _
  · exact Lib.bytesWorld_below w _ t

/-- An ending with an error that is not nil. -/
def Fails (w : World) (e : Ending) (w' : World) : Prop := ∃ x N, e = .returned (.tuple #[.int .i64 x, .iface 62 (.pointer (some ⟨N, 0, none⟩))]) ∧ Below w.heap.size w w'

theorem atoi_fails (s : ByteArray) (hs : s.size ≤ 1048576) (h : ∀ v, Lib.atoiAll s.data.toList ≠ .ok v) (w : World) (hh : Held w) :
    Calls Tryd.prog 25 #[.string s] w (Fails w) := by
  obtain ⟨tp, p, hv⟩ := hh.syn
  obtain ⟨tq, q, hr⟩ := hh.ran
  cases hx : Lib.atoiAll s.data.toList
  · exact absurd hx (h _)
  · exact (Any.strconv_Atoi_syntax_var Tryd.laysC172 s (by omega) hx tp p w hv).mono fun e w' ⟨N, he, _, _, hb⟩ => ⟨_, N, he, hb⟩
  · exact (Any.strconv_Atoi_range_var Tryd.laysC172 s (by omega) hx tq q w hr).mono fun e w' ⟨N, he, _, _, hb⟩ => ⟨_, N, he, hb⟩

theorem implRead_yes (s : ByteArray) (n : Nat) (h : Spells s.data.toList n) (w : World) (hh : Held w) :
    Calls Tryd.prog 12 #[.string s] w fun e w' => e = .returned (.tuple #[.int .i64 (n : Int), .bool true]) ∧ Below w.heap.size w w' := by
  have hs : s.size ≤ 10 := by have := spells_len h; simpa using this
  have A := fun W => atoi_ok s (n : Int) (by omega) (spells_all h) W
  have hn : n ≤ 1000000000 := h.1
  have B : ∀ W, Below w.heap.size w W → Calls Tryd.prog 9 #[.int .i64 (n : Int)] W fun e w' => e = .returned (.string s) ∧ Below W.heap.size W w' := fun W hb => by
    refine (implDec_any (n : Int) (by omega) (by omega) W (pow10_below hh.tab hb)).mono fun e w' k => ⟨?_, k.2⟩
    rw [k.1, Lib.itoa_nonneg, h.2]
  have HA := Lib.hid A
  have HB := Lib.hid B
  have hq0 : decide ((n : Int) < 0) = false := by simp
  have hq : decide (1000000000 < (n : Int)) = false := by simp; omega
  clear A B h hh
  go_enter Tryd.func12, Tryd.ntmps12
  go_wp2_with (first | (go_at_call 25; refine (HA.out _).mono ?_; rintro e w1 ⟨rfl, hb1⟩) | (go_at_call 9; refine (HB.out _ hb1).mono ?_; rintro e w2 ⟨rfl, hb2⟩))
  go_ret2
  exact ⟨rfl, hb1.trans (hb2.mono hb1.size)⟩

theorem implRead_no (s : ByteArray) (hs : s.size ≤ 1048576) (h : ∀ n, ¬ Spells s.data.toList n) (w : World) (hh : Held w) :
    Calls Tryd.prog 12 #[.string s] w fun e w' => e = .returned (.tuple #[.int .i64 0, .bool false]) ∧ Below w.heap.size w w' := by
  by_cases hv : ∃ v, Lib.atoiAll s.data.toList = .ok v
  · obtain ⟨v, hv⟩ := hv
    have A := fun W => atoi_ok s v hs hv W
    have HA := Lib.hid A
    clear A hv
    by_cases h0 : v < 0
    · clear h hh
      go_enter Tryd.func12, Tryd.ntmps12
      go_wp2_with (first | (go_at_call 25; refine (HA.out _).mono ?_; rintro e w1 ⟨rfl, hb1⟩))
      go_ret2
      exact ⟨rfl, hb1⟩
    · by_cases h1 : 1000000000 < v
      · clear h hh
        go_enter Tryd.func12, Tryd.ntmps12
        go_wp2_with (first | (go_at_call 25; refine (HA.out _).mono ?_; rintro e w1 ⟨rfl, hb1⟩))
        go_ret2
        exact ⟨rfl, hb1⟩
      · obtain ⟨k, rfl⟩ : ∃ k : Nat, v = (k : Int) := ⟨v.toNat, by omega⟩
        have B : ∀ W, Below w.heap.size w W → Calls Tryd.prog 9 #[.int .i64 (k : Int)] W fun e w' => e = .returned (.string ⟨(Lib.decDigits k).toArray⟩) ∧ Below W.heap.size W w' := fun W hb => by
          refine (implDec_any (k : Int) (by omega) (by omega) W (pow10_below hh.tab hb)).mono fun e w' j => ⟨?_, j.2⟩
          rw [j.1, Lib.itoa_nonneg]
        have HB := Lib.hid B
        have hne : (Lib.decDigits k == s.toList) = false := by
          rw [beq_eq_false_iff_ne, ByteArray.toList_eq]
          exact fun e => h k ⟨by omega, e⟩
        clear B h hh
        go_enter Tryd.func12, Tryd.ntmps12
        go_wp2_with (first | (go_at_call 25; refine (HA.out _).mono ?_; rintro e w1 ⟨rfl, hb1⟩) | (go_at_call 9; refine (HB.out _ hb1).mono ?_; rintro e w2 ⟨rfl, hb2⟩))
        go_ret2
        exact ⟨rfl, hb1.trans (hb2.mono hb1.size)⟩
  · have A := atoi_fails s hs (fun v hx => hv ⟨v, hx⟩) w hh
    have HA := Lib.hid A
    clear A hv h hh
    go_enter Tryd.func12, Tryd.ntmps12
    go_wp2_with (first | (go_at_call 25; refine HA.out.mono ?_; rintro e w1 ⟨x, N, rfl, hb1⟩))
    go_ret2
    exact ⟨rfl, hb1⟩
end Go.Proofs.YteebkaajalelaaaDoor.hexes
