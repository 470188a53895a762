/-
  The program's Hex at a text within the limit: the contract of impl.Hex.
-/
import Derived.Test.YteebkaajalelaaaDoorBytes
import Derived.WalkSpells
import Derived.Laws.BitsAllLaws
import Derived.WalkLawsBesides
namespace Go.Proofs.YteebkaajalelaaaDoor.hexes
open Go.RowKit

set_option maxRecDepth 100000 in
theorem hexD_at (m : Nat) (h : m < 16) (w : World) : (Instr.index 9 (.string hexD) (.int .u8 (m : Int))).run Tryd.prog w = .ok (.int .u8 (figI (m : Int))) w := by
  have h16 : m = 0 ∨ m = 1 ∨ m = 2 ∨ m = 3 ∨ m = 4 ∨ m = 5 ∨ m = 6 ∨ m = 7 ∨ m = 8 ∨ m = 9 ∨ m = 10 ∨ m = 11 ∨ m = 12 ∨ m = 13 ∨ m = 14 ∨ m = 15 := by omega
  rcases h16 with rfl | rfl | rfl | rfl | rfl | rfl | rfl | rfl | rfl | rfl | rfl | rfl | rfl | rfl | rfl | rfl <;> rfl

theorem and15 (n : Nat) (h : n < 256) : bits .and .u8 (n : Int) 15 = (n : Int) % 16 := by
  have := u8_and_nat n 15 h (by omega)
  rw [show ((15 : Nat) : Int) = 15 from rfl] at this
  rw [this, Nat.and_two_pow_sub_one_eq_mod n 4]
  rfl

theorem hexD_hi (n : Nat) (h : n < 256) (w : World) : (Instr.index 9 (.string hexD) (.int .u8 ((n : Int) / 16))).run Tryd.prog w = .ok (.int .u8 (figI ((n : Int) / 16))) w :=
  hexD_at (n / 16) (by omega) w
theorem hexD_lo (n : Nat) (w : World) : (Instr.index 9 (.string hexD) (.int .u8 ((n : Int) % 16))).run Tryd.prog w = .ok (.int .u8 (figI ((n : Int) % 16))) w :=
  hexD_at (n % 16) (by omega) w

theorem implHex_small (s : ByteArray) (w : World) (hs : s.size ≤ 20000) :
    Calls Tryd.prog 10 #[.string s] w fun e w' => e = .returned (.tuple #[.string ⟨(hexOf s.data.toList).toArray⟩, .bool true]) ∧ Below w.heap.size w w' := by
  obtain ⟨i0, hi, hz0, hz1, hz2⟩ := info_parts u8info
  have hd : decide (20000 < (s.size : Int)) = false := by simp; omega
  have hd2 : decide (20000 < s.size) = false := by simp; omega
  go_enter Tryd.func10, Tryd.ntmps10
  go_wp2_with (with_reducible refine wpList_make_own _ rfl _ _ 22 rfl w.heap.size 5 i0 (.int .u8 0) 1 Tryd.underlying22 hi hz0 hz1 .i64 .i64 _ (2 * s.size) rfl rfl (by omega) (by rw [hz2]; omega) (by unfold maxLen; omega) (Nat.le_refl _) ?_; intro w0 hown0 hgrow0)
  have hb0 : Below w.heap.size w w0 := (Below.refl _ _).grown hgrow0 (Nat.le_refl _) (fun _ h => by cases h)
  clear hgrow0
  go_loopw [4, 16] (fun v i wr => ∃ k : Nat, k ≤ s.size ∧ i = .int .i64 k ∧ wr.ownsRow w.heap.size 5 1 v (2 * k) ((hexOf (s.data.toList.take k)).map byteVal) ∧ Below w.heap.size w wr) (fun _ i _ => s.size - (intOf i).toNat)
  case atStart => exact ⟨0, Nat.zero_le _, rfl, hown0, hb0⟩
  case round =>
    obtain ⟨k, hk, rfl, hown, hbel⟩ := hrel
    clear hown0 hb0
    by_cases hlt : k < s.size
    · have hb : s[k].toNat < 256 := s[k].toNat_lt
      have hsz := hbel.size
      have qa := and15 s[k].toNat hb
      have x1 := hexD_hi s[k].toNat hb
      have x2 := hexD_lo s[k].toNat
      go_wp2_with fail
      go_region_held3 (fun _ => True) (trivial)
        (first
          | (refine step_append_lies _ (by rfl) _ _ _ (by rfl) w.heap.size 5 i0 _ 1 1 Tryd.underlying22 hi hz0 hz1 hz2 rfl (by omega) u4 (2 * k) ((hexOf (s.data.toList.take k)).map byteVal) (by rfl) ((hown.alloc _).drew) ⟨wr.heap.size, 0, none⟩ 2 2 [.int .u8 (figI ((s[k].toNat : Int) / 16)), .int .u8 (figI ((s[k].toNat : Int) % 16))] (by rfl) (by rfl) (World.news_of_block (cs := #[.int .u8 (figI ((s[k].toNat : Int) / 16)), .int .u8 (figI ((s[k].toNat : Int) % 16))]) (t := 5) (fr := (0, 0)) (heap_alloc_new wr _)) (by simp [Value.oneCell']) (by omega) (by unfold maxLen; omega) (by omega) (by simp; omega) (wr.heap.size + 1) (by simp) ?_; intro gg cap w1 hown1 hgrow hat hlt1))
      all_goals
        have R := hex_step hlt hown1
        have hb1 : Below w.heap.size w w1 := ((hbel.alloc hsz _).drew).grown hgrow (by simp; omega) (own_ge hown)
        clear hown1 hgrow hat hown hbel x1 x2 qa
        go_wp2
        go_roundw
        case rel => exact ⟨k + 1, by omega, by go_num, R, hb1⟩
        case measure => simp [intOf]; omega
    · have hk' : k = s.size := by omega
      have hcv := conv_own hown
      have hfin : hexOf (s.data.toList.take k) = hexOf s.data.toList := by rw [List.take_of_length_le (by simp; omega)]
      rw [hfin] at hcv
      clear hk' hfin
      go_wp2
      go_ret2
      exact ⟨rfl, hbel⟩

end Go.Proofs.YteebkaajalelaaaDoor.hexes
