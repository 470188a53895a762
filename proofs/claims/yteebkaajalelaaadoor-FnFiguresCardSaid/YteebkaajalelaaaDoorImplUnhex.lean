/-
  The program's Unhex at a text of even length within the limit: the contract of impl.Unhex.
-/
import Derived.Test.YteebkaajalelaaaDoorNibbles
import Derived.Test.YteebkaajalelaaaDoorShelf
namespace Go.Proofs.YteebkaajalelaaaDoor.hexes
open Go.RowKit

theorem idx_val (n : Nat) (h : n < 256) : Lib.indexByte hexD.data.toList (n : Int).toNat.toUInt8 = valI (n : Int) := by
  have : ∀ n : Fin 256, Lib.indexByte hexD.data.toList (n.val : Int).toNat.toUInt8 = valI (n.val : Int) := by decide +kernel
  exact this ⟨n, h⟩

theorem index_any (n : Nat) (h : n < 256) (w : World) :
    Calls Tryd.prog 24 #[.string hexD, .int .u8 (n : Int)] w fun e w' => e = .returned (.int .i64 (valI (n : Int))) ∧ w = w' :=
  (Tryd.strings_IndexByte hexD (n : Int) w).mono fun _ _ hh => ⟨by rw [hh.1, idx_val n h], hh.2.symm⟩

theorem or_nib (a b : Int) (ha : 0 ≤ a) (ha' : a ≤ 15) (hb : 0 ≤ b) (hb' : b ≤ 15) : bits .or .i64 (a * 16) b = 16 * a + b := by
  have h : ∀ x y : Fin 16, bits .or .i64 ((x.val : Int) * 16) (y.val : Int) = 16 * (x.val : Int) + (y.val : Int) := by decide +kernel
  obtain ⟨m, rfl⟩ : ∃ m : Nat, a = (m : Int) := ⟨a.toNat, by omega⟩
  obtain ⟨n, rfl⟩ : ∃ n : Nat, b = (n : Int) := ⟨b.toNat, by omega⟩
  exact h ⟨m, by omega⟩ ⟨n, by omega⟩

set_option maxRecDepth 100000 in
set_option maxHeartbeats 400000 in
theorem implUnhex_short (s : ByteArray) (w : World) (hs : s.size ≤ 40000) (he : s.size % 2 = 0) :
    Calls Tryd.prog 11 #[.string s] w (Unhexed s w) := by
  obtain ⟨i0, hi, hz0, hz1, hz2⟩ := info_parts u8info
  have hd : decide (40000 < (s.size : Int)) = false := by simp; omega
  have hd2 : ((s.size : Int) % 2 != 0) = false := by simp; omega
  have he' : 2 * (s.size / 2) ≤ s.size ∧ s.size ≤ 2 * (s.size / 2) := by omega
  clear he
  go_enter Tryd.func11, Tryd.ntmps11
  go_wp2_with (with_reducible refine wpList_make_own _ rfl _ _ 22 rfl w.heap.size 5 i0 (.int .u8 0) 1 Tryd.underlying22 hi hz0 hz1 .i64 .i64 _ (s.size / 2) rfl rfl (by omega) (by rw [hz2]; omega) (by unfold maxLen; omega) (Nat.le_refl _) ?_; intro w0 hown0 hgrow0)
  have hb0 : Below w.heap.size w w0 := (Below.refl _ _).grown hgrow0 (Nat.le_refl _) (fun _ h => by cases h)
  clear hgrow0
  go_loopw [4, 5] (fun v i wr => ∃ k : Nat, k ≤ s.size ∧ k % 2 = 0 ∧ i = .int .i64 k ∧ wr.ownsRow w.heap.size 5 1 v (k / 2) ((outB s (k / 2)).map byteVal) ∧ (∀ j, j < k / 2 → 0 ≤ vat s (2 * j) ∧ 0 ≤ vat s (2 * j + 1)) ∧ Below w.heap.size w wr) (fun _ i _ => s.size - (intOf i).toNat)
  case atStart => exact ⟨0, Nat.zero_le _, rfl, rfl, hown0, fun j hj => absurd hj (by omega), hb0⟩
  case round =>
    obtain ⟨k, hk, hev, rfl, hown, hall, hbel⟩ := hrel
    clear hown0 hb0
    have HE := Lib.hid hev
    have HA := Lib.hid hall
    clear hall
    by_cases hlt : k < s.size
    · have hlt1 : k + 1 < s.size := by omega
      clear hev
      have hsz := hbel.size
      have hb0 : s[k].toNat < 256 := s[k].toNat_lt
      have hb1 : s[k + 1].toNat < 256 := s[k + 1].toNat_lt
      have v0 := valI_le (s[k].toNat : Int)
      have v1 := valI_le (s[k + 1].toNat : Int)
      have E0 := Lib.hid (vat_eq s k hlt)
      have E1 := Lib.hid (vat_eq s (k + 1) hlt1)
      have hi1 : (k : Int) + 1 < (s.size : Int) := by omega
      by_cases g0 : valI (s[k].toNat : Int) < 0
      · go_wp2_with (first | (go_at_call 24; refine (index_any _ (by omega) _).mono ?_; rintro e w' ⟨rfl, rfl⟩))
        go_ret2
        exact unhexed_bad hlt1 HE.out (.inl (by rw [E0.out]; exact g0)) hbel
      · by_cases g1 : valI (s[k + 1].toNat : Int) < 0
        · go_wp2_with (first | (go_at_call 24; refine (index_any _ (by omega) _).mono ?_; rintro e w' ⟨rfl, rfl⟩))
          go_ret2
          exact unhexed_bad hlt1 HE.out (.inr (by rw [E1.out]; exact g1)) hbel
        · have qo := or_nib (valI (s[k].toNat : Int)) (valI (s[k + 1].toNat : Int)) (by omega) (by omega) (by omega) (by omega)
          go_wp2_with (first | (go_at_call 24; refine (index_any _ (by omega) _).mono ?_; rintro e w' ⟨rfl, rfl⟩) | (at_builtin; refine wpList_append_own _ rfl _ _ 22 rfl w.heap.size 5 i0 (.int .u8 0) 1 1 Tryd.underlying22 hi hz0 hz1 hz2 rfl (by decide) _ _ _ rfl (hown.alloc _) ⟨wr.heap.size, 0, none⟩ 1 1 [.int .u8 (16 * valI (s[k].toNat : Int) + valI (s[k + 1].toNat : Int))] rfl rfl (World.news_of_block (heap_alloc_new wr _)) (by simp [Value.oneCell']) (by unfold maxLen; omega) (by omega) (by simp; omega) ?_; intro v1 w1 hown1 hgrow1 _))
          have h0 : 0 ≤ vat s k := by rw [E0.out]; omega
          have h1 : 0 ≤ vat s (k + 1) := by rw [E1.out]; omega
          have R := outB_step HE.out h0 h1 (by rw [E0.out, E1.out]) hown1
          have hb1 : Below w.heap.size w w1 := (hbel.alloc hsz _).grown hgrow1 (by simp; omega) (own_ge hown)
          go_roundw
          case rel => exact ⟨k + 2, by omega, by have := HE.out; omega, by go_num, R, all_step HE.out HA.out h0 h1, hb1⟩
          case measure => simp [intOf]; omega
    · have hcv := conv_own hown
      have HK : s.size ≤ k := by omega
      have hfin : outB s (k / 2) = outB s (s.size / 2) := by rw [show k = s.size by omega]
      rw [hfin] at hcv
      clear hfin
      go_wp2
      go_ret2
      exact unhexed_good HK HA.out hbel

end Go.Proofs.YteebkaajalelaaaDoor.hexes
