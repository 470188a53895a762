/-
  The model's Hex: the contract of spec.Hex.
-/
import Derived.Test.YteebkaajalelaaaHexA
import Derived.Deep.RegionHeld3
import Derived.Deep.AppendLies
import Derived.Laws.IdiomStrings
import Derived.Outline
import Derived.Lib.Hide
namespace Go.Proofs.Yteebkaajalelaaa.hexes
open Go.RowKit

theorem u8info : (Try.prog.info? 5).map (fun i => (i.zero, i.size, i.bytes)) = some (some (.int .u8 0), 1, 1) := by kernel_rfl

theorem conv_own {w : World} {base : Nat} {v : Value} {n : Nat} {bs : List UInt8} (h : w.ownsRow base 5 1 v n (bs.map byteVal)) :
    (convert 27 9 v).run Try.prog w = .ok (.string ⟨bs.toArray⟩) w := by
  have hn : bs.length = n := by simpa using h.1
  rcases h.2 with ⟨rfl, h0⟩ | ⟨g, cap, cur, rfl, _⟩
  · have : bs = [] := List.eq_nil_of_length_eq_zero (by omega)
    subst this
    rw [run_convert_bytes_string w 27 9 5 none 0 0 Try.underlying27 Try.underlying5 Try.underlying9]
    rfl
  · subst hn
    refine run_convert_bytes_back w 27 9 5 _ cap bs Try.underlying27 Try.underlying5 Try.underlying9 fun j hj => ?_
    have := h.cellAt j (by omega)
    have e : (Addr.add ⟨g, 0, none⟩ j) = ⟨g, j, none⟩ := by
      unfold Addr.add
      by_cases hj0 : j = 0 <;> simp [hj0]
    rw [e, this]
    simp [hj, byteVal]

theorem byte_wraps (n : Nat) (h : n < 256) : IntKind.i64.wrap (n : Int) = n ∧ (n : Int).tdiv 16 = (n : Int) / 16 ∧ IntKind.i64.wrap ((n : Int) / 16) = (n : Int) / 16 ∧ (n : Int).tmod 16 = (n : Int) % 16 :=
  ⟨IntWalk.i64_in _ (by omega), Int.tdiv_eq_ediv_of_nonneg (by omega), IntWalk.i64_in _ (by omega), Int.tmod_eq_emod_of_nonneg (by omega)⟩

theorem own_ge {w : World} {base e size n : Nat} {v : Value} {xs : List Value} (h : w.ownsRow base e size v n xs) : ∀ k, v.ownBlock = some k → base ≤ k := by
  intro k hk
  rcases h.2 with ⟨rfl, _⟩ | ⟨g, cap, cur, rfl, hb, _⟩
  · simp [Value.ownBlock] at hk
  · simp [Value.ownBlock] at hk
    omega

theorem hex_step {w : World} {base k : Nat} {v : Value} {s : ByteArray} (hlt : k < s.size)
    (h : w.ownsRow base 5 1 v (2 * k + 2) ((hexOf (s.data.toList.take k)).map byteVal ++ [.int .u8 (figI ((s[k].toNat : Int) / 16)), .int .u8 (figI ((s[k].toNat : Int) % 16))])) :
    w.ownsRow base 5 1 v (2 * (k + 1)) ((hexOf (s.data.toList.take (k + 1))).map byteVal) := by
  rw [take_snoc s k hlt, hexOf_snoc, List.map_append]
  have e1 : figI ((s[k].toNat : Int) / 16) = ((fig (s[k].toNat / 16)).toNat : Int) := rfl
  have e2 : figI ((s[k].toNat : Int) % 16) = ((fig (s[k].toNat % 16)).toNat : Int) := rfl
  rw [e1, e2] at h
  exact h

theorem specHex_small (s : ByteArray) (w : World) (hs : s.size ≤ 20000) :
    Calls Try.prog 6 #[.string s] w fun e w' => e = .returned (.tuple #[.string ⟨(hexOf s.data.toList).toArray⟩, .bool true]) ∧ Below w.heap.size w w' := by
  obtain ⟨i0, hi, hz0, hz1, hz2⟩ := info_parts u8info
  have hd : decide (20000 < (s.size : Int)) = false := by simp; omega
  go_enter Try.func6, Try.ntmps6
  go_wp2
  go_loopw [4, 5] (fun v i wr => ∃ k : Nat, k ≤ s.size ∧ i = .int .i64 k ∧ wr.ownsRow w.heap.size 5 1 v (2 * k) ((hexOf (s.data.toList.take k)).map byteVal) ∧ Below w.heap.size w wr) (fun _ i _ => s.size - (intOf i).toNat)
  case atStart => exact ⟨0, Nat.zero_le _, rfl, World.ownsRow_lit w #[] 0 (Nat.le_refl _) (by decide) rfl, (Below.refl _ _).alloc (Nat.le_refl _) _⟩
  case round =>
    obtain ⟨k, hk, rfl, hown, hbel⟩ := hrel
    by_cases hlt : k < s.size
    · have hb : s[k].toNat < 256 := s[k].toNat_lt
      obtain ⟨q1, q2, q3, q4⟩ := byte_wraps s[k].toNat hb
      have hsz := hbel.size
      go_wp2_with fail
      go_region_held3 (fun _ => True) (trivial)
        (first
          | (go_at_call 12; refine (figure_any _ _ (by omega) (by omega)).mono ?_; rintro e w' ⟨rfl, rfl⟩)
          | (refine step_append_lies _ (by rfl) _ _ _ (by rfl) w.heap.size 5 i0 _ 1 1 Try.underlying27 hi hz0 hz1 hz2 rfl (by omega) u4 (2 * k) ((hexOf (s.data.toList.take k)).map byteVal) (by rfl) ((hown.alloc _).drew) ⟨wr.heap.size, 0, none⟩ 2 2 [.int .u8 (figI ((s[k].toNat : Int) / 16)), .int .u8 (figI ((s[k].toNat : Int) % 16))] (by rfl) (by rfl) (World.news_of_block (cs := #[.int .u8 (figI ((s[k].toNat : Int) / 16)), .int .u8 (figI ((s[k].toNat : Int) % 16))]) (t := 5) (fr := (0, 0)) (heap_alloc_new wr _)) (by simp [Value.oneCell']) (by omega) (by unfold maxLen; omega) (by omega) (by simp; omega) (wr.heap.size + 1) (by simp) ?_; intro gg cap w1 hown1 hgrow hat hlt1))
      all_goals
        have R := hex_step hlt hown1
        have hb1 : Below w.heap.size w w1 := ((hbel.alloc hsz _).drew).grown hgrow (by simp; omega) (own_ge hown)
        clear hown1 hgrow hat hown hbel q1 q2 q3 q4
        go_wp2
        go_roundw
        case rel => exact ⟨k + 1, by omega, by go_num, R, hb1⟩
        case measure => simp [intOf]; omega
    · have hk' : k = s.size := by omega
      have hcv := conv_own hown
      have hfin : hexOf (s.data.toList.take k) = hexOf s.data.toList := by rw [List.take_of_length_le (by simp; omega)]
      rw [hfin] at hcv
      clear hk' hfin
      go_wp2
      go_ret2
      exact ⟨rfl, hbel⟩
end Go.Proofs.Yteebkaajalelaaa.hexes
