/-
  The model's PartsOf: the contract of spec.PartsOf.
-/
import Derived.Test.YteebkaajalelaaaDoorParts
import Derived.WalkSpells
namespace Go.Proofs.YteebkaajalelaaaDoor.hexes
open Go.RowKit

theorem strinfo : (Tryd.prog.info? 9).map (fun i => (i.zero, i.size, i.bytes)) = some (some (.string ⟨#[]⟩), 1, 16) := by kernel_rfl

theorem own_none (w w0 : World) (hb : w0.heap.size ≤ w.heap.size) : (w.alloc (.cells #[] 9)).ownsRow w0.heap.size 9 1 (.slice (some ⟨w.heap.size, 0, none⟩) 0 0) 0 [] :=
  World.ownsRow_lit w #[] 0 hb (by decide) rfl

theorem texts_snoc (out : List (List UInt8)) (x : ByteArray) (l : List UInt8) (h : x = mk l) : texts (out.map mk) ++ [.string x] = texts ((out ++ [l]).map mk) := by
  rw [h]
  simp [texts]

set_option maxRecDepth 100000 in
set_option maxHeartbeats 1000000 in
theorem specParts_any (s : ByteArray) (hs : s.size ≤ 1048576) (w : World) : Calls Tryd.prog 16 #[.string s] w (PartsEnd s w) := by
  obtain ⟨i0, hi, hz0, hz1, hz2⟩ := info_parts strinfo
  by_cases hlong : 600 < s.size
  · have hd : decide (600 < (s.size : Int)) = true := by simp; omega
    have P := partsOf_long hlong
    have HP := Lib.hid P
    clear P
    go_enter Tryd.func16, Tryd.ntmps16
    go_wp2
    go_ret2
    exact partsEnd_none HP.out (own_none w w (Nat.le_refl _)) ((Below.refl _ _).alloc (Nat.le_refl _) _)
  · have hd : decide (600 < (s.size : Int)) = false := by simp; omega
    go_enter Tryd.func16, Tryd.ntmps16
    go_wp2
    go_loopw [4, 5, 6] (fun v b i wr => ∃ (k j : Nat) (out : List (List UInt8)), k ≤ s.size + 1 ∧ i = .int .i64 (k : Int) ∧ b = .int .i64 (j : Int) ∧ j ≤ 601 ∧ out.length ≤ 601 ∧ Scan s k j out ∧ wr.ownsRow w.heap.size 9 1 v out.length (texts (out.map mk)) ∧ Below w.heap.size w wr) (fun _ _ i _ => s.size + 1 - (intOf i).toNat)
    case atStart => exact ⟨0, 0, [], Nat.zero_le _, rfl, rfl, by omega, by simp, scan_start s, own_none w w (Nat.le_refl _), (Below.refl _ _).alloc (Nat.le_refl _) _⟩
    case round =>
      obtain ⟨k, j, out, hk, rfl, rfl, hj, hout, hscan, hown, hbel⟩ := hrel
      have hsz := hbel.size
      have HS := Lib.hid hscan
      clear hscan
      by_cases hlt : k < s.size
      · by_cases g0 : (s[k].toNat : Int) < 32
        · have P := partsOf_bad (invalid_at hlt (fun h => by have := h.1; omega))
          have HP := Lib.hid P
          clear P
          go_wp2
          go_ret2
          exact partsEnd_none HP.out (own_none wr w hsz) (hbel.alloc hsz _)
        · by_cases g1 : (126 : Int) < (s[k].toNat : Int)
          · have P := partsOf_bad (invalid_at hlt (fun h => by have := h.2; omega))
            have HP := Lib.hid P
            clear P
            go_wp2
            go_ret2
            exact partsEnd_none HP.out (own_none wr w hsz) (hbel.alloc hsz _)
          · have hv : ValidB s[k] := ⟨by omega, by omega⟩
            by_cases h32 : (s[k] == 32) = true
            · have q : ((s[k].toNat : Int) != 32) = false := by
                have : s[k] = 32 := by simpa using h32
                rw [this]; rfl
              by_cases hb : j < k
              · have S := scan_cut HS.out hlt hv h32 hb
                have HN := Lib.hid S
                clear S hv h32
                go_wp2_with (at_builtin; refine wpList_append_own _ rfl _ _ 34 rfl w.heap.size 9 i0 (.string ⟨#[]⟩) 1 16 Tryd.underlying34 hi hz0 hz1 hz2 rfl (by decide) _ _ _ rfl (hown.alloc _) ⟨wr.heap.size, 0, none⟩ 1 1 [.string (s.extract j k)] rfl rfl (World.news_of_block (heap_alloc_new wr _)) (by simp [Value.oneCell']) (by unfold maxLen; omega) (by omega) (by simp; omega) ?_; intro v1 w1 hown1 hgrow1 _)
                have hb1 : Below w.heap.size w w1 := (hbel.alloc hsz _).grown hgrow1 (by simp; omega) (own_ge hown)
                rw [texts_snoc out _ _ (cut_text s j k)] at hown1
                have hlen : out.length + 1 = (out ++ [(s.data.toList.drop j).take (k - j)]).length := by simp
                rw [hlen] at hown1
                go_roundw
                case rel => exact ⟨k + 1, k + 1, _, by omega, by go_num, by go_num, by omega, Nat.le_trans HN.out.1 (by omega), HN.out, hown1, hb1⟩
                case measure => simp [intOf]; omega
              · have S := scan_skip HS.out hlt hv h32 hb
                have HN := Lib.hid S
                clear S hv h32
                go_wp2
                go_roundw
                case rel => exact ⟨k + 1, k + 1, out, by omega, by go_num, by go_num, by omega, hout, HN.out, hown, hbel⟩
                case measure => simp [intOf]; omega
            · have h32' : (s[k] == 32) = false := by simpa using h32
              have q : ((s[k].toNat : Int) != 32) = true := by
                have hne : s[k] ≠ 32 := by simpa using h32'
                have : s[k].toNat ≠ 32 := fun e => hne (by rw [← UInt8.toNat_inj]; exact e)
                simp; omega
              have S := scan_more HS.out hlt hv h32'
              have HN := Lib.hid S
              clear S hv h32 h32'
              go_wp2
              go_roundw
              case rel => exact ⟨k + 1, j, out, by omega, by go_num, rfl, by omega, hout, HN.out, hown, hbel⟩
              case measure => simp [intOf]; omega
      · by_cases he : k = s.size
        · by_cases hb : j < k
          · have S := scan_last HS.out he hb
            have HN := Lib.hid S
            clear S
            have hle : k ≤ s.size := by omega
            have hge : s.size ≤ k := by omega
            clear he
            go_wp2_with (at_builtin; refine wpList_append_own _ rfl _ _ 34 rfl w.heap.size 9 i0 (.string ⟨#[]⟩) 1 16 Tryd.underlying34 hi hz0 hz1 hz2 rfl (by decide) _ _ _ rfl (hown.alloc _) ⟨wr.heap.size, 0, none⟩ 1 1 [.string (s.extract j k)] rfl rfl (World.news_of_block (heap_alloc_new wr _)) (by simp [Value.oneCell']) (by unfold maxLen; omega) (by omega) (by simp; omega) ?_; intro v1 w1 hown1 hgrow1 _)
            have hb1 : Below w.heap.size w w1 := (hbel.alloc hsz _).grown hgrow1 (by simp; omega) (own_ge hown)
            rw [texts_snoc out _ _ (cut_text s j k)] at hown1
            have hlen : out.length + 1 = (out ++ [(s.data.toList.drop j).take (k - j)]).length := by simp
            rw [hlen] at hown1
            go_roundw
            case rel => exact ⟨k + 1, k + 1, _, by omega, by go_num, by go_num, by omega, Nat.le_trans HN.out.1 (by omega), HN.out, hown1, hb1⟩
            case measure => simp [intOf]; omega
          · have S := scan_done HS.out he hb
            have HN := Lib.hid S
            clear S
            have hle : k ≤ s.size := by omega
            clear he
            go_wp2
            go_roundw
            case rel => exact ⟨k + 1, k + 1, out, by omega, by go_num, by go_num, by omega, hout, HN.out, hown, hbel⟩
            case measure => simp [intOf]; omega
        · obtain ⟨rfl, hv⟩ := scan_end HS.out (by omega)
          have HV := Lib.hid hv
          clear hv
          by_cases h12 : 12 < (Lib.fields s.data.toList).length
          · have P := partsOf_many h12
            have HP := Lib.hid P
            have q : decide ((12 : Int) < ((Lib.fields s.data.toList).length : Int)) = true := by simp; omega
            clear P
            obtain ⟨A, c, rfl, _⟩ := own_form hown
            go_wp2
            go_ret2
            exact partsEnd_none HP.out (own_none wr w hsz) (hbel.alloc hsz _)
          · have P := partsOf_good (by omega) HV.out (by omega)
            have HP := Lib.hid P
            have q : decide ((12 : Int) < ((Lib.fields s.data.toList).length : Int)) = false := by simp; omega
            clear P
            obtain ⟨A, c, rfl, _⟩ := own_form hown
            go_wp2
            go_ret2
            exact partsEnd_some HP.out hown hbel
end Go.Proofs.YteebkaajalelaaaDoor.hexes
