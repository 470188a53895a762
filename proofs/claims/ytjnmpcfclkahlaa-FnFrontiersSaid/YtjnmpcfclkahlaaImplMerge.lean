/-
  The program's MergeFronts and FrontierOk: the contracts of slices.Grow, slices.Concat, impl.MergeFronts and impl.FrontierOk.
-/
import Derived.Test.YtjnmpcfclkahlaaImplMinimal
import Derived.Test.YtjnmpcfclkahlaaSpecMerge
namespace Go.Proofs.Ytjnmpcfclkahlaa.hexes
open Go.RowKit Go.Shelf

theorem zeros_size (z : Array Value) (n : Nat) : (Builtin.zeroCells z n).size = n * z.size := size_zeroCells z n

theorem grow_any (k : Nat) (hk : k ≤ 4194304) (w : World) :
    Calls Try.prog 56 #[.slice none 0 0, .int .i64 (k : Int)] w fun e w' => ∃ v, e = .returned v ∧ w'.ownsRow w.heap.size 32 2 v 0 (stCells []) ∧ Below w.heap.size w w' := by
  obtain ⟨i0, hi, hz0, hz1, hz2⟩ := info_parts stinfo
  by_cases h0 : k = 0
  · subst h0
    have hcon := Any8.slices_Grow_room Try.growSt none 0 0 0 w (by omega) (by omega) (by omega) (by omega)
    change Calls Try.prog 56 _ _ _ at hcon
    refine hcon.mono ?_
    rintro e w' ⟨rfl, rfl⟩
    exact ⟨_, rfl, World.ownsRow_nil _ _ _ _, Below.refl _ _⟩
  · have hcon := Any8.slices_Grow_grow Try.growSt i0 (.agg #[.int .i64 0, .int .i64 0]) hi hz0 (by omega) none 0 0 k [] w (by omega) (by omega) (by rw [hz2]; omega) (by omega) (by simp) (fun _ => rfl) (fun a h => by cases h)
    change Calls Try.prog 56 _ _ _ at hcon
    refine hcon.mono ?_
    rintro e w' ⟨rfl, rfl⟩
    have hG1 := grownCap_ge w (0 + k) 0 32
    have hG2 := grownCap_le_maxLen w (0 + k) 0 32 (by unfold maxLen; omega)
    refine ⟨_, rfl, World.ownsRow_made w.drew _ _ (Nat.le_refl _) hG2 ?_, ((Below.refl _ w).drew).alloc (Nat.le_refl _) _⟩
    have hs : (Value.agg #[.int .i64 0, .int .i64 0]).cells.size = 2 := rfl
    rw [Array.size_append, Array.size_append, zeros_size, zeros_size, hs]
    change 0 + (0 + k - 0) * 2 + (grownCap w (0 + k) 0 32 - (0 + k)) * 2 = grownCap w (0 + k) 0 32 * 2
    omega

set_option maxRecDepth 100000 in
set_option maxHeartbeats 1000000 in
theorem concat_any (n m : Nat) (zs ys : List (Int × Int)) (hz : zs.length = n) (hy : ys.length = m) (A1 A2 : Option Addr) (c1 c2 : Nat) (hA1 : A1 = none → c1 = 0) (hA2 : A2 = none → c2 = 0) (w : World) (h1 : Sts w A1 zs) (h2 : Sts w A2 ys) (hn : n + m ≤ 4194304)
    (b : Nat) (e1 : w.cell? ⟨b, 0, none⟩ = some (.slice A1 n c1)) (e2 : w.cell? ⟨b, 1, none⟩ = some (.slice A2 m c2)) :
    Calls Try.prog 40 #[.slice (some ⟨b, 0, none⟩) 2 2] w fun e w' => ∃ v, e = .returned v ∧ w'.ownsRow w.heap.size 32 2 v (n + m) (stCells (zs ++ ys)) ∧ Below w.heap.size w w' := by
  have H1 := Lib.hid h1
  have H2 := Lib.hid h2
  have HZ := Lib.hid hz
  have HY := Lib.hid hy
  have HA1 := Lib.hid hA1
  have HA2 := Lib.hid hA2
  have gr := grow_any (n + m) hn w
  rw [Int.natCast_add] at gr
  have GR := Lib.hid gr
  have E1 := Lib.hid e1
  have E2 := Lib.hid e2
  clear h1 h2 hz hy hA1 hA2 gr
  go_enter Try.func40, Try.ntmps40
  go_wp2
  go_loop [3, 11] (fun s i => (s = .int .i64 0 ∧ i = .int .i64 0) ∨ (s = .int .i64 (n : Int) ∧ i = .int .i64 1) ∨ (s = .int .i64 ((n + m : Nat) : Int) ∧ i = .int .i64 2)) (fun _ i => 2 - (intOf i).toNat)
  case atStart => exact .inl ⟨rfl, rfl⟩
  case round =>
    rcases hrel with ⟨rfl, rfl⟩ | ⟨rfl, rfl⟩ | ⟨rfl, rfl⟩
    · go_wp2
      go_round
      case rel => exact .inr (.inl ⟨by go_num, by go_num⟩)
      case measure => simp [intOf]
    · go_wp2
      go_round
      case rel => exact .inr (.inr ⟨by go_num, by go_num⟩)
      case measure => simp [intOf]
    · go_wp2_with fail
      refine GR.out.mono ?_
      rintro e w1 ⟨v1, rfl, o1, b1⟩
      have f1 := below_keep b1 e1
      have f2 := below_keep b1 e2
      have O1 := Lib.hid o1
      have B1 := Lib.hid b1
      have F1 := Lib.hid f1
      have F2 := Lib.hid f2
      clear o1 b1 f1 f2 e1 e2
      go_wp2_with fail
      go_loopw [6, 27] (fun v i wr => Below w.heap.size w wr ∧ ((i = .int .i64 0 ∧ wr.ownsRow w.heap.size 32 2 v 0 (stCells [])) ∨ (i = .int .i64 1 ∧ wr.ownsRow w.heap.size 32 2 v n (stCells zs)) ∨ (i = .int .i64 2 ∧ wr.ownsRow w.heap.size 32 2 v (n + m) (stCells (zs ++ ys))))) (fun _ i _ => 2 - (intOf i).toNat)
      case atStart => exact ⟨B1.out, .inl ⟨rfl, O1.out⟩⟩
      case round =>
        obtain ⟨hb, hc⟩ := hrel
        have e1 : wr.cell? ⟨b, 0, none⟩ = some (.slice A1 n c1) := below_keep hb E1.out
        have e2 : wr.cell? ⟨b, 1, none⟩ = some (.slice A2 m c2) := below_keep hb E2.out
        have HB := Lib.hid hb
        clear hb
        rcases hc with ⟨rfl, o⟩ | ⟨rfl, o⟩ | ⟨rfl, o⟩
        · have O := Lib.hid o
          clear o
          go_wp2_with (at_builtin; refine wpList_append_sts rfl (.tmp 31) (.tmp 32) (by rfl) w.heap.size _ 0 [] (by rfl) O.out A1 n c1 zs (by rfl) HA1.out HZ.out (H1.out.below HB.out) (by omega) HB.out.size ?_; intro v8 w8 own8 gr8)
          have hb8 := HB.out.grown gr8 HB.out.size (own_ge O.out)
          rw [Nat.zero_add, List.nil_append] at own8
          have O8 := Lib.hid own8
          have B8 := Lib.hid hb8
          clear own8 gr8 hb8
          go_wp2
          go_roundw
          case rel => exact ⟨B8.out, .inr (.inl ⟨by go_num, O8.out⟩)⟩
          case measure => simp [intOf]
        · have O := Lib.hid o
          clear o
          go_wp2_with (at_builtin; refine wpList_append_sts rfl (.tmp 31) (.tmp 32) (by rfl) w.heap.size _ n zs (by rfl) O.out A2 m c2 ys (by rfl) HA2.out HY.out (H2.out.below HB.out) (by omega) HB.out.size ?_; intro v8 w8 own8 gr8)
          have hb8 := HB.out.grown gr8 HB.out.size (own_ge O.out)
          have O8 := Lib.hid own8
          have B8 := Lib.hid hb8
          clear own8 gr8 hb8
          go_wp2
          go_roundw
          case rel => exact ⟨B8.out, .inr (.inr ⟨by go_num, O8.out⟩)⟩
          case measure => simp [intOf]
        · have O := Lib.hid o
          clear o
          go_wp2
          go_ret
          exact ⟨_, rfl, O.out, HB.out⟩

set_option maxRecDepth 100000 in
theorem implMerge_any (n m : Nat) (zs ys : List (Int × Int)) (hz : zs.length = n) (hy : ys.length = m) (A1 A2 : Option Addr) (c1 c2 : Nat) (hA1 : A1 = none → c1 = 0) (hA2 : A2 = none → c2 = 0) (w : World) (h1 : Sts w A1 zs) (h2 : Sts w A2 ys) (hn : n + m ≤ 4194304) :
    Calls Try.prog 14 #[.slice A1 n c1, .slice A2 m c2] w fun e w' => ∃ v, e = .returned v ∧ w'.ownsRow w.heap.size 32 2 v (minL (zs ++ ys)).length (stCells (minL (zs ++ ys))) ∧ Below w.heap.size w w' := by
  have hb := Below.alloc (Below.refl w.heap.size w) (Nat.le_refl _) (.cells #[.slice A1 n c1, .slice A2 m c2] 24)
  have C := Lib.hid (concat_any n m zs ys hz hy A1 A2 c1 c2 hA1 hA2 _ (h1.below hb) (h2.below hb) hn w.heap.size (alloc_cells rfl rfl) (alloc_cells rfl rfl))
  have HB := Lib.hid hb
  clear h1 h2 hb hz hy hA1 hA2
  go_enter Try.func14, Try.ntmps14
  go_wp2_with fail
  refine C.out.mono ?_
  rintro e w1 ⟨v1, rfl, o1, b1⟩
  obtain ⟨A3, c3, rfl, hl3, s3⟩ := Sts.of_own o1
  have N3 := Lib.hid (own_nil o1)
  have B1 := Lib.hid (below_chain HB.out b1)
  have S3 := Lib.hid s3
  have L3 := Lib.hid hl3
  clear o1 b1 s3 hl3
  go_wp2_with fail
  refine (implMinOf_any (n + m) (zs ++ ys) L3.out A3 c3 N3.out w1 S3.out hn).mono ?_
  rintro e w2 ⟨v2, rfl, o2, b2⟩
  have O2 := Lib.hid (own_base o2 B1.out.size)
  have B2 := Lib.hid (below_chain B1.out b2)
  clear o2 b2
  go_wp2
  go_ret
  exact ⟨_, rfl, O2.out, B2.out⟩

set_option maxRecDepth 100000 in
theorem implFOk_any (n : Nat) (zs : List (Int × Int)) (hz : zs.length = n) (A : Option Addr) (c : Nat) (hA : A = none → c = 0) (w : World) (h1 : Sts w A zs) (hn : n ≤ 4194304) :
    Calls Try.prog 19 #[.slice A n c] w fun e w' => e = .returned (.bool (okFrontL zs)) ∧ Below w.heap.size w w' := by
  have H1 := Lib.hid h1
  have HZ := Lib.hid hz
  have HA := Lib.hid hA
  clear h1 hz hA
  go_enter Try.func19, Try.ntmps19
  go_wp2
  go_loopw [7] (fun i wr => ∃ k : Nat, k ≤ n ∧ i = .int .i64 k ∧ (zs.take k).all (fun z => okSt z.1 z.2) = true ∧ Below w.heap.size w wr) (fun i _ => n - (intOf i).toNat)
  case atStart => exact ⟨0, Nat.zero_le _, rfl, rfl, Below.refl _ _⟩
  case round =>
    obtain ⟨k, hk, rfl, ht, hb⟩ := hrel
    have HT := Lib.hid ht
    have HB := Lib.hid hb
    clear ht
    by_cases hlt : k < n
    · have l1 : k < zs.length := by rw [HZ.out]; exact hlt
      obtain ⟨b1, o1, p, q, rfl, x1, e1, e2⟩ := (H1.out.below hb).at l1
      have i0 : (0 : Int) ≤ (k : Int) := by omega
      have i1 : (k : Int) < (n : Int) := by omega
      have BA := Lib.hid (HB.out.alloc HB.out.size (.cells #[.int .i64 p, .int .i64 q] 32))
      clear hb
      by_cases he : okSt p q = true
      · have HT2 := Lib.hid (all_step l1 HT.out (by rw [x1]; exact he))
        have E := Lib.hid (fun W => implOk_is he W)
        clear x1 he HT l1
        go_wp2_with (go_at_call 43; with_reducible refine (E.out _).mono ?_; rintro e w5 ⟨rfl, hbd⟩)
        have B5 := below_chain BA.out hbd
        clear hbd
        go_roundw
        case rel => exact ⟨k + 1, by omega, by go_num, HT2.out, B5⟩
        case measure => simp [intOf]; omega
      · have he' : okSt p q = false := by simpa using he
        have HF := Lib.hid (okFront_no (all_not (f := fun z : Int × Int => okSt z.1 z.2) l1 (by rw [x1]; exact he')))
        have E := Lib.hid (fun W => implOk_is he' W)
        clear x1 he he' HT l1
        go_wp2_with (go_at_call 43; with_reducible refine (E.out _).mono ?_; rintro e w5 ⟨rfl, hbd⟩)
        go_ret
        exact ⟨congrArg (fun b => Ending.returned (Value.bool b)) HF.out.symm, below_chain BA.out hbd⟩
    · have HF := Lib.hid (okFront_yes (all_end (k := k) (by rw [HZ.out]; omega) HT.out))
      clear hb
      go_wp2_with fail
      refine (implMin_any n zs HZ.out A c HA.out _ (H1.out.below HB.out) hn).mono ?_
      rintro e w3 ⟨v3, rfl, own3, b3⟩
      obtain ⟨A3, c3, rfl, hl3, s3⟩ := Sts.of_own own3
      have S3 := Lib.hid s3
      have B3 := Lib.hid (below_chain HB.out b3)
      clear own3 hl3 s3 b3
      go_wp2_with fail
      refine (implSame_any n (minL zs).length zs (minL zs) HZ.out rfl A A3 c c3 _ (H1.out.below B3.out) S3.out hn).mono ?_
      rintro e w4 ⟨rfl, b4⟩
      have B4 := Lib.hid (below_chain B3.out b4)
      clear b4
      rw [← HF.out]
      go_wp2
      go_ret
      exact ⟨rfl, B4.out⟩

end Go.Proofs.Ytjnmpcfclkahlaa.hexes
