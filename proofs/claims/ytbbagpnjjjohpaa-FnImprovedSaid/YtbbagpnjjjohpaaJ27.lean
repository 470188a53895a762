/-
  The program's PutCell: the contracts of slices.Clone, slices.Grow and slices.Concat at cells, of the container's with, and of impl.PutCell.
-/
import Derived.Test.YtbbagpnjjjohpaaJ26

namespace Go.Proofs.Ytbbagpnjjjohpaa.hexes
open Go.RowKit Go.Shelf

theorem cloneCe_any (n : Nat) (zs : List Ce) (hz : zs.length = n) (A : Option Addr) (c : Nat) (hA : A = none → c = 0) (w : World) (h1 : Ces w A zs) (hn : n ≤ 4194304) :
    Calls Try.prog 78 #[.slice A n c] w fun e w' => ∃ v, e = .returned v ∧ w'.ownsRow w.heap.size 38 4 v n (ceCells zs) ∧ Below w.heap.size w w' := by
  cases A with
  | none =>
    obtain rfl := ces_none h1 hz
    obtain rfl := hA rfl
    obtain rfl := List.eq_nil_of_length_eq_zero hz
    clear h1 hz hA
    have q22 : ∀ (w : World) (a : Option Addr) (n c n' c' : Nat), (binOp .eql 30 (.slice a n c) (.slice none n' c')).run Try.prog w = .ok (.bool a.isNone) w := fun w a n c n' c' => Lib.run_eql_slice_nil w _ _ a n c n' c' Try.underlying30
    go_enter Try.func78, Try.ntmps78
    go_wp2
    go_ret
    exact ⟨_, rfl, World.ownsRow_nil _ _ _ _, Below.refl _ _⟩
  | some ad =>
    have hb := Below.alloc (Below.refl w.heap.size w) (Nat.le_refl _) (.cells #[] 38)
    have S := Lib.hid (h1.below hb)
    have HB := Lib.hid hb
    have HZ := Lib.hid hz
    clear h1 hz hA hb
    have q22 : ∀ (w : World) (a : Option Addr) (n c n' c' : Nat), (binOp .eql 30 (.slice a n c) (.slice none n' c')).run Try.prog w = .ok (.bool a.isNone) w := fun w a n c n' c' => Lib.run_eql_slice_nil w _ _ a n c n' c' Try.underlying30
    go_enter Try.func78, Try.ntmps78
    go_wp2_with (at_builtin; refine wpList_append_ce rfl (.tmp 5) (.tmp 6) (by rfl) w.heap.size (.slice (some ⟨w.heap.size, 0, none⟩) 0 0) 0 [] (by rfl) (World.ownsRow_lit w #[] 0 (Nat.le_refl _) (by decide) (by rfl)) (some ad) n c zs rfl (fun h => by cases h) HZ.out S.out (by omega) HB.out.size ?_; intro v' w2 own2 gr2)
    have hb2 := HB.out.grown gr2 HB.out.size (fun k hk => Nat.le_of_eq (Option.some.inj hk))
    rw [Nat.zero_add, List.nil_append] at own2
    have O2 := Lib.hid own2
    have B2 := Lib.hid hb2
    clear own2 gr2 hb2
    go_wp2
    go_ret
    exact ⟨_, rfl, O2.out, B2.out⟩

theorem zeros_size (z : Array Value) (n : Nat) : (Builtin.zeroCells z n).size = n * z.size := size_zeroCells z n

theorem growCe_any (k : Nat) (hk : k ≤ 4194304) (w : World) :
    Calls Try.prog 132 #[.slice none 0 0, .int .i64 (k : Int)] w fun e w' => ∃ v, e = .returned v ∧ w'.ownsRow w.heap.size 38 4 v 0 (ceCells []) ∧ Below w.heap.size w w' := by
  obtain ⟨i0, hi, hz0, hz1, hz2⟩ := info_parts ceinfo
  by_cases h0 : k = 0
  · subst h0
    have hcon := Any8.slices_Grow_room Try.growCe none 0 0 0 w (by omega) (by omega) (by omega) (by omega)
    change Calls Try.prog 132 _ _ _ at hcon
    refine hcon.mono ?_
    rintro e w' ⟨rfl, rfl⟩
    exact ⟨_, rfl, World.ownsRow_nil _ _ _ _, Below.refl _ _⟩
  · have hcon := Any8.slices_Grow_grow Try.growCe i0 (.agg #[.int .i64 0, .int .i64 0, .int .i64 0, .int .i64 0]) hi hz0 (by omega) none 0 0 k [] w (by omega) (by omega) (by rw [hz2]; omega) (by omega) (by simp) (fun _ => rfl) (fun a h => by cases h)
    change Calls Try.prog 132 _ _ _ at hcon
    refine hcon.mono ?_
    rintro e w' ⟨rfl, rfl⟩
    have hG1 := grownCap_ge w (0 + k) 0 38
    have hG2 := grownCap_le_maxLen w (0 + k) 0 38 (by unfold maxLen; omega)
    refine ⟨_, rfl, World.ownsRow_made w.drew _ _ (Nat.le_refl _) hG2 ?_, ((Below.refl _ w).drew).alloc (Nat.le_refl _) _⟩
    have hs : (Value.agg #[.int .i64 0, .int .i64 0, .int .i64 0, .int .i64 0]).cells.size = 4 := rfl
    rw [Array.size_append, Array.size_append, zeros_size, zeros_size, hs]
    change 0 + (0 + k - 0) * 4 + (grownCap w (0 + k) 0 38 - (0 + k)) * 4 = grownCap w (0 + k) 0 38 * 4
    omega

set_option maxRecDepth 100000 in
set_option maxHeartbeats 4000000 in
theorem concat3_any (n m r : Nat) (zs ys us : List Ce) (hz : zs.length = n) (hy : ys.length = m) (hu : us.length = r) (A1 A2 A3 : Option Addr) (c1 c2 c3 : Nat) (hA1 : A1 = none → c1 = 0) (hA2 : A2 = none → c2 = 0) (hA3 : A3 = none → c3 = 0) (w : World) (h1 : Ces w A1 zs) (h2 : Ces w A2 ys) (h3 : Ces w A3 us) (hn : n + m + r ≤ 4194304)
    (b : Nat) (e1 : w.cell? ⟨b, 0, none⟩ = some (.slice A1 n c1)) (e2 : w.cell? ⟨b, 1, none⟩ = some (.slice A2 m c2)) (e3 : w.cell? ⟨b, 2, none⟩ = some (.slice A3 r c3)) :
    Calls Try.prog 125 #[.slice (some ⟨b, 0, none⟩) 3 3] w fun e w' => ∃ v, e = .returned v ∧ w'.ownsRow w.heap.size 38 4 v (n + m + r) (ceCells (zs ++ ys ++ us)) ∧ Below w.heap.size w w' := by
  have H1 := Lib.hid h1
  have H2 := Lib.hid h2
  have H3 := Lib.hid h3
  have HZ := Lib.hid hz
  have HY := Lib.hid hy
  have HU := Lib.hid hu
  have HA1 := Lib.hid hA1
  have HA2 := Lib.hid hA2
  have HA3 := Lib.hid hA3
  have gr := growCe_any (n + m + r) hn w
  rw [Int.natCast_add, Int.natCast_add] at gr
  have GR := Lib.hid gr
  have E1 := Lib.hid e1
  have E2 := Lib.hid e2
  have E3 := Lib.hid e3
  clear h1 h2 h3 hz hy hu hA1 hA2 hA3 gr
  go_enter Try.func125, Try.ntmps125
  go_wp2
  go_loop [3, 11] (fun s i => (s = .int .i64 0 ∧ i = .int .i64 0) ∨ (s = .int .i64 (n : Int) ∧ i = .int .i64 1) ∨ (s = .int .i64 ((n : Int) + (m : Int)) ∧ i = .int .i64 2) ∨ (s = .int .i64 ((n : Int) + (m : Int) + (r : Int)) ∧ i = .int .i64 3)) (fun _ i => 3 - (intOf i).toNat)
  case atStart => exact .inl ⟨rfl, rfl⟩
  case round =>
    rcases hrel with ⟨rfl, rfl⟩ | ⟨rfl, rfl⟩ | ⟨rfl, rfl⟩ | ⟨rfl, rfl⟩
    · go_wp2
      go_round
      case rel => exact .inr (.inl ⟨by go_num, by go_num⟩)
      case measure => simp [intOf]
    · have q1 : IntKind.i64.wrap ((n : Int) + (m : Int)) = (n : Int) + (m : Int) := IntWalk.i64_in _ (by omega)
      have q2 : decide ((n : Int) + (m : Int) < 0) = false := by simp; omega
      go_wp2
      go_round
      case rel => exact .inr (.inr (.inl ⟨by go_num, by go_num⟩))
      case measure => simp [intOf]
    · have q1 : IntKind.i64.wrap ((n : Int) + (m : Int) + (r : Int)) = (n : Int) + (m : Int) + (r : Int) := IntWalk.i64_in _ (by omega)
      have q2 : decide ((n : Int) + (m : Int) + (r : Int) < 0) = false := by simp; omega
      go_wp2
      go_round
      case rel => exact .inr (.inr (.inr ⟨by go_num, by go_num⟩))
      case measure => simp [intOf]
    · go_wp2_with fail
      refine GR.out.mono ?_
      rintro e w1 ⟨v1, rfl, o1, b1⟩
      have f1 := below_keep b1 e1
      have f2 := below_keep b1 e2
      have f3 := below_keep b1 e3
      have O1 := Lib.hid o1
      have B1 := Lib.hid b1
      have F1 := Lib.hid f1
      have F2 := Lib.hid f2
      have F3 := Lib.hid f3
      clear o1 b1 f1 f2 f3 e1 e2 e3
      go_wp2_with fail
      go_loopw [6, 27] (fun v i wr => Below w.heap.size w wr ∧ ((i = .int .i64 0 ∧ wr.ownsRow w.heap.size 38 4 v 0 (ceCells [])) ∨ (i = .int .i64 1 ∧ wr.ownsRow w.heap.size 38 4 v n (ceCells zs)) ∨ (i = .int .i64 2 ∧ wr.ownsRow w.heap.size 38 4 v (n + m) (ceCells (zs ++ ys))) ∨ (i = .int .i64 3 ∧ wr.ownsRow w.heap.size 38 4 v (n + m + r) (ceCells (zs ++ ys ++ us))))) (fun _ i _ => 3 - (intOf i).toNat)
      case atStart => exact ⟨B1.out, .inl ⟨rfl, O1.out⟩⟩
      case round =>
        obtain ⟨hb, hc⟩ := hrel
        have e1 : wr.cell? ⟨b, 0, none⟩ = some (.slice A1 n c1) := below_keep hb E1.out
        have e2 : wr.cell? ⟨b, 1, none⟩ = some (.slice A2 m c2) := below_keep hb E2.out
        have e3 : wr.cell? ⟨b, 2, none⟩ = some (.slice A3 r c3) := below_keep hb E3.out
        have HB := Lib.hid hb
        clear hb
        rcases hc with ⟨rfl, o⟩ | ⟨rfl, o⟩ | ⟨rfl, o⟩ | ⟨rfl, o⟩
        · skip
          have O := Lib.hid o
          clear o
          go_wp2_with (at_builtin; refine wpList_append_ce rfl (.tmp 31) (.tmp 32) (by rfl) w.heap.size _ 0 ([]) (by rfl) O.out A1 n c1 zs (by rfl) HA1.out HZ.out (H1.out.below HB.out) (by omega) HB.out.size ?_; intro v8 w8 own8 gr8)
          have hb8 := HB.out.grown gr8 HB.out.size (own_ge O.out)
          rw [Nat.zero_add, List.nil_append] at own8
          have O8 := Lib.hid own8
          have B8 := Lib.hid hb8
          clear own8 gr8 hb8
          go_wp2
          go_roundw
          case rel => exact ⟨B8.out, .inr (.inl ⟨by go_num, O8.out⟩)⟩
          case measure => simp [intOf]
        · skip
          have O := Lib.hid o
          clear o
          go_wp2_with (at_builtin; refine wpList_append_ce rfl (.tmp 31) (.tmp 32) (by rfl) w.heap.size _ n (zs) (by rfl) O.out A2 m c2 ys (by rfl) HA2.out HY.out (H2.out.below HB.out) (by omega) HB.out.size ?_; intro v8 w8 own8 gr8)
          have hb8 := HB.out.grown gr8 HB.out.size (own_ge O.out)
          have O8 := Lib.hid own8
          have B8 := Lib.hid hb8
          clear own8 gr8 hb8
          go_wp2
          go_roundw
          case rel => exact ⟨B8.out, .inr (.inr (.inl ⟨by go_num, O8.out⟩))⟩
          case measure => simp [intOf]
        · skip
          have O := Lib.hid o
          clear o
          go_wp2_with (at_builtin; refine wpList_append_ce rfl (.tmp 31) (.tmp 32) (by rfl) w.heap.size _ (n + m) (zs ++ ys) (by rfl) O.out A3 r c3 us (by rfl) HA3.out HU.out (H3.out.below HB.out) (by omega) HB.out.size ?_; intro v8 w8 own8 gr8)
          have hb8 := HB.out.grown gr8 HB.out.size (own_ge O.out)
          have O8 := Lib.hid own8
          have B8 := Lib.hid hb8
          clear own8 gr8 hb8
          go_wp2
          go_roundw
          case rel => exact ⟨B8.out, .inr (.inr (.inr ⟨by go_num, O8.out⟩))⟩
          case measure => simp [intOf]
        · have O := Lib.hid o
          clear o
          go_wp2
          go_ret
          exact ⟨_, rfl, O.out, HB.out⟩

/-- What the call's own blocks hold: the container and the cell. -/
structure SW (V : World) (b : Nat) (A : Option Addr) (n c : Nat) (x0 x1 x2 x3 : Int) (w : World) : Prop where
  s0 : w.cell? ⟨b, 0, none⟩ = some (.slice A n c)
  x : XB (b + 1) x0 x1 x2 x3 w
  bel : Below V.heap.size V w
theorem SW.below {V : World} {b : Nat} {A : Option Addr} {n c : Nat} {x0 x1 x2 x3 : Int} {w w' : World} (h : SW V b A n c x0 x1 x2 x3 w) (hb : Below w.heap.size w w') : SW V b A n c x0 x1 x2 x3 w' := ⟨below_keep hb h.s0, h.x.below hb, below_chain h.bel hb⟩

set_option maxRecDepth 1000000 in
set_option maxHeartbeats 8000000 in
theorem sWith_any (n : Nat) (zs : List Ce) (hz : zs.length = n) (A : Option Addr) (c : Nat) (hA : A = none → c = 0) (hc : n ≤ c) (x0 x1 x2 x3 : Int) (w : World) (h1 : Ces w A zs) (hn : n ≤ 2097152) :
    Calls Try.prog 119 #[.agg #[.slice A n c, .func (.func 122) #[] #[]], .agg #[.int .i64 x0, .int .i64 x1, .int .i64 x2, .int .i64 x3]] w fun e w' => ∃ v, e = .returned v ∧ w'.ownsRow w.heap.size 38 4 v (putC zs (x0, x1, x2, x3)).length (ceCells (putC zs (x0, x1, x2, x3))) ∧ Below w.heap.size w w' := by
  have H1 := Lib.hid h1
  have HZ := Lib.hid hz
  have HA := Lib.hid hA
  have HC := Lib.hid hc
  clear h1 hz hA hc
  obtain ⟨V, hV⟩ : ∃ z, (w.alloc (.cells #[.slice A n c, .func (.func 122) #[] #[]] 144)).alloc (.cells #[.int .i64 x0, .int .i64 x1, .int .i64 x2, .int .i64 x3] 38) = z := ⟨_, rfl⟩
  have BV := Lib.hid (show Below w.heap.size w V by rw [← hV]; exact ((Below.refl _ _).alloc (by simp) _).alloc (by simp) _)
  have s0 : V.cell? ⟨w.heap.size, 0, none⟩ = some (.slice A n c) := by rw [← hV]; exact alloc_keep (by simp)
  have s1 : V.cell? ⟨w.heap.size, 1, none⟩ = some (.func (.func 122) #[] #[]) := by rw [← hV]; exact alloc_keep (by simp)
  have XV : XB (w.heap.size + 1) x0 x1 x2 x3 V := by rw [← hV]; exact ⟨by simp, by simp, by simp, by simp⟩
  have c0 := XV.c0
  have c1 := XV.c1
  have c2 := XV.c2
  have c3 := XV.c3
  have HX := Lib.hid XV
  have E := Lib.hid (sHas_any n zs HZ.out A c x0 x1 x2 x3 V (H1.out.below BV.out) (by omega))
  clear XV
  go_enter Try.func119, Try.ntmps119
  go_wp2_with fail
  clear hV
  refine E.out.mono ?_
  rintro e w1 ⟨rfl, b1⟩
  have B1 := Lib.hid (below_chain BV.out b1)
  have X1 := Lib.hid (HX.out.below b1)
  replace s0 := below_keep b1 s0
  replace s1 := below_keep b1 s1
  clear b1 E c0 c1 c2 c3 HX BV V
  cases hh : hasC zs (x0, x1, x2, x3) with
  | true =>
    have PI := Lib.hid (put_in hh)
    clear hh
    go_wp2_with fail
    refine (cloneCe_any n zs HZ.out A c HA.out w1 (H1.out.below B1.out) (by omega)).mono ?_
    rintro e w2 ⟨v, rfl, o2, b2⟩
    have OF := Lib.hid (show w2.ownsRow w.heap.size 38 4 v (putC zs (x0, x1, x2, x3)).length (ceCells (putC zs (x0, x1, x2, x3))) by rw [PI.out, HZ.out]; exact own_base o2 B1.out.size)
    have BF := Lib.hid (below_chain B1.out b2)
    clear o2 b2 s0 s1
    go_wp2
    go_ret
    exact ⟨_, rfl, OF.out, BF.out⟩
  | false =>
    have HN := Lib.hid hh
    have c0 := X1.out.c0
    have c1 := X1.out.c1
    have c2 := X1.out.c2
    have c3 := X1.out.c3
    clear hh
    go_wp2_with fail
    refine (sPlace_any n zs HZ.out A c x0 x1 x2 x3 w1 (H1.out.below B1.out) (by omega)).mono ?_
    rintro e w2 ⟨k, rfl, hp, b2⟩
    have B2 := Lib.hid (below_chain B1.out b2)
    have X2 := Lib.hid (X1.out.below b2)
    replace s0 := below_keep b2 s0
    have hk : k ≤ n := by rw [← HZ.out]; exact hp.le
    have PE := Lib.hid (put_at HN.out hp.le hp.lt hp.ge)
    clear b2 c0 c1 c2 c3 B1 X1 s1 hp
    obtain ⟨L, qL, hL, hT⟩ := slice_to A n c k (Nat.le_trans hk HC.out) HA.out
    obtain ⟨T, qT, hTn, hD⟩ := slice_from A n c k hk HC.out HA.out
    have HL := Lib.hid hL
    have HT := Lib.hid hT
    have HDN := Lib.hid hTn
    have HD := Lib.hid hD
    clear hL hT hTn hD
    obtain ⟨V, hV⟩ : ∃ z, w2.drew = z := ⟨_, rfl⟩
    have BV := Lib.hid (show Below w.heap.size w V by rw [← hV]; exact B2.out.drew)
    have SV := Lib.hid (show SW V w.heap.size A n c x0 x1 x2 x3 V by rw [← hV]; exact ⟨drew_keep s0, X2.out.drew, Below.refl _ _⟩)
    go_wp2_with fail
    clear s0
    refine wp_region_held_drew (S := SW V w.heap.size A n c x0 x1 x2 x3) (by kernel_rfl) ?_ (fun hHeld => ?_)
    · skip
      rw [hV]; exact SV.out
    change wpAnyH _ _ opsT4 _ _ 13 (LT4 0) _ _
    rw [hV] at hHeld ⊢
    clear hV
    refine regY tT4_0 (.pointer (some ⟨w.heap.size, 0, none⟩)) (fun W hSw => by unfold qT4_0; go_simp) hHeld ?_
    try simp only [pt, List.set]
    refine regY tT4_1 (.slice A n c) (fun W hSw => by unfold qT4_1; obtain ⟨s0, ⟨c0, c1, c2, c3⟩, _⟩ := hSw; go_simp) hHeld ?_
    try simp only [pt, List.set]
    refine regY tT4_2 (.int .i64 (k : Int)) (fun W hSw => by unfold qT4_2; go_simp) hHeld ?_
    try simp only [pt, List.set]
    refine regY tT4_3 (.slice L k c) (fun W hSw => by unfold qT4_3; go_simp) hHeld ?_
    try simp only [pt, List.set]
    refine regY tT4_4 (.agg #[.int .i64 x0, .int .i64 x1, .int .i64 x2, .int .i64 x3]) (fun W hSw => by unfold qT4_4; obtain ⟨s0, ⟨c0, c1, c2, c3⟩, _⟩ := hSw; go_simp) hHeld ?_
    try simp only [pt, List.set]
    refine regY tT4_5 (.pointer (some ⟨w.heap.size, 0, none⟩)) (fun W hSw => by unfold qT4_6; go_simp) hHeld ?_
    try simp only [pt, List.set]
    refine regY tT4_6 (.slice A n c) (fun W hSw => by unfold qT4_7; obtain ⟨s0, ⟨c0, c1, c2, c3⟩, _⟩ := hSw; go_simp) hHeld ?_
    try simp only [pt, List.set]
    refine regY tT4_7 (.int .i64 (k : Int)) (fun W hSw => by unfold qT4_8; go_simp) hHeld ?_
    try simp only [pt, List.set]
    refine regY tT4_8 (.slice T (n - k) (c - k)) (fun W hSw => by unfold qT4_9; go_simp) hHeld ?_
    try simp only [pt, List.set]
    refine cT4_9 (fun K hK => ?_)
    rw [if_pos (by rfl)]
    unfold qT4_5
    go_simp
    obtain ⟨g, hg⟩ : ∃ g, g = V.heap.size := ⟨_, rfl⟩
    rw [← hg]
    generalize hU : World.alloc _ _ = U
    have bU : Below V.heap.size V U := by rw [← hU]; exact (Below.refl _ _).alloc (Nat.le_refl _) _
    have NU := Lib.hid (show Ces U (some ⟨g, 0, none⟩) [(x0, x1, x2, x3)] by rw [← hU, hg]; exact ce_new _ _ _ _ _)
    have HU := hHeld.below bU
    clear hU hg bU
    refine Shut.out hK _ _ ?_ (fun hHeld => ?_)
    · exact HU
    clear hK K
    try simp only [pt, List.set]
    refine cT4_10 (fun K hK => ?_)
    rw [if_pos (by rfl)]
    unfold qT4_10
    go_simp
    obtain ⟨h, hh⟩ : ∃ h, h = U.heap.size := ⟨_, rfl⟩
    rw [← hh]
    generalize hZ : World.alloc _ _ = Z
    have bZ : Below U.heap.size U Z := by rw [← hZ]; exact (Below.refl _ _).alloc (Nat.le_refl _) _
    have z0 : Z.cell? ⟨h, 0, none⟩ = some (.slice L k c) := by rw [← hZ, hh]; simp
    have z1 : Z.cell? ⟨h, 1, none⟩ = some (.slice (some ⟨g, 0, none⟩) 1 1) := by rw [← hZ, hh]; simp
    have z2 : Z.cell? ⟨h, 2, none⟩ = some (.slice T (n - k) (c - k)) := by rw [← hZ, hh]; simp
    have NZ := Lib.hid (NU.out.below bZ)
    have HZ3 := hHeld.below bZ
    clear hZ hh bZ
    refine Shut.out hK _ _ ?_ (fun hHeld => ?_)
    · exact HZ3
    clear hK K
    try simp only [pt, List.set]
    refine cT4_11 (fun K hK => ?_)
    rw [if_pos (by rfl)]
    unfold qT4_11
    go_simp
    have BZ := below_chain BV.out hHeld.bel
    refine (concat3_any k 1 (n - k) (zs.take k) [(x0, x1, x2, x3)] (zs.drop k) (by rw [List.length_take, HZ.out]; omega) rfl (by rw [List.length_drop, HZ.out]) L (some ⟨g, 0, none⟩) T c 1 (c - k) HL.out (fun h => by cases h) HDN.out Z (HT.out _ _ (H1.out.below BZ)) NZ.out (HD.out _ _ HZ.out (H1.out.below BZ)) (by omega) h z0 z1 z2).mono ?_
    rintro e w9 ⟨vr, rfl, o9, b9⟩
    have O9 := Lib.hid (own_base o9 BZ.size)
    have HW := hHeld.below b9
    clear o9 b9 BZ z0 z1 z2
    refine Shut.out hK _ _ ?_ (fun hHeld => ?_)
    · exact HW
    clear hK K
    try simp only [pt, List.set]
    refine regY tT4_12 (vr) (fun W hSw => by unfold qT4_12; go_simp) hHeld ?_
    try simp only [pt, List.set]
    refine wpAnyH_done (by kernel_rfl) ?_ _
    have OF := Lib.hid (show w9.ownsRow w.heap.size 38 4 vr (putC zs (x0, x1, x2, x3)).length (ceCells (putC zs (x0, x1, x2, x3))) by
      have e1 := PE.out
      have e2 : (putC zs (x0, x1, x2, x3)).length = k + 1 + (n - k) := by rw [e1, List.length_append, List.length_cons, List.length_take, List.length_drop, HZ.out]; omega
      rw [e2, e1]
      have o := O9.out
      rw [List.append_assoc] at o
      exact o)
    have BF := Lib.hid (below_chain BV.out hHeld.bel)
    clear hHeld
    go_wp2
    go_ret
    exact ⟨_, rfl, OF.out, BF.out⟩

set_option maxRecDepth 100000 in
set_option maxHeartbeats 4000000 in
theorem implPut_any (n : Nat) (zs : List Ce) (hz : zs.length = n) (A : Option Addr) (c : Nat) (hA : A = none → c = 0) (hc : n ≤ c) (x0 x1 x2 x3 : Int) (w : World) (h1 : Ces w A zs) (hn : n ≤ 2097152) :
    Calls Try.prog 106 #[.slice A n c, .agg #[.int .i64 x0, .int .i64 x1, .int .i64 x2, .int .i64 x3]] w fun e w' => ∃ v, e = .returned v ∧ w'.ownsRow w.heap.size 38 4 v (putC zs (x0, x1, x2, x3)).length (ceCells (putC zs (x0, x1, x2, x3))) ∧ Below w.heap.size w w' := by
  have H1 := Lib.hid h1
  have HZ := Lib.hid hz
  have HA := Lib.hid hA
  have HC := Lib.hid hc
  clear h1 hz hA hc
  obtain ⟨V, hV⟩ : ∃ z, (w.alloc (.cells #[.int .i64 x0, .int .i64 x1, .int .i64 x2, .int .i64 x3] 38)).drew = z := ⟨_, rfl⟩
  have BV := Lib.hid (show Below w.heap.size w V by rw [← hV]; exact ((Below.refl _ _).alloc (Nat.le_refl _) _).drew)
  have XV := Lib.hid (show XW V w.heap.size x0 x1 x2 x3 V by rw [← hV]; exact ⟨(XB.new _ _ _ _ _).drew, Below.refl _ _⟩)
  go_enter Try.func106, Try.ntmps106
  go_wp2_with fail
  refine wp_region_held_drew (S := XW V w.heap.size x0 x1 x2 x3) (by kernel_rfl) ?_ (fun hHeld => ?_)
  · skip
    rw [hV]; exact XV.out
  change wpAnyH _ _ opsU2 _ _ 5 (LU2 0) _ _
  rw [hV] at hHeld ⊢
  clear hV
  refine regY tU2_0 (.slice A n c) (fun W hSw => by unfold qU2_0; go_simp) hHeld ?_
  try simp only [pt, List.set]
  refine regY tU2_1 (.agg #[.int .i64 x0, .int .i64 x1, .int .i64 x2, .int .i64 x3]) (fun W hSw => by unfold qU2_2; obtain ⟨⟨c0, c1, c2, c3⟩, _⟩ := hSw; go_simp) hHeld ?_
  try simp only [pt, List.set]
  refine cU2_2 (fun K hK => ?_)
  rw [if_pos (by rfl)]
  unfold qU2_1
  go_simp
  refine (sorted_any A n c _).mono ?_
  rintro e w5 ⟨rfl, b5⟩
  refine Shut.out hK _ _ ?_ (fun hHeld => ?_)
  · exact hHeld.below b5
  clear hK K
  try simp only [pt, List.set]
  refine cU2_3 (fun K hK => ?_)
  rw [if_pos (by rfl)]
  unfold qU2_3
  go_simp
  refine (sWith_any n zs HZ.out A c HA.out HC.out x0 x1 x2 x3 w5 (H1.out.below (below_chain BV.out hHeld.bel)) (by omega)).mono ?_
  rintro e w6 ⟨v, rfl, o6, b6⟩
  have O6 := Lib.hid (own_base o6 (below_chain BV.out hHeld.bel).size)
  clear o6
  refine Shut.out hK _ _ ?_ (fun hHeld => ?_)
  · exact hHeld.below b6
  clear hK K
  try simp only [pt, List.set]
  refine regY tU2_4 (v) (fun W hSw => by unfold qU2_4; go_simp) hHeld ?_
  try simp only [pt, List.set]
  refine wpAnyH_done (by kernel_rfl) ?_ _
  have B6 := Lib.hid (below_chain BV.out hHeld.bel)
  clear hHeld
  go_wp2
  go_ret
  exact ⟨_, rfl, O6.out, B6.out⟩
end Go.Proofs.Ytbbagpnjjjohpaa.hexes

