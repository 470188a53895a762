/-
  OutsOf on both sides.
-/
import Derived.Test.YtjplkoglibagkaaJ19
import Derived.Test.YtjplkoglibagkaaJ7

namespace Go.Proofs.Ytjplkoglibagkaa.hexes
open Go.RowKit

/-- The numbers below j of the OpOut nodes, in ascending order. -/
def outsTo (gs : List Nd) (j : Nat) : List Int := ((List.range j).filter (fun (i : Nat) => kindAt gs (i : Int) == 8)).map (fun (i : Nat) => (i : Int))
def outsG (gs : List Nd) : List Int := outsTo gs gs.length

theorem outsTo_step (gs : List Nd) (j : Nat) : outsTo gs (j + 1) = outsTo gs j ++ (if kindAt gs (j : Int) = 8 then [(j : Int)] else []) := by
  unfold outsTo
  rw [List.range_succ, List.filter_append, List.map_append]
  congr 1
  by_cases h : kindAt gs (j : Int) = 8
  · simp [h]
  · simp [h]
theorem outsTo_len (gs : List Nd) (j : Nat) : (outsTo gs j).length ≤ j := by
  unfold outsTo
  rw [List.length_map]
  exact Nat.le_trans (List.length_filter_le _ _) (by simp)

set_option maxRecDepth 100000 in
set_option maxHeartbeats 2000000 in
theorem specOutsG_any (gs : List Nd) (wk cp : Int) (A : Option Addr) (n c : Nat) (hl : gs.length = n) (hn : n ≤ 1048576) (w : World) (h : Nds w A gs) :
    Calls Try.prog 16 #[.agg #[.slice A n c, .int .i64 wk, .int .i64 cp]] w fun e w' => ∃ v, e = .returned v ∧ w'.ownsRow w.heap.size 3 1 v (outsG gs).length (isCells (outsG gs)) ∧ Below w.heap.size w w' := by
  obtain ⟨W, hW⟩ : ∃ W, w.alloc (.cells #[.slice A n c, .int .i64 wk, .int .i64 cp] 26) = W := ⟨_, rfl⟩
  have BW := Lib.hid (show Below w.heap.size w W by rw [← hW]; exact (Below.refl w.heap.size w).alloc (Nat.le_refl _) _)
  have KW := Lib.hid (show Blk W w.heap.size 26 #[.slice A n c, .int .i64 wk, .int .i64 cp] by rw [← hW]; exact Blk.new _ _ _)
  have H1 := Lib.hid (h.below BW.out)
  have HL := Lib.hid hl
  have SW := Lib.hid BW.out.size
  clear h hl
  go_enter Try.func16, Try.ntmps16
  go_wp2
  clear hW
  go_loopw [3, 4] (fun v i wr => ∃ (k m : Nat) (out : List Int), k ≤ n ∧ out.length = m ∧ out = outsTo gs k ∧ i = .int .i64 (k : Int) ∧ wr.ownsRow W.heap.size 3 1 v m (isCells out) ∧ Below W.heap.size W wr) (fun _ i _ => n - (intOf i).toNat)
  case atStart => exact ⟨0, 0, [], Nat.zero_le _, rfl, rfl, rfl, World.ownsRow_lit W #[] 0 (Nat.le_refl _) (by decide) rfl, (Below.refl _ _).alloc (Nat.le_refl _) _⟩
  case round =>
    obtain ⟨k, m, out, hk, hml, hout, rfl, hown, hb⟩ := hrel
    have ML := Lib.hid hml
    have HU := Lib.hid hout
    have HO := Lib.hid hown
    have HB := Lib.hid hb
    have hmn : m ≤ n := by
      have := outsTo_len gs k
      rw [← HU.out, ML.out] at this
      omega
    have KR := Lib.hid (KW.out.below hb)
    have r0 : wr.cell? ⟨w.heap.size, 0, none⟩ = some (.slice A n c) := by rw [KR.out.cell]; rfl
    clear hml hout hown hb
    by_cases hlt : k < n
    · have l1 : k < gs.length := by rw [HL.out]; exact hlt
      obtain ⟨b, off, kd, a, bb, zs, A1, n1, c1, rfl, hx, hz, hc1, hin, e0, e1, e2, e3⟩ := (H1.out.below HB.out).at l1
      have KA := Lib.hid (show kindAt gs (k : Int) = kd by rw [kindAt_of rfl l1, hx])
      have i0 : (0 : Int) ≤ (k : Int) := by omega
      have i1 : (k : Int) < (n : Int) := by omega
      clear hx hz hc1 hin l1 e1 e2 e3
      by_cases he : kd = 8
      · subst he
        have HS := Lib.hid (show out ++ [(k : Int)] = outsTo gs (k + 1) by rw [outsTo_step, ← HU.out, if_pos KA.out])
        clear HU
        go_wp2_with (at_builtin; refine wpList_append_is rfl (.tmp 20) (.tmp 22) (by rfl) W.heap.size _ m out (by rfl) (HO.out.alloc _) (some ⟨wr.heap.size, 0, none⟩) 1 1 [(k : Int)] (by rfl) (fun h => by cases h) rfl (is_new wr (k : Int)) (by omega) (Nat.le_trans HB.out.size (by simp)) ?_; intro v8 w8 own8 gr8)
        have hb8 := (HB.out.alloc HB.out.size _).grown gr8 (Nat.le_trans HB.out.size (by simp)) (own_ge HO.out)
        have O8 := Lib.hid own8
        have B8 := Lib.hid hb8
        clear own8 gr8 hb8 r0 e0
        go_wp2
        go_roundw
        case rel => exact ⟨k + 1, m + 1, out ++ [(k : Int)], by omega, by simp [ML.out], HS.out, by go_num, O8.out, B8.out⟩
        case measure => simp [intOf]; omega
      · have HS := Lib.hid (show out = outsTo gs (k + 1) by rw [outsTo_step, ← HU.out, KA.out, if_neg he]; simp)
        have hd : (kd == 8) = false := by simpa using he
        clear HU he
        go_wp2
        go_roundw
        case rel => exact ⟨k + 1, m, out, by omega, ML.out, HS.out, by go_num, HO.out, HB.out⟩
        case measure => simp [intOf]; omega
    · have hfin : out = outsG gs := by
        rw [HU.out]
        unfold outsG
        rw [HL.out, show k = n by omega]
      subst hfin
      have ML2 := ML.out
      subst ML2
      go_wp2
      go_ret
      exact ⟨_, rfl, own_base HO.out SW.out, below_chain BW.out HB.out⟩

set_option maxRecDepth 100000 in
set_option maxHeartbeats 2000000 in
theorem implOutsG_any (gs : List Nd) (wk cp : Int) (A : Option Addr) (n c : Nat) (hl : gs.length = n) (hn : n ≤ 1048576) (w : World) (h : Nds w A gs) :
    Calls Try.prog 15 #[.agg #[.slice A n c, .int .i64 wk, .int .i64 cp]] w fun e w' => ∃ v, e = .returned v ∧ w'.ownsRow w.heap.size 3 1 v (outsG gs).length (isCells (outsG gs)) ∧ Below w.heap.size w w' := by
  obtain ⟨W, hW⟩ : ∃ W, w.alloc (.cells #[.slice A n c, .int .i64 wk, .int .i64 cp] 26) = W := ⟨_, rfl⟩
  have BW := Lib.hid (show Below w.heap.size w W by rw [← hW]; exact (Below.refl w.heap.size w).alloc (Nat.le_refl _) _)
  have KW := Lib.hid (show Blk W w.heap.size 26 #[.slice A n c, .int .i64 wk, .int .i64 cp] by rw [← hW]; exact Blk.new _ _ _)
  have H1 := Lib.hid (h.below BW.out)
  have HL := Lib.hid hl
  have SW := Lib.hid BW.out.size
  have x0 : W.cell? ⟨w.heap.size, 0, none⟩ = some (.slice A n c) := by rw [KW.out.cell]; rfl
  clear h hl
  go_enter Try.func15, Try.ntmps15
  obtain ⟨W1, hW1⟩ : ∃ W1, W.alloc (.cells #[] 3) = W1 := ⟨_, rfl⟩
  have y0 : W1.cell? ⟨w.heap.size, 0, none⟩ = some (.slice A n c) := by rw [← hW1]; exact alloc_keep x0
  go_wp2
  subst hW1
  clear hW x0 y0
  go_loopw [3, 10] (fun v i wr => ∃ (k m : Nat) (out : List Int), k ≤ n ∧ out.length = m ∧ out = outsTo gs k ∧ i = .int .i64 (k : Int) ∧ wr.ownsRow W.heap.size 3 1 v m (isCells out) ∧ Below W.heap.size W wr) (fun _ i _ => n - (intOf i).toNat)
  case atStart => exact ⟨0, 0, [], Nat.zero_le _, rfl, rfl, rfl, World.ownsRow_lit W #[] 0 (Nat.le_refl _) (by decide) rfl, (Below.refl _ _).alloc (Nat.le_refl _) _⟩
  case round =>
    obtain ⟨k, m, out, hk, hml, hout, rfl, hown, hb⟩ := hrel
    have ML := Lib.hid hml
    have HU := Lib.hid hout
    have HO := Lib.hid hown
    have HB := Lib.hid hb
    have hmn : m ≤ n := by
      have := outsTo_len gs k
      rw [← HU.out, ML.out] at this
      omega
    clear hml hout hown hb
    by_cases hlt : k < n
    · have l1 : k < gs.length := by rw [HL.out]; exact hlt
      obtain ⟨b, off, kd, a, bb, zs, A1, n1, c1, rfl, hx, hz, hc1, hin, e0, e1, e2, e3⟩ := (H1.out.below HB.out).at l1
      have KA := Lib.hid (show kindAt gs (k : Int) = kd by rw [kindAt_of rfl l1, hx])
      have i0 : (0 : Int) ≤ (k : Int) := by omega
      have i1 : (k : Int) < (n : Int) := by omega
      obtain ⟨V, hV⟩ : ∃ V, wr.alloc (.cells #[.int .i64 kd, .int .i64 a, .int .i64 bb, .slice A1 n1 c1] 37) = V := ⟨_, rfl⟩
      have BV := Lib.hid (show Below wr.heap.size wr V by rw [← hV]; exact (Below.refl _ _).alloc (Nat.le_refl _) _)
      have B2 := Lib.hid (below_chain HB.out BV.out)
      have O2 := Lib.hid (own_below HO.out BV.out)
      have v0 : V.cell? ⟨wr.heap.size, 0, none⟩ = some (.int .i64 kd) := by rw [← hV]; simp
      clear hx hz hc1 hin l1
      by_cases he : kd = 8
      · subst he
        have HS := Lib.hid (show out ++ [(k : Int)] = outsTo gs (k + 1) by rw [outsTo_step, ← HU.out, if_pos KA.out])
        clear HU
        go_wp2_with (at_builtin; refine wpList_append_is rfl (.tmp 18) (.tmp 20) (by rfl) W.heap.size _ m out (by rfl) (O2.out.alloc _) (some ⟨V.heap.size, 0, none⟩) 1 1 [(k : Int)] (by rfl) (fun h => by cases h) rfl (is_new V (k : Int)) (by omega) (Nat.le_trans B2.out.size (by simp)) ?_; intro v8 w8 own8 gr8)
        have hb8 := (B2.out.alloc B2.out.size _).grown gr8 (Nat.le_trans B2.out.size (by simp)) (own_ge O2.out)
        have O8 := Lib.hid own8
        have B8 := Lib.hid hb8
        clear own8 gr8 hb8 e0 e1 e2 e3 v0 hV
        go_wp2
        go_roundw
        case rel => exact ⟨k + 1, m + 1, out ++ [(k : Int)], by omega, by simp [ML.out], HS.out, by go_num, O8.out, B8.out⟩
        case measure => simp [intOf]; omega
      · have HS := Lib.hid (show out = outsTo gs (k + 1) by rw [outsTo_step, ← HU.out, KA.out, if_neg he]; simp)
        have hd : (kd == 8) = false := by simpa using he
        clear HU he
        go_wp2
        go_roundw
        case rel => exact ⟨k + 1, m, out, by omega, ML.out, HS.out, by go_num, O2.out, B2.out⟩
        case measure => simp [intOf]; omega
    · have hfin : out = outsG gs := by
        rw [HU.out]
        unfold outsG
        rw [HL.out, show k = n by omega]
      subst hfin
      have ML2 := ML.out
      subst ML2
      go_wp2
      go_ret
      exact ⟨_, rfl, own_base HO.out SW.out, below_chain BW.out HB.out⟩

theorem outsG_len (gs : List Nd) : (outsG gs).length ≤ gs.length := outsTo_len gs gs.length
theorem specOutsG_row {gs : List Nd} {us : List Int} {m : Nat} (hu : outsG gs = us) (hm : us.length = m) (wk cp : Int) (A : Option Addr) (n c : Nat) (hl : gs.length = n) (hn : n ≤ 1048576) (w : World) (h : Nds w A gs) :
    Calls Try.prog 16 #[.agg #[.slice A n c, .int .i64 wk, .int .i64 cp]] w fun e w' => ∃ A1 c1, e = .returned (.slice A1 m c1) ∧ Row w' w.heap.size w'.heap.size 3 1 A1 m c1 (isCells us) ∧ Below w.heap.size w w' :=
  (specOutsG_any gs wk cp A n c hl hn w h).mono fun _ _ ⟨v, he, ho, hb⟩ => by
    rw [hu, hm] at ho
    obtain ⟨A1, c1, rfl, hr⟩ := row_of ho
    exact ⟨A1, c1, he, hr, hb⟩
theorem implOutsG_row {gs : List Nd} {us : List Int} {m : Nat} (hu : outsG gs = us) (hm : us.length = m) (wk cp : Int) (A : Option Addr) (n c : Nat) (hl : gs.length = n) (hn : n ≤ 1048576) (w : World) (h : Nds w A gs) :
    Calls Try.prog 15 #[.agg #[.slice A n c, .int .i64 wk, .int .i64 cp]] w fun e w' => ∃ A1 c1, e = .returned (.slice A1 m c1) ∧ Row w' w.heap.size w'.heap.size 3 1 A1 m c1 (isCells us) ∧ Below w.heap.size w w' :=
  (implOutsG_any gs wk cp A n c hl hn w h).mono fun _ _ ⟨v, he, ho, hb⟩ => by
    rw [hu, hm] at ho
    obtain ⟨A1, c1, rfl, hr⟩ := row_of ho
    exact ⟨A1, c1, he, hr, hb⟩

end Go.Proofs.Ytjplkoglibagkaa.hexes

