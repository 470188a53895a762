/-
  RecordText on both sides: the contracts of spec.RecordText and impl.RecordText.
-/
import Derived.Test.YtdmbkjebagnloaaGreatDoorJ27
import Derived.Test.YtdmbkjebagnloaaGreatDoorRcList
import Derived.OpenShut
import Derived.Test.YtdmbkjebagnloaaGreatDoorRegX1
import Derived.Lib.Join

namespace Go.Proofs.YtdmbkjebagnloaaGreatDoor.hexes
open Go.RowKit

/-- What RecordText answers. -/
def rcText (z : Rc) : ByteArray := (((((⟨(Lib.itoa z.1).toArray⟩ ++ ⟨#[58]⟩) ++ dotText z.2.1.1 z.2.1.2) ++ ⟨#[58]⟩) ++ ⟨(Lib.itoa z.2.2.1).toArray⟩) ++ ⟨#[58]⟩) ++ ⟨(Lib.itoa z.2.2.2).toArray⟩
theorem dec_size {x : Int} (hx : I64 x) : (ByteArray.mk (Lib.itoa x).toArray).size ≤ 21 := by
  rw [show (ByteArray.mk (Lib.itoa x).toArray).size = (Lib.itoa x).length from List.size_toArray]; exact Lib.itoa_length_le x hx.1 hx.2
theorem dot_size {x y : Int} (hx : I64 x) (hy : I64 y) : (dotText x y).size ≤ 43 := by
  have h1 := dec_size hx
  have h2 := dec_size hy
  unfold dotText
  rw [ByteArray.size_append, ByteArray.size_append, show (ByteArray.mk #[46]).size = 1 from rfl]
  omega

set_option maxRecDepth 100000 in
set_option maxHeartbeats 2000000 in
theorem specRcText_any (p0 p1 p2 p3 p4 : Int) (h0 : I64 p0) (h1 : I64 p1) (h2 : I64 p2) (h3 : I64 p3) (h4 : I64 p4) (w : World) :
    Calls Tryz.prog 19 #[.agg #[.int .i64 p0, .int .i64 p1, .int .i64 p2, .int .i64 p3, .int .i64 p4]] w fun e w' => e = .returned (.string (rcText (p0, (p1, p2), p3, p4))) ∧ Below w.heap.size w w' := by
  have s0 := dec_size h0
  have s1 := dot_size h1 h2
  have s3 := dec_size h3
  have s4 := dec_size h4
  have D0 : ∀ W : World, Calls Tryz.prog 42 #[.int .i64 p0] W fun e w' => e = .returned (.string ⟨(Lib.itoa p0).toArray⟩) ∧ Below W.heap.size W w' := fun W => specDec_any p0 h0.1 h0.2 W
  have D1 : ∀ W : World, Calls Tryz.prog 43 #[.agg #[.int .i64 p1, .int .i64 p2]] W fun e w' => e = .returned (.string (dotText p1 p2)) ∧ Below W.heap.size W w' := fun W => specText_any p1 p2 h1 h2 W
  have D3 : ∀ W : World, Calls Tryz.prog 42 #[.int .i64 p3] W fun e w' => e = .returned (.string ⟨(Lib.itoa p3).toArray⟩) ∧ Below W.heap.size W w' := fun W => specDec_any p3 h3.1 h3.2 W
  have D4 : ∀ W : World, Calls Tryz.prog 42 #[.int .i64 p4] W fun e w' => e = .returned (.string ⟨(Lib.itoa p4).toArray⟩) ∧ Below W.heap.size W w' := fun W => specDec_any p4 h4.1 h4.2 W
  unfold rcText
  dsimp only
  generalize ByteArray.mk (Lib.itoa p0).toArray = t0 at *
  generalize dotText p1 p2 = t1 at *
  generalize ByteArray.mk (Lib.itoa p3).toArray = t3 at *
  generalize ByteArray.mk (Lib.itoa p4).toArray = t4 at *
  have E0 := Lib.hid D0
  have E1 := Lib.hid D1
  have E3 := Lib.hid D3
  have E4 := Lib.hid D4
  clear h0 h1 h2 h3 h4 D0 D1 D3 D4
  have q1 : ¬9223372036854775807 < t0.size + 1 := by omega
  have q2 : ¬9223372036854775807 < t0.size + 1 + t1.size := by omega
  have q3 : ¬9223372036854775807 < t0.size + 1 + t1.size + 1 := by omega
  have q4 : ¬9223372036854775807 < t0.size + 1 + t1.size + 1 + t3.size := by omega
  have q5 : ¬9223372036854775807 < t0.size + 1 + t1.size + 1 + t3.size + 1 := by omega
  have q6 : ¬9223372036854775807 < t0.size + 1 + t1.size + 1 + t3.size + 1 + t4.size := by omega
  go_enter Tryz.func19, Tryz.ntmps19
  go_wp2_with fail
  go_region_held3 (fun w' => w'.cell? ⟨w.heap.size, 0, none⟩ = some (.int .i64 p0) ∧ w'.cell? ⟨w.heap.size, 1, none⟩ = some (.int .i64 p1) ∧ w'.cell? ⟨w.heap.size, 2, none⟩ = some (.int .i64 p2) ∧ w'.cell? ⟨w.heap.size, 3, none⟩ = some (.int .i64 p3) ∧ w'.cell? ⟨w.heap.size, 4, none⟩ = some (.int .i64 p4))
    (((try go_split_ands); refine ⟨?_, ?_, ?_, ?_, ?_⟩ <;> (repeat (first | with_reducible assumption | with_reducible refine drew_keep ?_ | with_reducible refine below_keep hbd ?_ | with_reducible exact alloc_cells rfl rfl))))
    (first | (go_at_call 42; (try go_split_ands); with_reducible refine (E0.out _).mono ?_; rintro e w2 ⟨rfl, hbd⟩; have hb0 := hbd) | (go_at_call 43; (try go_split_ands); with_reducible refine (E1.out _).mono ?_; rintro e w2 ⟨rfl, hbd⟩; have hb1 := hbd) | (go_at_call 42; (try go_split_ands); with_reducible refine (E3.out _).mono ?_; rintro e w2 ⟨rfl, hbd⟩; have hb3 := hbd) | (go_at_call 42; (try go_split_ands); with_reducible refine (E4.out _).mono ?_; rintro e w2 ⟨rfl, hbd⟩; have hb4 := hbd))
  go_wp2_with fail
  go_ret
  exact ⟨rfl, below_chain (below_chain (below_chain (below_chain (((Below.refl _ _).alloc (Nat.le_refl _) _).drew) hb0) hb1) hb3) hb4⟩

theorem join_text (t0 t1 t3 t4 : ByteArray) : ByteArray.mk (Lib.join ([t0, t1, t3, t4].map (·.data.toList)) [58]).toArray = (((((t0 ++ ⟨#[58]⟩) ++ t1) ++ ⟨#[58]⟩) ++ t3) ++ ⟨#[58]⟩) ++ t4 := by
  apply ByteArray.ext
  apply Array.ext'
  simp [Lib.join, List.intercalate, ByteArray.data_append]
theorem join4_any (t0 t1 t3 t4 : ByteArray) (h0 : t0.size ≤ 100) (h1 : t1.size ≤ 100) (h3 : t3.size ≤ 100) (h4 : t4.size ≤ 100) (g : Nat) (w : World) (hg : g < w.heap.size)
    (e0 : w.cell? ⟨g, 0, none⟩ = some (.string t0)) (e1 : w.cell? ⟨g, 1, none⟩ = some (.string t1)) (e2 : w.cell? ⟨g, 2, none⟩ = some (.string t3)) (e3 : w.cell? ⟨g, 3, none⟩ = some (.string t4)) :
    Calls Tryz.prog 39 #[.slice (some ⟨g, 0, none⟩) 4 4, .string ⟨#[58]⟩] w fun e w' => e = .returned (.string ((((((t0 ++ ⟨#[58]⟩) ++ t1) ++ ⟨#[58]⟩) ++ t3) ++ ⟨#[58]⟩) ++ t4)) ∧ Below w.heap.size w w' := by
  have hl : (Lib.join ([t0, t1, t3, t4].map (·.data.toList)) [58]).length ≤ 1000 := by
    have q : ∀ t : ByteArray, t.data.toList.length = t.size := fun t => by rw [Array.length_toList]; rfl
    rw [List.map_cons, Lib.join_length]
    simp only [Lib.lens, List.map_cons, List.map_nil, List.sum_cons, List.sum_nil, q, List.length_cons, List.length_nil]
    omega
  have h := Tryz.strings_Join g 0 4 [t0, t1, t3, t4] ⟨#[58]⟩ w (fun j x hx => by
    match j, hx with
    | 0, hx => cases hx; exact e0
    | 1, hx => cases hx; exact e1
    | 2, hx => cases hx; exact e2
    | 3, hx => cases hx; exact e3
    | j + 4, hx => simp at hx) hg (show 4 ≤ 140737488355328 by omega) (show 4 ≤ 4 by omega) (Nat.le_trans hl (by omega))
  refine h.mono ?_
  rintro e w' ⟨rfl, hb⟩
  exact ⟨congrArg (fun t => Ending.returned (Value.string t)) (join_text t0 t1 t3 t4), hb⟩

/-- What RecordText reads: the record, the table of powers. -/
structure HeldT (b : Nat) (p0 p1 p2 p3 p4 : Int) (w : World) : Prop where
  c0 : w.cell? ⟨b, 0, none⟩ = some (.int .i64 p0)
  c1 : w.cell? ⟨b, 1, none⟩ = some (.int .i64 p1)
  c2 : w.cell? ⟨b, 2, none⟩ = some (.int .i64 p2)
  c3 : w.cell? ⟨b, 3, none⟩ = some (.int .i64 p3)
  c4 : w.cell? ⟨b, 4, none⟩ = some (.int .i64 p4)
  tb : Lib.TabIs Tryz.prog w "internal/strconv.uint64pow10" .u64 Lib.pow10Tab
theorem HeldT.below {b : Nat} {p0 p1 p2 p3 p4 : Int} {w w' : World} (h : HeldT b p0 p1 p2 p3 p4 w) (hb : Below w.heap.size w w') : HeldT b p0 p1 p2 p3 p4 w' := ⟨below_keep hb h.c0, below_keep hb h.c1, below_keep hb h.c2, below_keep hb h.c3, below_keep hb h.c4, pow10_below h.tb hb⟩

set_option maxRecDepth 100000 in
set_option maxHeartbeats 2000000 in
theorem implRcText_any (p0 p1 p2 p3 p4 : Int) (h0 : I64 p0) (h1 : I64 p1) (h2 : I64 p2) (h3 : I64 p3) (h4 : I64 p4) (w : World) (htab : Lib.TabIs Tryz.prog w "internal/strconv.uint64pow10" .u64 Lib.pow10Tab) :
    Calls Tryz.prog 18 #[.agg #[.int .i64 p0, .int .i64 p1, .int .i64 p2, .int .i64 p3, .int .i64 p4]] w fun e w' => e = .returned (.string (rcText (p0, (p1, p2), p3, p4))) ∧ Below w.heap.size w w' := by
  have s0 := dec_size h0
  have s1 := dot_size h1 h2
  have s3 := dec_size h3
  have s4 := dec_size h4
  have D0 : ∀ W : World, Lib.TabIs Tryz.prog W "internal/strconv.uint64pow10" .u64 Lib.pow10Tab → Calls Tryz.prog 40 #[.int .i64 p0] W fun e w' => e = .returned (.string ⟨(Lib.itoa p0).toArray⟩) ∧ Below W.heap.size W w' := fun W h => implDec_any p0 h0.1 h0.2 W h
  have D1 : ∀ W : World, Lib.TabIs Tryz.prog W "internal/strconv.uint64pow10" .u64 Lib.pow10Tab → Calls Tryz.prog 41 #[.agg #[.int .i64 p1, .int .i64 p2]] W fun e w' => e = .returned (.string (dotText p1 p2)) ∧ Below W.heap.size W w' := fun W h => implText_any p1 p2 h1 h2 W h
  have D3 : ∀ W : World, Lib.TabIs Tryz.prog W "internal/strconv.uint64pow10" .u64 Lib.pow10Tab → Calls Tryz.prog 40 #[.int .i64 p3] W fun e w' => e = .returned (.string ⟨(Lib.itoa p3).toArray⟩) ∧ Below W.heap.size W w' := fun W h => implDec_any p3 h3.1 h3.2 W h
  have D4 : ∀ W : World, Lib.TabIs Tryz.prog W "internal/strconv.uint64pow10" .u64 Lib.pow10Tab → Calls Tryz.prog 40 #[.int .i64 p4] W fun e w' => e = .returned (.string ⟨(Lib.itoa p4).toArray⟩) ∧ Below W.heap.size W w' := fun W h => implDec_any p4 h4.1 h4.2 W h
  unfold rcText
  dsimp only
  generalize ByteArray.mk (Lib.itoa p0).toArray = t0 at *
  generalize dotText p1 p2 = t1 at *
  generalize ByteArray.mk (Lib.itoa p3).toArray = t3 at *
  generalize ByteArray.mk (Lib.itoa p4).toArray = t4 at *
  have J0 := fun g W hg a b c d => join4_any t0 t1 t3 t4 (by omega) (by omega) (by omega) (by omega) g W hg a b c d
  generalize ((((((t0 ++ ⟨#[58]⟩) ++ t1) ++ ⟨#[58]⟩) ++ t3) ++ ⟨#[58]⟩) ++ t4) = tt at *
  have J := Lib.hid J0
  have E0 := Lib.hid D0
  have E1 := Lib.hid D1
  have E3 := Lib.hid D3
  have E4 := Lib.hid D4
  have B1 := Lib.hid (((Below.refl w.heap.size w).alloc (Nat.le_refl _) (.cells #[.int .i64 p0, .int .i64 p1, .int .i64 p2, .int .i64 p3, .int .i64 p4] 32)).drew)
  have S0 := Lib.hid (show HeldT w.heap.size p0 p1 p2 p3 p4 (w.alloc (.cells #[.int .i64 p0, .int .i64 p1, .int .i64 p2, .int .i64 p3, .int .i64 p4] 32)).drew from ⟨drew_keep (by simp), drew_keep (by simp), drew_keep (by simp), drew_keep (by simp), drew_keep (by simp), pow10_below htab (((Below.refl _ _).alloc (Nat.le_refl _) _).drew)⟩)
  clear h0 h1 h2 h3 h4 D0 D1 D3 D4 s0 s1 s3 s4 htab J0
  go_enter Tryz.func18, Tryz.ntmps18
  go_wp2_with fail
  refine wp_region_held_drew (S := HeldT w.heap.size p0 p1 p2 p3 p4) (by kernel_rfl) ?_ (fun hHeld => ?_)
  · skip
    exact S0.out
  change wpAnyH _ _ opsX1 _ _ 15 (LX1 0) _ _
  refine tX1_0 (.pointer (some ⟨w.heap.size, 0, none⟩)) (fun _ _ _ h => h) (Or.inl ⟨by rfl, fun W hSw => ?_⟩) hHeld ?_
  · skip
    unfold qX1_0
    go_simp
  try simp only [Act.put, List.setIfInBounds_toArray, List.set_cons_zero, List.set_cons_succ]
  refine tX1_1 (.int .i64 p0) (fun _ _ _ h => h) (Or.inl ⟨by rfl, fun W hSw => ?_⟩) hHeld ?_
  · skip
    unfold qX1_1
    obtain ⟨c0, c1, c2, c3, c4, tb⟩ := hSw
    go_simp
  try simp only [Act.put, List.setIfInBounds_toArray, List.set_cons_zero, List.set_cons_succ]
  refine tX1_2 (.pointer (some ⟨w.heap.size, 1, none⟩)) (fun _ _ _ h => h) (Or.inl ⟨by rfl, fun W hSw => ?_⟩) hHeld ?_
  · skip
    unfold qX1_3
    go_simp
  try simp only [Act.put, List.setIfInBounds_toArray, List.set_cons_zero, List.set_cons_succ]
  refine tX1_3 (.agg #[.int .i64 p1, .int .i64 p2]) (fun _ _ _ h => h) (Or.inl ⟨by rfl, fun W hSw => ?_⟩) hHeld ?_
  · skip
    unfold qX1_4
    obtain ⟨c0, c1, c2, c3, c4, tb⟩ := hSw
    go_simp
  try simp only [Act.put, List.setIfInBounds_toArray, List.set_cons_zero, List.set_cons_succ]
  refine tX1_4 (.pointer (some ⟨w.heap.size, 3, none⟩)) (fun _ _ _ h => h) (Or.inl ⟨by rfl, fun W hSw => ?_⟩) hHeld ?_
  · skip
    unfold qX1_6
    go_simp
  try simp only [Act.put, List.setIfInBounds_toArray, List.set_cons_zero, List.set_cons_succ]
  refine tX1_5 (.int .i64 p3) (fun _ _ _ h => h) (Or.inl ⟨by rfl, fun W hSw => ?_⟩) hHeld ?_
  · skip
    unfold qX1_7
    obtain ⟨c0, c1, c2, c3, c4, tb⟩ := hSw
    go_simp
  try simp only [Act.put, List.setIfInBounds_toArray, List.set_cons_zero, List.set_cons_succ]
  refine tX1_6 (.pointer (some ⟨w.heap.size, 4, none⟩)) (fun _ _ _ h => h) (Or.inl ⟨by rfl, fun W hSw => ?_⟩) hHeld ?_
  · skip
    unfold qX1_9
    go_simp
  try simp only [Act.put, List.setIfInBounds_toArray, List.set_cons_zero, List.set_cons_succ]
  refine tX1_7 (.int .i64 p4) (fun _ _ _ h => h) (Or.inl ⟨by rfl, fun W hSw => ?_⟩) hHeld ?_
  · skip
    unfold qX1_10
    obtain ⟨c0, c1, c2, c3, c4, tb⟩ := hSw
    go_simp
  try simp only [Act.put, List.setIfInBounds_toArray, List.set_cons_zero, List.set_cons_succ]
  refine cX1_8 (fun K hK => ?_)
  rw [if_pos (by rfl)]
  unfold qX1_2
  go_simp
  refine (E0.out _ hHeld.tb).mono ?_
  rintro e w2 ⟨rfl, hb2⟩
  have B2 := Lib.hid (below_chain B1.out hb2)
  refine Shut.out hK _ _ ?_ (fun hHeld => ?_)
  · exact hHeld.below hb2
  clear hb2
  clear hK K
  try simp only [Act.put, List.setIfInBounds_toArray, List.set_cons_zero, List.set_cons_succ]
  refine cX1_9 (fun K hK => ?_)
  rw [if_pos (by rfl)]
  unfold qX1_5
  go_simp
  refine (E1.out _ hHeld.tb).mono ?_
  rintro e w3 ⟨rfl, hb3⟩
  have B3 := Lib.hid (below_chain B2.out hb3)
  refine Shut.out hK _ _ ?_ (fun hHeld => ?_)
  · exact hHeld.below hb3
  clear hb3
  clear hK K
  try simp only [Act.put, List.setIfInBounds_toArray, List.set_cons_zero, List.set_cons_succ]
  refine cX1_10 (fun K hK => ?_)
  rw [if_pos (by rfl)]
  unfold qX1_8
  go_simp
  refine (E3.out _ hHeld.tb).mono ?_
  rintro e w4 ⟨rfl, hb4⟩
  have B4 := Lib.hid (below_chain B3.out hb4)
  refine Shut.out hK _ _ ?_ (fun hHeld => ?_)
  · exact hHeld.below hb4
  clear hb4
  clear hK K
  try simp only [Act.put, List.setIfInBounds_toArray, List.set_cons_zero, List.set_cons_succ]
  refine cX1_11 (fun K hK => ?_)
  rw [if_pos (by rfl)]
  unfold qX1_11
  go_simp
  refine (E4.out _ hHeld.tb).mono ?_
  rintro e w5 ⟨rfl, hb5⟩
  have B5 := Lib.hid (below_chain B4.out hb5)
  refine Shut.out hK _ _ ?_ (fun hHeld => ?_)
  · exact hHeld.below hb5
  clear hb5
  clear hK K
  try simp only [Act.put, List.setIfInBounds_toArray, List.set_cons_zero, List.set_cons_succ]
  refine cX1_12 (fun K hK => ?_)
  rw [if_pos (by rfl)]
  unfold qX1_12
  go_simp
  refine Shut.out hK _ _ ?_ (fun hHeld => ?_)
  · exact hHeld.below ((Below.refl _ _).alloc (Nat.le_refl _) _)
  clear hK K
  try simp only [Act.put, List.setIfInBounds_toArray, List.set_cons_zero, List.set_cons_succ]
  refine cX1_13 (fun K hK => ?_)
  rw [if_pos (by rfl)]
  unfold qX1_13
  go_simp
  refine (J.out w5.heap.size _ (by simp) (by simp) (by simp) (by simp) (by simp)).mono ?_
  rintro e w6 ⟨rfl, hb6⟩
  have B6 := Lib.hid (below_chain (B5.out.alloc B5.out.size _) hb6)
  refine Shut.out hK _ _ ?_ (fun hHeld => ?_)
  · exact hHeld.below hb6
  clear hb6
  clear hK K
  try simp only [Act.put, List.setIfInBounds_toArray, List.set_cons_zero, List.set_cons_succ]
  refine tX1_14 (.string tt) (fun _ _ _ h => h) (Or.inl ⟨by rfl, fun W hSw => ?_⟩) hHeld ?_
  · skip
    unfold qX1_14
    go_simp
  try simp only [Act.put, List.setIfInBounds_toArray, List.set_cons_zero, List.set_cons_succ]
  refine wpAnyH_done (by kernel_rfl) ?_ _
  clear hHeld
  go_wp2
  go_ret
  exact ⟨rfl, B6.out⟩

end Go.Proofs.YtdmbkjebagnloaaGreatDoor.hexes

