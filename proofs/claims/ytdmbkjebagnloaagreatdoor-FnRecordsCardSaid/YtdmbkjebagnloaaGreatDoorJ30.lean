/-
  Chapter 5's functions on records, in the words that the drawn law goes by; the program's contracts as one bundle.
-/
import Derived.Test.YtdmbkjebagnloaaGreatDoorJ23
import Derived.Test.YtdmbkjebagnloaaGreatDoorJ24
import Derived.Test.YtdmbkjebagnloaaGreatDoorJ29
import Derived.Test.YtdmbkjebagnloaaGreatDoorJ17

namespace Go.Proofs.YtdmbkjebagnloaaGreatDoor.hexes
open Go.RowKit

set_option maxRecDepth 100000 in
theorem sameRcs_same (n : Nat) (zs ys : List Rc) (hz : zs.length = n) (hy : ys.length = n) (A1 A2 : Option Addr) (c1 c2 : Nat) (w : World) (h1 : Rcs w A1 zs) (h2 : Rcs w A2 ys) (hn : n ≤ 4194304) :
    Calls Tryz.prog 7 #[.slice A1 n c1, .slice A2 n c2] w fun e w' => e = .returned (.bool (decide (zs = ys))) ∧ Below w.heap.size w w' := by
  have H1 := Lib.hid h1
  have H2 := Lib.hid h2
  have HZ := Lib.hid hz
  have HY := Lib.hid hy
  clear h1 h2 hz hy
  go_enter Tryz.func7, Tryz.ntmps7
  go_wp2
  go_loopw [5] (fun i wr => ∃ k : Nat, k ≤ n ∧ i = .int .i64 k ∧ zs.take k = ys.take k ∧ Below w.heap.size w wr) (fun i _ => n - (intOf i).toNat)
  case atStart => exact ⟨0, Nat.zero_le _, rfl, rfl, Below.refl _ _⟩
  case round =>
    obtain ⟨k, hk, rfl, ht, hb⟩ := hrel
    have HT := Lib.hid ht
    have HB := Lib.hid hb
    by_cases hlt : k < n
    · have l1 : k < zs.length := by rw [HZ.out]; exact hlt
      have l2 : k < ys.length := by rw [HY.out]; exact hlt
      obtain ⟨b1, o1, p0, p1, p2, p3, p4, rfl, x1, e0, e1, e2, e3, e4⟩ := (H1.out.below hb).at l1
      obtain ⟨b2, o2, q0, q1, q2, q3, q4, rfl, x2, f0, f1, f2, f3, f4⟩ := (H2.out.below hb).at l2
      have X1 := Lib.hid x1
      have X2 := Lib.hid x2
      have i0 : (0 : Int) ≤ (k : Int) := by omega
      have i1 : (k : Int) < (n : Int) := by omega
      clear ht hb x1 x2
      by_cases he : p0 = q0 ∧ p1 = q1 ∧ p2 = q2 ∧ p3 = q3 ∧ p4 = q4
      · obtain ⟨rfl, rfl, rfl, rfl, rfl⟩ := he
        have HT2 := Lib.hid (take_step_rc l1 l2 HT.out (X1.out.trans X2.out.symm))
        clear HT X1 X2 l1 l2
        go_wp2_with fail
        go_region_held3 (fun w' => w'.cell? ⟨b1, o1 + k * 5, none⟩ = some (.int .i64 p0) ∧ w'.cell? ⟨b1, o1 + k * 5 + 1, none⟩ = some (.int .i64 p1) ∧ w'.cell? ⟨b1, o1 + k * 5 + 2, none⟩ = some (.int .i64 p2) ∧ w'.cell? ⟨b1, o1 + k * 5 + 3, none⟩ = some (.int .i64 p3) ∧ w'.cell? ⟨b1, o1 + k * 5 + 4, none⟩ = some (.int .i64 p4) ∧ w'.cell? ⟨b2, o2 + k * 5, none⟩ = some (.int .i64 p0) ∧ w'.cell? ⟨b2, o2 + k * 5 + 1, none⟩ = some (.int .i64 p1) ∧ w'.cell? ⟨b2, o2 + k * 5 + 2, none⟩ = some (.int .i64 p2) ∧ w'.cell? ⟨b2, o2 + k * 5 + 3, none⟩ = some (.int .i64 p3) ∧ w'.cell? ⟨b2, o2 + k * 5 + 4, none⟩ = some (.int .i64 p4))
          (((try go_split_ands); refine ⟨?_, ?_, ?_, ?_, ?_, ?_, ?_, ?_, ?_, ?_⟩ <;> (repeat (first | with_reducible assumption | with_reducible refine drew_keep ?_))))
          (fail)
        go_wp2
        go_roundw
        case rel => exact ⟨k + 1, by omega, by go_num, HT2.out, HB.out.drew⟩
        case measure => simp [intOf]; omega
      · have hne : decide (zs = ys) = false := by
          simp only [decide_eq_false_iff_not]
          rintro rfl
          have := X1.out.symm.trans X2.out
          simp only [Prod.mk.injEq, and_assoc] at this
          exact he this
        have HN := Lib.hid hne
        clear HT X1 X2 l1 l2 hne
        by_cases h0 : p0 = q0
        · subst h0
          by_cases h1 : p1 = q1
          · subst h1
            by_cases h2 : p2 = q2
            · subst h2
              by_cases h3 : p3 = q3
              · subst h3
                have h4 : ¬p4 = q4 := fun h => he (by simp [h])
                clear he
                go_wp2_with fail
                go_region_held3 (fun w' => w'.cell? ⟨b1, o1 + k * 5, none⟩ = some (.int .i64 p0) ∧ w'.cell? ⟨b1, o1 + k * 5 + 1, none⟩ = some (.int .i64 p1) ∧ w'.cell? ⟨b1, o1 + k * 5 + 2, none⟩ = some (.int .i64 p2) ∧ w'.cell? ⟨b1, o1 + k * 5 + 3, none⟩ = some (.int .i64 p3) ∧ w'.cell? ⟨b1, o1 + k * 5 + 4, none⟩ = some (.int .i64 p4) ∧ w'.cell? ⟨b2, o2 + k * 5, none⟩ = some (.int .i64 p0) ∧ w'.cell? ⟨b2, o2 + k * 5 + 1, none⟩ = some (.int .i64 p1) ∧ w'.cell? ⟨b2, o2 + k * 5 + 2, none⟩ = some (.int .i64 p2) ∧ w'.cell? ⟨b2, o2 + k * 5 + 3, none⟩ = some (.int .i64 p3) ∧ w'.cell? ⟨b2, o2 + k * 5 + 4, none⟩ = some (.int .i64 q4))
                  (((try go_split_ands); refine ⟨?_, ?_, ?_, ?_, ?_, ?_, ?_, ?_, ?_, ?_⟩ <;> (repeat (first | with_reducible assumption | with_reducible refine drew_keep ?_))))
                  (fail)
                go_wp2
                go_ret
                exact ⟨congrArg (fun b => Ending.returned (Value.bool b)) HN.out.symm, HB.out.drew⟩
              · skip
                clear he
                go_wp2_with fail
                go_region_held3 (fun w' => w'.cell? ⟨b1, o1 + k * 5, none⟩ = some (.int .i64 p0) ∧ w'.cell? ⟨b1, o1 + k * 5 + 1, none⟩ = some (.int .i64 p1) ∧ w'.cell? ⟨b1, o1 + k * 5 + 2, none⟩ = some (.int .i64 p2) ∧ w'.cell? ⟨b1, o1 + k * 5 + 3, none⟩ = some (.int .i64 p3) ∧ w'.cell? ⟨b1, o1 + k * 5 + 4, none⟩ = some (.int .i64 p4) ∧ w'.cell? ⟨b2, o2 + k * 5, none⟩ = some (.int .i64 p0) ∧ w'.cell? ⟨b2, o2 + k * 5 + 1, none⟩ = some (.int .i64 p1) ∧ w'.cell? ⟨b2, o2 + k * 5 + 2, none⟩ = some (.int .i64 p2) ∧ w'.cell? ⟨b2, o2 + k * 5 + 3, none⟩ = some (.int .i64 q3) ∧ w'.cell? ⟨b2, o2 + k * 5 + 4, none⟩ = some (.int .i64 q4))
                  (((try go_split_ands); refine ⟨?_, ?_, ?_, ?_, ?_, ?_, ?_, ?_, ?_, ?_⟩ <;> (repeat (first | with_reducible assumption | with_reducible refine drew_keep ?_))))
                  (fail)
                go_wp2
                go_ret
                exact ⟨congrArg (fun b => Ending.returned (Value.bool b)) HN.out.symm, HB.out.drew⟩
            · skip
              clear he
              go_wp2_with fail
              go_region_held3 (fun w' => w'.cell? ⟨b1, o1 + k * 5, none⟩ = some (.int .i64 p0) ∧ w'.cell? ⟨b1, o1 + k * 5 + 1, none⟩ = some (.int .i64 p1) ∧ w'.cell? ⟨b1, o1 + k * 5 + 2, none⟩ = some (.int .i64 p2) ∧ w'.cell? ⟨b1, o1 + k * 5 + 3, none⟩ = some (.int .i64 p3) ∧ w'.cell? ⟨b1, o1 + k * 5 + 4, none⟩ = some (.int .i64 p4) ∧ w'.cell? ⟨b2, o2 + k * 5, none⟩ = some (.int .i64 p0) ∧ w'.cell? ⟨b2, o2 + k * 5 + 1, none⟩ = some (.int .i64 p1) ∧ w'.cell? ⟨b2, o2 + k * 5 + 2, none⟩ = some (.int .i64 q2) ∧ w'.cell? ⟨b2, o2 + k * 5 + 3, none⟩ = some (.int .i64 q3) ∧ w'.cell? ⟨b2, o2 + k * 5 + 4, none⟩ = some (.int .i64 q4))
                (((try go_split_ands); refine ⟨?_, ?_, ?_, ?_, ?_, ?_, ?_, ?_, ?_, ?_⟩ <;> (repeat (first | with_reducible assumption | with_reducible refine drew_keep ?_))))
                (fail)
              go_wp2
              go_ret
              exact ⟨congrArg (fun b => Ending.returned (Value.bool b)) HN.out.symm, HB.out.drew⟩
          · skip
            clear he
            go_wp2_with fail
            go_region_held3 (fun w' => w'.cell? ⟨b1, o1 + k * 5, none⟩ = some (.int .i64 p0) ∧ w'.cell? ⟨b1, o1 + k * 5 + 1, none⟩ = some (.int .i64 p1) ∧ w'.cell? ⟨b1, o1 + k * 5 + 2, none⟩ = some (.int .i64 p2) ∧ w'.cell? ⟨b1, o1 + k * 5 + 3, none⟩ = some (.int .i64 p3) ∧ w'.cell? ⟨b1, o1 + k * 5 + 4, none⟩ = some (.int .i64 p4) ∧ w'.cell? ⟨b2, o2 + k * 5, none⟩ = some (.int .i64 p0) ∧ w'.cell? ⟨b2, o2 + k * 5 + 1, none⟩ = some (.int .i64 q1) ∧ w'.cell? ⟨b2, o2 + k * 5 + 2, none⟩ = some (.int .i64 q2) ∧ w'.cell? ⟨b2, o2 + k * 5 + 3, none⟩ = some (.int .i64 q3) ∧ w'.cell? ⟨b2, o2 + k * 5 + 4, none⟩ = some (.int .i64 q4))
              (((try go_split_ands); refine ⟨?_, ?_, ?_, ?_, ?_, ?_, ?_, ?_, ?_, ?_⟩ <;> (repeat (first | with_reducible assumption | with_reducible refine drew_keep ?_))))
              (fail)
            go_wp2
            go_ret
            exact ⟨congrArg (fun b => Ending.returned (Value.bool b)) HN.out.symm, HB.out.drew⟩
        · skip
          clear he
          go_wp2_with fail
          go_region_held3 (fun w' => w'.cell? ⟨b1, o1 + k * 5, none⟩ = some (.int .i64 p0) ∧ w'.cell? ⟨b1, o1 + k * 5 + 1, none⟩ = some (.int .i64 p1) ∧ w'.cell? ⟨b1, o1 + k * 5 + 2, none⟩ = some (.int .i64 p2) ∧ w'.cell? ⟨b1, o1 + k * 5 + 3, none⟩ = some (.int .i64 p3) ∧ w'.cell? ⟨b1, o1 + k * 5 + 4, none⟩ = some (.int .i64 p4) ∧ w'.cell? ⟨b2, o2 + k * 5, none⟩ = some (.int .i64 q0) ∧ w'.cell? ⟨b2, o2 + k * 5 + 1, none⟩ = some (.int .i64 q1) ∧ w'.cell? ⟨b2, o2 + k * 5 + 2, none⟩ = some (.int .i64 q2) ∧ w'.cell? ⟨b2, o2 + k * 5 + 3, none⟩ = some (.int .i64 q3) ∧ w'.cell? ⟨b2, o2 + k * 5 + 4, none⟩ = some (.int .i64 q4))
            (((try go_split_ands); refine ⟨?_, ?_, ?_, ?_, ?_, ?_, ?_, ?_, ?_, ?_⟩ <;> (repeat (first | with_reducible assumption | with_reducible refine drew_keep ?_))))
            (fail)
          go_wp2
          go_ret
          exact ⟨congrArg (fun b => Ending.returned (Value.bool b)) HN.out.symm, HB.out.drew⟩
    · have hkn : k = n := by omega
      have heq : zs = ys := by
        have h3 := HT.out
        rw [List.take_of_length_le (by rw [HZ.out]; omega), List.take_of_length_le (by rw [HY.out]; omega)] at h3
        exact h3
      have hd : decide (zs = ys) = true := by simp [heq]
      have HD := Lib.hid hd
      clear heq hd HT ht
      go_wp2
      go_ret
      exact ⟨congrArg (fun b => Ending.returned (Value.bool b)) HD.out.symm, HB.out⟩

theorem sameRcs_any (n m : Nat) (zs ys : List Rc) (hz : zs.length = n) (hy : ys.length = m) (A1 A2 : Option Addr) (c1 c2 : Nat) (w : World) (h1 : Rcs w A1 zs) (h2 : Rcs w A2 ys) (hn : n ≤ 4194304) :
    Calls Tryz.prog 7 #[.slice A1 n c1, .slice A2 m c2] w fun e w' => e = .returned (.bool (decide (zs = ys))) ∧ Below w.heap.size w w' := by
  by_cases h : n = m
  · subst h
    exact sameRcs_same n zs ys hz hy A1 A2 c1 c2 w h1 h2 hn
  · have hd : decide (zs = ys) = false := by
      simp only [decide_eq_false_iff_not]
      rintro rfl
      omega
    rw [hd]
    have hc : ((n : Int) != (m : Int)) = true := by simp; omega
    clear hz hy h1 h2 hd
    go_enter Tryz.func7, Tryz.ntmps7
    go_wp2
    go_ret
    exact ⟨rfl, Below.refl _ _⟩


/-- What the law asks of the program's own functions. -/
structure ImplRc : Prop where
  sort : ∀ (W : World) (A : Option Addr) (n c : Nat) (zs : List Rc), RTab W A n c zs → Calls Tryz.prog 6 #[.slice A n c] W fun e w' => ∃ v, e = .returned v ∧ w'.ownsRow W.heap.size 32 5 v n (rcCells (sortR zs)) ∧ Below W.heap.size W w'
  bag : ∀ (W : World) (A : Option Addr) (n c : Nat) (zs : List Rc) (A' : Option Addr) (n' c' : Nat) (ys : List Rc), RTab W A n c zs → RTab W A' n' c' ys → Calls Tryz.prog 9 #[.slice A n c, .slice A' n' c'] W fun e w' => e = .returned (.bool (bagR zs ys)) ∧ Below W.heap.size W w'
  ord : ∀ (W : World) (p0 p1 p2 p3 p4 q0 q1 q2 q3 q4 : Int), Calls Tryz.prog 10 #[.agg #[.int .i64 p0, .int .i64 p1, .int .i64 p2, .int .i64 p3, .int .i64 p4], .agg #[.int .i64 q0, .int .i64 q1, .int .i64 q2, .int .i64 q3, .int .i64 q4]] W fun e w' => e = .returned (.int .i64 (ordRc (p0, (p1, p2), p3, p4) (q0, (q1, q2), q3, q4))) ∧ Below W.heap.size W w'
  ok : ∀ (W : World) (p0 p1 p2 p3 p4 : Int), Calls Tryz.prog 16 #[.agg #[.int .i64 p0, .int .i64 p1, .int .i64 p2, .int .i64 p3, .int .i64 p4]] W fun e w' => e = .returned (.bool (okRc (p0, (p1, p2), p3, p4))) ∧ Below W.heap.size W w'
  text : ∀ (W : World) (p0 p1 p2 p3 p4 : Int), wfRc (p0, (p1, p2), p3, p4) → Lib.TabIs Tryz.prog W "internal/strconv.uint64pow10" .u64 Lib.pow10Tab → Calls Tryz.prog 18 #[.agg #[.int .i64 p0, .int .i64 p1, .int .i64 p2, .int .i64 p3, .int .i64 p4]] W fun e w' => e = .returned (.string (rcText (p0, (p1, p2), p3, p4))) ∧ Below W.heap.size W w'
  ofEp : ∀ (W : World) (A : Option Addr) (n c : Nat) (zs : List Rc) (x : Int), RTab W A n c zs → Calls Tryz.prog 21 #[.slice A n c, .int .i64 x] W fun e w' => ∃ v, e = .returned v ∧ w'.ownsRow W.heap.size 32 5 v (ofEpR zs x).length (rcCells (ofEpR zs x)) ∧ Below W.heap.size W w'
  cnt : ∀ (W : World) (A : Option Addr) (n c : Nat) (zs : List Rc), RTab W A n c zs → Calls Tryz.prog 24 #[.slice A n c] W fun e w' => ∃ v, e = .returned v ∧ w'.ownsRow W.heap.size 64 3 v (cntR zs).length (ctCells (cntR zs)) ∧ Below W.heap.size W w'

/-- How a function ends whose answer is a list of records. -/
def RsEnd (w : World) (us : List Rc) (n : Nat) (e : Ending) (w' : World) : Prop := ∃ A c, e = .returned (.slice A n c) ∧ RTab w' A n c us ∧ Below w.heap.size w w'
theorem sort_tab (I : ImplRc) {w : World} {A : Option Addr} {n c : Nat} {zs : List Rc} (h : RTab w A n c zs) : Calls Tryz.prog 6 #[.slice A n c] w (RsEnd w (sortR zs) n) :=
  (I.sort w A n c zs h).mono fun _ _ ⟨v, he, ho, hb⟩ => by
    obtain ⟨A', c', rfl, hl, hs⟩ := Rcs.of_own ho
    exact ⟨A', c', he, ⟨h.few, hl, own_nil ho, hs, wf_sort h.wf⟩, hb⟩
theorem specSort_tab {w : World} {A : Option Addr} {n c : Nat} {zs : List Rc} (h : RTab w A n c zs) : Calls Tryz.prog 8 #[.slice A n c] w (RsEnd w (sortR zs) n) :=
  (specSort_any n zs h.len A c h.nil w h.rcs (by have := h.few; omega)).mono fun _ _ ⟨v, he, ho, hb⟩ => by
    obtain ⟨A', c', rfl, hl, hs⟩ := Rcs.of_own ho
    exact ⟨A', c', he, ⟨h.few, hl, own_nil ho, hs, wf_sort h.wf⟩, hb⟩
theorem sameRcs_tab {w : World} {A A' : Option Addr} {n c n' c' : Nat} {zs : List Rc} (h : RTab w A n c zs) (h' : RTab w A' n' c' zs) : Calls Tryz.prog 7 #[.slice A n c, .slice A' n' c'] w fun e w' => e = .returned (.bool true) ∧ Below w.heap.size w w' := by
  have := sameRcs_any n n' zs zs h.len h'.len A A' c c' w h.rcs h'.rcs (by have := h.few; omega)
  rwa [decide_eq_true (rfl : zs = zs)] at this
theorem bag_tab (I : ImplRc) {w : World} {A A' : Option Addr} {n c n' c' : Nat} {zs ys : List Rc} {r : Bool} (h : RTab w A n c zs) (h' : RTab w A' n' c' ys) (hr : bagR zs ys = r) : Calls Tryz.prog 9 #[.slice A n c, .slice A' n' c'] w fun e w' => e = .returned (.bool r) ∧ Below w.heap.size w w' := by
  subst hr; exact I.bag w A n c zs A' n' c' ys h h'
theorem specBag_tab {w : World} {A A' : Option Addr} {n c n' c' : Nat} {zs ys : List Rc} {r : Bool} (h : RTab w A n c zs) (h' : RTab w A' n' c' ys) (hr : bagR zs ys = r) : Calls Tryz.prog 15 #[.slice A n c, .slice A' n' c'] w fun e w' => e = .returned (.bool r) ∧ Below w.heap.size w w' := by
  subst hr; exact specBag_any n n' zs ys h.len h'.len A A' c c' h.nil h'.nil w h.rcs h'.rcs (by have := h.few; omega) (by have := h'.few; omega)
theorem ord_is (I : ImplRc) {p0 p1 p2 p3 p4 q0 q1 q2 q3 q4 r : Int} (h : ordRc (p0, (p1, p2), p3, p4) (q0, (q1, q2), q3, q4) = r) (W : World) : Calls Tryz.prog 10 #[.agg #[.int .i64 p0, .int .i64 p1, .int .i64 p2, .int .i64 p3, .int .i64 p4], .agg #[.int .i64 q0, .int .i64 q1, .int .i64 q2, .int .i64 q3, .int .i64 q4]] W fun e w' => e = .returned (.int .i64 r) ∧ Below W.heap.size W w' := by
  subst h; exact I.ord W p0 p1 p2 p3 p4 q0 q1 q2 q3 q4
theorem ok_is (I : ImplRc) {p0 p1 p2 p3 p4 : Int} {r : Bool} (h : okRc (p0, (p1, p2), p3, p4) = r) (W : World) : Calls Tryz.prog 16 #[.agg #[.int .i64 p0, .int .i64 p1, .int .i64 p2, .int .i64 p3, .int .i64 p4]] W fun e w' => e = .returned (.bool r) ∧ Below W.heap.size W w' := by
  subst h; exact I.ok W p0 p1 p2 p3 p4
theorem specRcOk_is {p0 p1 p2 p3 p4 : Int} {r : Bool} (h : okRc (p0, (p1, p2), p3, p4) = r) (W : World) : Calls Tryz.prog 17 #[.agg #[.int .i64 p0, .int .i64 p1, .int .i64 p2, .int .i64 p3, .int .i64 p4]] W fun e w' => e = .returned (.bool r) ∧ Below W.heap.size W w' := by
  subst h; exact specRcOk_any p0 p1 p2 p3 p4 W
theorem text_is (I : ImplRc) {p0 p1 p2 p3 p4 : Int} {t : ByteArray} (hw : wfRc (p0, (p1, p2), p3, p4)) (h : rcText (p0, (p1, p2), p3, p4) = t) (W : World) (hT : Lib.TabIs Tryz.prog W "internal/strconv.uint64pow10" .u64 Lib.pow10Tab) : Calls Tryz.prog 18 #[.agg #[.int .i64 p0, .int .i64 p1, .int .i64 p2, .int .i64 p3, .int .i64 p4]] W fun e w' => e = .returned (.string t) ∧ Below W.heap.size W w' := by
  subst h; exact I.text W p0 p1 p2 p3 p4 hw hT
theorem specText_is {p0 p1 p2 p3 p4 : Int} {t : ByteArray} (hw : wfRc (p0, (p1, p2), p3, p4)) (h : rcText (p0, (p1, p2), p3, p4) = t) (W : World) : Calls Tryz.prog 19 #[.agg #[.int .i64 p0, .int .i64 p1, .int .i64 p2, .int .i64 p3, .int .i64 p4]] W fun e w' => e = .returned (.string t) ∧ Below W.heap.size W w' := by
  subst h; exact specRcText_any p0 p1 p2 p3 p4 (bounds_i64 hw.1) (bounds_i64 hw.2.1) (bounds_i64 hw.2.2.1) (bounds_i64 hw.2.2.2.1) (bounds_i64 hw.2.2.2.2) W
theorem ofEp_tab (I : ImplRc) {w : World} {A : Option Addr} {n c : Nat} {zs us : List Rc} {x : Int} {m : Nat} (h : RTab w A n c zs) (hu : ofEpR zs x = us) (hm : us.length = m) : Calls Tryz.prog 21 #[.slice A n c, .int .i64 x] w (RsEnd w us m) := by
  subst hu hm
  exact (I.ofEp w A n c zs x h).mono fun _ _ ⟨v, he, ho, hb⟩ => by
    obtain ⟨A', c', rfl, hl, hs⟩ := Rcs.of_own ho
    exact ⟨A', c', he, ⟨by have := ofEpR_length zs x; have := h.few; have := h.len; omega, rfl, own_nil ho, hs, fun z hz => h.wf z ((List.mem_filter.1 hz).1)⟩, hb⟩
theorem specOfEp_tab {w : World} {A : Option Addr} {n c : Nat} {zs us : List Rc} {x : Int} {m : Nat} (h : RTab w A n c zs) (hu : ofEpR zs x = us) (hm : us.length = m) : Calls Tryz.prog 22 #[.slice A n c, .int .i64 x] w (RsEnd w us m) := by
  subst hu hm
  exact (specOfEp_any n zs h.len A c x w h.rcs (by have := h.few; omega)).mono fun _ _ ⟨v, he, ho, hb⟩ => by
    obtain ⟨A', c', rfl, hl, hs⟩ := Rcs.of_own ho
    exact ⟨A', c', he, ⟨by have := ofEpR_length zs x; have := h.few; have := h.len; omega, rfl, own_nil ho, hs, fun z hz => h.wf z ((List.mem_filter.1 hz).1)⟩, hb⟩
/-- How a function ends whose answer is a table. -/
def CsEnd (w : World) (us : List Ct) (m : Nat) (e : Ending) (w' : World) : Prop := ∃ A c, e = .returned (.slice A m c) ∧ us.length = m ∧ Cts w' A us ∧ Below w.heap.size w w'
theorem cnt_tab (I : ImplRc) {w : World} {A : Option Addr} {n c : Nat} {zs : List Rc} {us : List Ct} {m : Nat} (h : RTab w A n c zs) (hu : cntR zs = us) (hm : us.length = m) : Calls Tryz.prog 24 #[.slice A n c] w (CsEnd w us m) := by
  subst hu hm
  exact (I.cnt w A n c zs h).mono fun _ _ ⟨v, he, ho, hb⟩ => by
    obtain ⟨A', c', rfl, hl, hs⟩ := Cts.of_own ho
    exact ⟨A', c', he, rfl, hs, hb⟩
theorem specCnt_tab5 {w : World} {A : Option Addr} {n c : Nat} {zs : List Rc} {us : List Ct} {m : Nat} (h : RTab w A n c zs) (hu : cntR zs = us) (hm : us.length = m) : Calls Tryz.prog 25 #[.slice A n c] w (CsEnd w us m) := by
  subst hu hm
  exact (specCntR_any n zs h.len A c w h.rcs (by have := h.few; omega)).mono fun _ _ ⟨v, he, ho, hb⟩ => by
    obtain ⟨A', c', rfl, hl, hs⟩ := Cts.of_own ho
    exact ⟨A', c', he, rfl, hs, hb⟩
theorem sameCts_is {w : World} {A A' : Option Addr} {m c c' : Nat} {us : List Ct} (hl : us.length = m) (hm : m ≤ 4194304) (h : Cts w A us) (h' : Cts w A' us) : Calls Tryz.prog 23 #[.slice A m c, .slice A' m c'] w fun e w' => e = .returned (.bool true) ∧ Below w.heap.size w w' := by
  have := sameCts_any m m us us hl hl A A' c c' w h h' hm
  rwa [decide_eq_true (rfl : us = us)] at this
/-- A record in a block of its own. -/
structure BoxR (w : World) (b : Nat) (p0 p1 p2 p3 p4 : Int) : Prop where
  c0 : w.cell? ⟨b, 0, none⟩ = some (.int .i64 p0)
  c1 : w.cell? ⟨b, 1, none⟩ = some (.int .i64 p1)
  c2 : w.cell? ⟨b, 2, none⟩ = some (.int .i64 p2)
  c3 : w.cell? ⟨b, 3, none⟩ = some (.int .i64 p3)
  c4 : w.cell? ⟨b, 4, none⟩ = some (.int .i64 p4)
theorem BoxR.below {w w' : World} {b : Nat} {p0 p1 p2 p3 p4 : Int} (h : BoxR w b p0 p1 p2 p3 p4) (hb : Below w.heap.size w w') : BoxR w' b p0 p1 p2 p3 p4 := ⟨below_keep hb h.c0, below_keep hb h.c1, below_keep hb h.c2, below_keep hb h.c3, below_keep hb h.c4⟩
theorem ordRc_bd (a b : Rc) : -1 ≤ ordRc a b ∧ ordRc a b ≤ 1 := by
  unfold ordRc ordSt
  rcases ordI_cases a.2.1.1 b.2.1.1 with ⟨_, e0⟩ | ⟨_, e0⟩ | ⟨_, e0⟩ <;> rcases ordI_cases a.2.1.2 b.2.1.2 with ⟨_, e1⟩ | ⟨_, e1⟩ | ⟨_, e1⟩ <;> rcases ordI_cases a.1 b.1 with ⟨_, e2⟩ | ⟨_, e2⟩ | ⟨_, e2⟩ <;> rcases ordI_cases a.2.2.1 b.2.2.1 with ⟨_, e3⟩ | ⟨_, e3⟩ | ⟨_, e3⟩ <;> rcases ordI_cases a.2.2.2 b.2.2.2 with ⟨_, e4⟩ | ⟨_, e4⟩ | ⟨_, e4⟩ <;> rw [e0, e1, e2, e3, e4] <;> decide
theorem text7 : rcText (0, (0, 0), 7, 0) = ⟨#[48, 58, 48, 46, 48, 58, 55, 58, 48]⟩ := by kernel_rfl
end Go.Proofs.YtdmbkjebagnloaaGreatDoor.hexes

