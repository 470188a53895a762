/-
  Slices of strings as the laws hold them: the contracts of laws.eqStringS, laws.markStringS and laws.heldStringS.
-/
import Derived.Test.YteebkaajalelaaaDoorMarkText
namespace Go.Proofs.YteebkaajalelaaaDoor.hexes
open Go.RowKit

def texts (ss : List ByteArray) : List Value := ss.map Value.string
def marks (k n : Nat) : List ByteArray := (List.range n).map fun i => mark (k + i)

theorem texts_at {ss : List ByteArray} {j : Nat} (h : j < ss.length) : (texts ss)[j]? = some (.string ss[j]) := by
  simp [texts, h]

theorem eqS_any (ss : List ByteArray) (n B1 B2 : Nat) (v1 v2 : Value) (w : World) (h1 : w.ownsRow B1 9 1 v1 n (texts ss)) (h2 : w.ownsRow B2 9 1 v2 n (texts ss)) (hn : n ≤ 1048576) :
    Calls Tryd.prog 18 #[v1, v2] w fun e w' => e = .returned (.bool true) ∧ ∃ k, w' = w.drewN k := by
  have hl : ss.length = n := by have := h1.1; simpa [texts] using this
  obtain ⟨A1, c1, rfl, f1⟩ := own_form h1
  obtain ⟨A2, c2, rfl, f2⟩ := own_form h2
  by_cases h0 : n = 0
  · subst h0
    clear h1 h2 f1 f2 hl
    go_enter Tryd.func18, Tryd.ntmps18
    go_wp2
    go_loop [5] (fun i => i = .int .i64 0) (fun _ => 0)
    case atStart => rfl
    case round =>
      obtain rfl := hrel
      go_wp2
      go_ret
      exact ⟨rfl, 0, rfl⟩
  · obtain ⟨g1, rfl⟩ := f1 (by omega)
    obtain ⟨g2, rfl⟩ := f2 (by omega)
    have hc : ∀ j, j < n → ∃ sj, w.cell? ⟨g1, j, none⟩ = some (.string sj) ∧ w.cell? ⟨g2, j, none⟩ = some (.string sj) := fun j hj =>
      ⟨ss[j]'(by omega), by rw [h1.cellAt j (by omega)]; exact texts_at (by omega), by rw [h2.cellAt j (by omega)]; exact texts_at (by omega)⟩
    have HC := Lib.hid hc
    clear h1 h2 f1 f2 hc hl
    go_enter Tryd.func18, Tryd.ntmps18
    go_wp2
    go_loopw [5] (fun i wr => ∃ k d : Nat, k ≤ n ∧ i = .int .i64 k ∧ wr = w.drewN d) (fun i _ => n - (intOf i).toNat)
    case atStart => exact ⟨0, 0, Nat.zero_le _, rfl, rfl⟩
    case round =>
      obtain ⟨k, d, hk, rfl, rfl⟩ := hrel
      by_cases hlt : k < n
      · obtain ⟨sk, e1, e2⟩ := HC.out k hlt
        have i0 : (0 : Int) ≤ (k : Int) := by omega
        have i1 : (k : Int) < (n : Int) := by omega
        go_wp2_with fail
        go_quiet (fail)
        go_wp2
        go_roundw
        case rel => exact ⟨k + 1, _, by omega, by go_num, rfl⟩
        case measure => simp [intOf]; omega
      · go_wp2
        go_ret
        exact ⟨rfl, d, rfl⟩

theorem marks_set (k i n : Nat) (ss : List ByteArray) (hi : i < n) (hl : ss.length = n) :
    (texts (marks k i ++ ss.drop i)).set i (.string (mark (k + i))) = texts (marks k (i + 1) ++ ss.drop (i + 1)) := by
  have e1 : marks k (i + 1) = marks k i ++ [mark (k + i)] := by unfold marks; rw [List.range_succ, List.map_append]; rfl
  have l1 : (marks k i).length = i := by simp [marks]
  rw [e1]
  have e2 : ss.drop i = ss[i]'(by omega) :: ss.drop (i + 1) := (List.drop_eq_getElem_cons (by omega))
  rw [e2]
  unfold texts
  rw [List.map_append, List.map_cons]
  have l2 : ((marks k i).map Value.string).length = i := by simpa using l1
  rw [List.set_append_right _ _ (by omega), l2, Nat.sub_self, List.set_cons_zero]
  simp

theorem markS_any (ss : List ByteArray) (n k0 B : Nat) (v : Value) (w : World) (h : w.ownsRow B 9 1 v n (texts ss)) (hn : n ≤ 1048576) (hk0 : 1 ≤ k0) (hk1 : k0 ≤ 1048576) :
    Calls Tryd.prog 19 #[v, .int .i64 (k0 : Int)] w fun e w' => e = .returned (.int .i64 ((k0 + n : Nat) : Int)) ∧ w'.ownsRow B 9 1 v n (texts (marks k0 n)) ∧ w.grownBy w' v.ownBlock := by
  have hl : ss.length = n := by have := h.1; simpa [texts] using this
  obtain ⟨A, c, rfl, f⟩ := own_form h
  by_cases h0 : n = 0
  · subst h0
    have e : texts ss = texts (marks k0 0) := by
      obtain rfl := List.eq_nil_of_length_eq_zero hl
      rfl
    have H := Lib.hid (e ▸ h)
    clear h f hl e
    go_enter Tryd.func19, Tryd.ntmps19
    go_wp2
    go_loop [1, 5] (fun m i => m = .int .i64 (k0 : Int) ∧ i = .int .i64 0) (fun _ _ => 0)
    case atStart => exact ⟨rfl, rfl⟩
    case round =>
      obtain ⟨rfl, rfl⟩ := hrel
      go_wp2
      go_ret
      exact ⟨rfl, H.out, grown_refl _ _⟩
  · obtain ⟨g, rfl⟩ := f (by omega)
    have H0 := Lib.hid h
    have HL := Lib.hid hl
    clear h f hl
    go_enter Tryd.func19, Tryd.ntmps19
    go_wp2
    go_loopw [1, 5] (fun m i wr => ∃ k : Nat, k ≤ n ∧ m = .int .i64 ((k0 + k : Nat) : Int) ∧ i = .int .i64 k ∧ wr.ownsRow B 9 1 (.slice (some ⟨g, 0, none⟩) n c) n (texts (marks k0 k ++ ss.drop k)) ∧ w.grownBy wr (some g)) (fun _ i _ => n - (intOf i).toNat)
    case atStart => exact ⟨0, Nat.zero_le _, rfl, rfl, by simpa [marks] using H0.out, grown_refl _ _⟩
    case round =>
      obtain ⟨k, hk, rfl, rfl, hown, hg⟩ := hrel
      have HO := Lib.hid hown
      have HG := Lib.hid hg
      clear hown hg
      by_cases hlt : k < n
      · have i0 : (0 : Int) ≤ (k : Int) := by omega
        have i1 : (k : Int) < (n : Int) := by omega
        have M := fun W => markText_any (k0 + k) (by omega) (by omega) W
        have HM := Lib.hid M
        clear M
        go_wp2_with (go_at_call 29; refine (HM.out _).mono ?_; rintro e w1 ⟨rfl, hb1⟩; have o1 := own_below HO.out hb1; have cu : ∃ u, w1.cell? ⟨g, k, none⟩ = some u := ⟨_, by rw [o1.cellAt k (by omega)]; exact List.getElem?_eq_getElem (by rw [o1.1]; omega)⟩; obtain ⟨u, cu⟩ := cu; have fu := o1.frozenAt k; have O1 := Lib.hid o1; clear o1)
        have st := O1.out.stored k (.string (mark (k0 + k)))
        rw [marks_set k0 k n ss hlt HL.out] at st
        have G := grown_trans (grown_below HG.out hb1) st.2
        have ST := Lib.hid st.1
        clear st
        go_wp2
        go_roundw
        case rel => exact ⟨k + 1, by omega, by go_num, by go_num, ST.out, G⟩
        case measure => simp [intOf]; omega
      · have hkn : k = n := by omega
        subst hkn
        have O := HO.out
        rw [List.drop_of_length_le (by have := HL.out; omega), List.append_nil] at O
        have HO2 := Lib.hid O
        clear O
        go_wp2
        go_ret
        exact ⟨rfl, HO2.out, HG.out⟩

theorem heldS_any (n k0 B : Nat) (v : Value) (w : World) (h : w.ownsRow B 9 1 v n (texts (marks k0 n))) (hn : n ≤ 1048576) (hk0 : 1 ≤ k0) (hk1 : k0 ≤ 1048576) :
    Calls Tryd.prog 20 #[v, .int .i64 (k0 : Int)] w fun e w' => e = .returned (.int .i64 ((k0 + n : Nat) : Int)) ∧ Below w.heap.size w w' := by
  obtain ⟨A, c, rfl, f⟩ := own_form h
  by_cases h0 : n = 0
  · subst h0
    clear h f
    go_enter Tryd.func20, Tryd.ntmps20
    go_wp2
    go_loop [1, 5] (fun m i => m = .int .i64 (k0 : Int) ∧ i = .int .i64 0) (fun _ _ => 0)
    case atStart => exact ⟨rfl, rfl⟩
    case round =>
      obtain ⟨rfl, rfl⟩ := hrel
      go_wp2
      go_ret
      exact ⟨rfl, Below.refl _ _⟩
  · obtain ⟨g, rfl⟩ := f (by omega)
    have hg := own_lt h
    have hc : ∀ j, j < n → w.cell? ⟨g, j, none⟩ = some (.string (mark (k0 + j))) := fun j hj => by
      rw [h.cellAt j (by omega)]
      simp [texts, marks, hj]
    have HC := Lib.hid hc
    clear h f hc
    go_enter Tryd.func20, Tryd.ntmps20
    go_wp2
    go_loopw [1, 5] (fun m i wr => ∃ k : Nat, k ≤ n ∧ m = .int .i64 ((k0 + k : Nat) : Int) ∧ i = .int .i64 k ∧ Below w.heap.size w wr) (fun _ i _ => n - (intOf i).toNat)
    case atStart => exact ⟨0, Nat.zero_le _, rfl, rfl, Below.refl _ _⟩
    case round =>
      obtain ⟨k, hk, rfl, rfl, hbel⟩ := hrel
      by_cases hlt : k < n
      · have i0 : (0 : Int) ≤ (k : Int) := by omega
        have i1 : (k : Int) < (n : Int) := by omega
        have hsz := hbel.size
        have hcell : wr.cell? ⟨g, k, none⟩ = some (.string (mark (k0 + k))) := by rw [hbel.cell (p := ⟨g, k, none⟩) hg]; exact HC.out k hlt
        have M := fun W => markText_any (k0 + k) (by omega) (by omega) W
        have HM := Lib.hid M
        clear M
        go_wp2_with fail
        go_region_held3 (fun w' => w'.cell? ⟨g, k, none⟩ = some (.string (mark (k0 + k)))) (first | go_keep | (rw [hb1.cell (p := ⟨g, k, none⟩) (by simp; omega)]; assumption))
          (first | (go_at_call 29; refine (HM.out _).mono ?_; rintro e w1 ⟨rfl, hb1⟩))
        all_goals
          go_wp2
          go_roundw
          case rel => exact ⟨k + 1, by omega, by go_num, by go_num, hbel.trans (Below.mono (by first | exact hb1 | exact ((Below.refl _ _).drew).trans hb1) hsz)⟩
          case measure => simp [intOf]; omega
      · have hkn : k = n := by omega
        subst hkn
        go_wp2
        go_ret
        exact ⟨rfl, hbel⟩
end Go.Proofs.YteebkaajalelaaaDoor.hexes
