/-
  What FnLinks leans on of links as plain data. laws.sameRecords, laws.sameLink.
-/
import Derived.Test.YthkkleicekhelaaLkList
import Derived.Test.YthkkleicekhelaaLkPlain
import Derived.Deep.RegionHeld3
namespace Go.Proofs.Ythkkleicekhelaa.hexes

theorem send_ok {p a b s g n m ax sx : Int} {zs us : List Rc} {r : Rc} (h : sendOk p a b s g n zs r = true) (hu : sendQ true zs r = us) (hm : (us.length : Int) = m) (hz : (zs.length : Int) = n) (ha : turnI true a (-1) = ax) (hs : turnI true s 1 = sx) :
    okLk p ax b sx g m us = true ∧ ax = a - 1 ∧ -2000000001 ≤ a - 1 ∧ a - 1 ≤ 4 := by
  unfold sendOk at h
  simp only [Bool.and_eq_true, Bool.not_eq_true', decide_eq_false_iff_not] at h
  obtain ⟨⟨⟨h1, h2⟩, h3⟩, h4⟩ := h
  obtain ⟨k1, k2, k3, k4, k5, k6, k7, k8, k9, k10, k11, k12⟩ := okLk_iff.1 h1
  subst hu hm ha hs hz
  simp only [sendQ, turnI, if_true, List.length_append, List.length_cons, List.length_nil]
  refine ⟨okLk_iff.2 ⟨k1, k2, by omega, by omega, k5, k6, by push_cast; omega, by omega, by omega, k10, by push_cast; omega, ?_⟩, by omega, by omega, by omega⟩
  rw [List.all_append, k12]
  simp [h2]
theorem send_no {a s ax sx : Int} {zs us : List Rc} {r : Rc} (hu : sendQ false zs r = us) (ha : turnI false a (-1) = ax) (hs : turnI false s 1 = sx) : us = zs ∧ ax = a ∧ sx = s := by
  subst hu ha hs
  simp [sendQ, turnI]
theorem take_ok {p a b s g n m bx gx : Int} {zs us : List Rc} (h : takeOk p a b s g n zs = true) (hu : takeQ true zs = us) (hm : (us.length : Int) = m) (hz : (zs.length : Int) = n) (hb : turnI true b 1 = bx) (hg : turnI true g 1 = gx) :
    okLk p a bx s gx m us = true ∧ m = n - 1 := by
  unfold takeOk at h
  simp only [Bool.and_eq_true, Bool.not_eq_true', decide_eq_false_iff_not] at h
  obtain ⟨h1, h2⟩ := h
  obtain ⟨k1, k2, k3, k4, k5, k6, k7, k8, k9, k10, k11, k12⟩ := okLk_iff.1 h1
  have hl : 0 < zs.length := by omega
  subst hu hm hb hg hz
  simp only [takeQ, turnI, if_true, List.length_drop]
  have hc : ((zs.length - 1 : Nat) : Int) = (zs.length : Int) - 1 := by omega
  refine ⟨okLk_iff.2 ⟨k1, k2, k3, k4, by omega, by omega, by omega, k8, k9, by omega, by omega, ?_⟩, hc⟩
  rw [List.all_eq_true] at k12 ⊢
  exact fun x hx => k12 x (List.mem_of_mem_drop hx)
theorem back_ok {p a b s g n ax bx : Int} {zs : List Rc} (hn : 0 ≤ n) (h : backOk p a b s g n zs = true) (ha : turnI true a 1 = ax) (hb : turnI true b (-1) = bx) : okLk p ax bx s g n zs = true := by
  unfold backOk at h
  simp only [Bool.and_eq_true, Bool.not_eq_true', decide_eq_false_iff_not] at h
  obtain ⟨h1, h2⟩ := h
  obtain ⟨k1, k2, k3, k4, k5, k6, k7, k8, k9, k10, k11, k12⟩ := okLk_iff.1 h1
  subst ha hb
  simp only [turnI, if_true]
  exact okLk_iff.2 ⟨k1, k2, by omega, by omega, by omega, by omega, by omega, k8, k9, k10, k11, k12⟩

def rc0 : Rc := (0, (0, 0), 0, 0)
def rc1 : Rc := (0, (0, 0), 1, 0)
theorem one_ok : sendOk 2 2 0 0 0 0 [] rc0 = true := by decide
theorem two_ok : sendOk 2 1 0 1 0 1 [rc0] rc1 = true := by decide
theorem full_no : sendOk 2 0 0 2 0 2 [rc0, rc1] rc0 = false := by decide
theorem last_ok : takeOk 2 0 0 2 0 2 [rc0, rc1] = true := by decide
end Go.Proofs.Ythkkleicekhelaa.hexes

namespace Go.Proofs.Ythkkleicekhelaa.hexes
open Go.RowKit

set_option maxRecDepth 100000 in
theorem lrcSame_same (n : Nat) (zs ys : List Rc) (hz : zs.length = n) (hy : ys.length = n) (A1 A2 : Option Addr) (c1 c2 : Nat) (w : World) (h1 : Rcs w A1 zs) (h2 : Rcs w A2 ys) (hn : n ≤ 4194304) :
    Calls Try.prog 50 #[.slice A1 n c1, .slice A2 n c2] w fun e w' => e = .returned (.bool (decide (zs = ys))) ∧ Below w.heap.size w w' := by
  have H1 := Lib.hid h1
  have H2 := Lib.hid h2
  have HZ := Lib.hid hz
  have HY := Lib.hid hy
  clear h1 h2 hz hy
  go_enter Try.func50, Try.ntmps50
  go_wp2
  go_loopw [5] (fun i wr => ∃ k : Nat, k ≤ n ∧ i = .int .i64 k ∧ zs.take k = ys.take k ∧ Below w.heap.size w wr) (fun i _ => n - (intOf i).toNat)
  case atStart => exact ⟨0, Nat.zero_le _, rfl, rfl, Below.refl _ _⟩
  case round =>
    obtain ⟨k, hk, rfl, ht, hb⟩ := hrel
    have HT := Lib.hid ht
    have HB := Lib.hid hb
    by_cases hlt : k < n
    · have l1 : k < zs.length := by rw [HZ.out]; exact hlt
      have l2 : k < ys.length := by rw [HY.out]; exact hlt
      obtain ⟨b1, o1, p0, p1, p2, p3, p4, rfl, x1, e0, e1, e2, e3, e4⟩ := (H1.out.below hb).at l1
      obtain ⟨b2, o2, q0, q1, q2, q3, q4, rfl, x2, f0, f1, f2, f3, f4⟩ := (H2.out.below hb).at l2
      have X1 := Lib.hid x1
      have X2 := Lib.hid x2
      have i0 : (0 : Int) ≤ (k : Int) := by omega
      have i1 : (k : Int) < (n : Int) := by omega
      clear ht hb x1 x2
      by_cases he : p0 = q0 ∧ p1 = q1 ∧ p2 = q2 ∧ p3 = q3 ∧ p4 = q4
      · obtain ⟨rfl, rfl, rfl, rfl, rfl⟩ := he
        have HT2 := Lib.hid (take_step_rc l1 l2 HT.out (X1.out.trans X2.out.symm))
        clear HT X1 X2 l1 l2
        go_wp2_with fail
        go_region_held3 (fun w' => w'.cell? ⟨b1, o1 + k * 5, none⟩ = some (.int .i64 p0) ∧ w'.cell? ⟨b1, o1 + k * 5 + 1, none⟩ = some (.int .i64 p1) ∧ w'.cell? ⟨b1, o1 + k * 5 + 2, none⟩ = some (.int .i64 p2) ∧ w'.cell? ⟨b1, o1 + k * 5 + 3, none⟩ = some (.int .i64 p3) ∧ w'.cell? ⟨b1, o1 + k * 5 + 4, none⟩ = some (.int .i64 p4) ∧ w'.cell? ⟨b2, o2 + k * 5, none⟩ = some (.int .i64 p0) ∧ w'.cell? ⟨b2, o2 + k * 5 + 1, none⟩ = some (.int .i64 p1) ∧ w'.cell? ⟨b2, o2 + k * 5 + 2, none⟩ = some (.int .i64 p2) ∧ w'.cell? ⟨b2, o2 + k * 5 + 3, none⟩ = some (.int .i64 p3) ∧ w'.cell? ⟨b2, o2 + k * 5 + 4, none⟩ = some (.int .i64 p4))
          (((try go_split_ands); refine ⟨?_, ?_, ?_, ?_, ?_, ?_, ?_, ?_, ?_, ?_⟩ <;> (repeat (first | with_reducible assumption | with_reducible refine drew_keep ?_))))
          (fail)
        go_wp2
        go_roundw
        case rel => exact ⟨k + 1, by omega, by go_num, HT2.out, HB.out.drew⟩
        case measure => simp [intOf]; omega
      · have hne : decide (zs = ys) = false := by
          simp only [decide_eq_false_iff_not]
          rintro rfl
          have := X1.out.symm.trans X2.out
          simp only [Prod.mk.injEq, and_assoc] at this
          exact he this
        have HN := Lib.hid hne
        clear HT X1 X2 l1 l2 hne
        by_cases h0 : p0 = q0
        · subst h0
          by_cases h1 : p1 = q1
          · subst h1
            by_cases h2 : p2 = q2
            · subst h2
              by_cases h3 : p3 = q3
              · subst h3
                have h4 : ¬p4 = q4 := fun h => he (by simp [h])
                clear he
                go_wp2_with fail
                go_region_held3 (fun w' => w'.cell? ⟨b1, o1 + k * 5, none⟩ = some (.int .i64 p0) ∧ w'.cell? ⟨b1, o1 + k * 5 + 1, none⟩ = some (.int .i64 p1) ∧ w'.cell? ⟨b1, o1 + k * 5 + 2, none⟩ = some (.int .i64 p2) ∧ w'.cell? ⟨b1, o1 + k * 5 + 3, none⟩ = some (.int .i64 p3) ∧ w'.cell? ⟨b1, o1 + k * 5 + 4, none⟩ = some (.int .i64 p4) ∧ w'.cell? ⟨b2, o2 + k * 5, none⟩ = some (.int .i64 p0) ∧ w'.cell? ⟨b2, o2 + k * 5 + 1, none⟩ = some (.int .i64 p1) ∧ w'.cell? ⟨b2, o2 + k * 5 + 2, none⟩ = some (.int .i64 p2) ∧ w'.cell? ⟨b2, o2 + k * 5 + 3, none⟩ = some (.int .i64 p3) ∧ w'.cell? ⟨b2, o2 + k * 5 + 4, none⟩ = some (.int .i64 q4))
                  (((try go_split_ands); refine ⟨?_, ?_, ?_, ?_, ?_, ?_, ?_, ?_, ?_, ?_⟩ <;> (repeat (first | with_reducible assumption | with_reducible refine drew_keep ?_))))
                  (fail)
                go_wp2
                go_ret
                exact ⟨congrArg (fun b => Ending.returned (Value.bool b)) HN.out.symm, HB.out.drew⟩
              · skip
                clear he
                go_wp2_with fail
                go_region_held3 (fun w' => w'.cell? ⟨b1, o1 + k * 5, none⟩ = some (.int .i64 p0) ∧ w'.cell? ⟨b1, o1 + k * 5 + 1, none⟩ = some (.int .i64 p1) ∧ w'.cell? ⟨b1, o1 + k * 5 + 2, none⟩ = some (.int .i64 p2) ∧ w'.cell? ⟨b1, o1 + k * 5 + 3, none⟩ = some (.int .i64 p3) ∧ w'.cell? ⟨b1, o1 + k * 5 + 4, none⟩ = some (.int .i64 p4) ∧ w'.cell? ⟨b2, o2 + k * 5, none⟩ = some (.int .i64 p0) ∧ w'.cell? ⟨b2, o2 + k * 5 + 1, none⟩ = some (.int .i64 p1) ∧ w'.cell? ⟨b2, o2 + k * 5 + 2, none⟩ = some (.int .i64 p2) ∧ w'.cell? ⟨b2, o2 + k * 5 + 3, none⟩ = some (.int .i64 q3) ∧ w'.cell? ⟨b2, o2 + k * 5 + 4, none⟩ = some (.int .i64 q4))
                  (((try go_split_ands); refine ⟨?_, ?_, ?_, ?_, ?_, ?_, ?_, ?_, ?_, ?_⟩ <;> (repeat (first | with_reducible assumption | with_reducible refine drew_keep ?_))))
                  (fail)
                go_wp2
                go_ret
                exact ⟨congrArg (fun b => Ending.returned (Value.bool b)) HN.out.symm, HB.out.drew⟩
            · skip
              clear he
              go_wp2_with fail
              go_region_held3 (fun w' => w'.cell? ⟨b1, o1 + k * 5, none⟩ = some (.int .i64 p0) ∧ w'.cell? ⟨b1, o1 + k * 5 + 1, none⟩ = some (.int .i64 p1) ∧ w'.cell? ⟨b1, o1 + k * 5 + 2, none⟩ = some (.int .i64 p2) ∧ w'.cell? ⟨b1, o1 + k * 5 + 3, none⟩ = some (.int .i64 p3) ∧ w'.cell? ⟨b1, o1 + k * 5 + 4, none⟩ = some (.int .i64 p4) ∧ w'.cell? ⟨b2, o2 + k * 5, none⟩ = some (.int .i64 p0) ∧ w'.cell? ⟨b2, o2 + k * 5 + 1, none⟩ = some (.int .i64 p1) ∧ w'.cell? ⟨b2, o2 + k * 5 + 2, none⟩ = some (.int .i64 q2) ∧ w'.cell? ⟨b2, o2 + k * 5 + 3, none⟩ = some (.int .i64 q3) ∧ w'.cell? ⟨b2, o2 + k * 5 + 4, none⟩ = some (.int .i64 q4))
                (((try go_split_ands); refine ⟨?_, ?_, ?_, ?_, ?_, ?_, ?_, ?_, ?_, ?_⟩ <;> (repeat (first | with_reducible assumption | with_reducible refine drew_keep ?_))))
                (fail)
              go_wp2
              go_ret
              exact ⟨congrArg (fun b => Ending.returned (Value.bool b)) HN.out.symm, HB.out.drew⟩
          · skip
            clear he
            go_wp2_with fail
            go_region_held3 (fun w' => w'.cell? ⟨b1, o1 + k * 5, none⟩ = some (.int .i64 p0) ∧ w'.cell? ⟨b1, o1 + k * 5 + 1, none⟩ = some (.int .i64 p1) ∧ w'.cell? ⟨b1, o1 + k * 5 + 2, none⟩ = some (.int .i64 p2) ∧ w'.cell? ⟨b1, o1 + k * 5 + 3, none⟩ = some (.int .i64 p3) ∧ w'.cell? ⟨b1, o1 + k * 5 + 4, none⟩ = some (.int .i64 p4) ∧ w'.cell? ⟨b2, o2 + k * 5, none⟩ = some (.int .i64 p0) ∧ w'.cell? ⟨b2, o2 + k * 5 + 1, none⟩ = some (.int .i64 q1) ∧ w'.cell? ⟨b2, o2 + k * 5 + 2, none⟩ = some (.int .i64 q2) ∧ w'.cell? ⟨b2, o2 + k * 5 + 3, none⟩ = some (.int .i64 q3) ∧ w'.cell? ⟨b2, o2 + k * 5 + 4, none⟩ = some (.int .i64 q4))
              (((try go_split_ands); refine ⟨?_, ?_, ?_, ?_, ?_, ?_, ?_, ?_, ?_, ?_⟩ <;> (repeat (first | with_reducible assumption | with_reducible refine drew_keep ?_))))
              (fail)
            go_wp2
            go_ret
            exact ⟨congrArg (fun b => Ending.returned (Value.bool b)) HN.out.symm, HB.out.drew⟩
        · skip
          clear he
          go_wp2_with fail
          go_region_held3 (fun w' => w'.cell? ⟨b1, o1 + k * 5, none⟩ = some (.int .i64 p0) ∧ w'.cell? ⟨b1, o1 + k * 5 + 1, none⟩ = some (.int .i64 p1) ∧ w'.cell? ⟨b1, o1 + k * 5 + 2, none⟩ = some (.int .i64 p2) ∧ w'.cell? ⟨b1, o1 + k * 5 + 3, none⟩ = some (.int .i64 p3) ∧ w'.cell? ⟨b1, o1 + k * 5 + 4, none⟩ = some (.int .i64 p4) ∧ w'.cell? ⟨b2, o2 + k * 5, none⟩ = some (.int .i64 q0) ∧ w'.cell? ⟨b2, o2 + k * 5 + 1, none⟩ = some (.int .i64 q1) ∧ w'.cell? ⟨b2, o2 + k * 5 + 2, none⟩ = some (.int .i64 q2) ∧ w'.cell? ⟨b2, o2 + k * 5 + 3, none⟩ = some (.int .i64 q3) ∧ w'.cell? ⟨b2, o2 + k * 5 + 4, none⟩ = some (.int .i64 q4))
            (((try go_split_ands); refine ⟨?_, ?_, ?_, ?_, ?_, ?_, ?_, ?_, ?_, ?_⟩ <;> (repeat (first | with_reducible assumption | with_reducible refine drew_keep ?_))))
            (fail)
          go_wp2
          go_ret
          exact ⟨congrArg (fun b => Ending.returned (Value.bool b)) HN.out.symm, HB.out.drew⟩
    · have hkn : k = n := by omega
      have heq : zs = ys := by
        have h3 := HT.out
        rw [List.take_of_length_le (by rw [HZ.out]; omega), List.take_of_length_le (by rw [HY.out]; omega)] at h3
        exact h3
      have hd : decide (zs = ys) = true := by simp [heq]
      have HD := Lib.hid hd
      clear heq hd HT ht
      go_wp2
      go_ret
      exact ⟨congrArg (fun b => Ending.returned (Value.bool b)) HD.out.symm, HB.out⟩

theorem lrcSame_any (n m : Nat) (zs ys : List Rc) (hz : zs.length = n) (hy : ys.length = m) (A1 A2 : Option Addr) (c1 c2 : Nat) (w : World) (h1 : Rcs w A1 zs) (h2 : Rcs w A2 ys) (hn : n ≤ 4194304) :
    Calls Try.prog 50 #[.slice A1 n c1, .slice A2 m c2] w fun e w' => e = .returned (.bool (decide (zs = ys))) ∧ Below w.heap.size w w' := by
  by_cases h : n = m
  · subst h
    exact lrcSame_same n zs ys hz hy A1 A2 c1 c2 w h1 h2 hn
  · have hd : decide (zs = ys) = false := by
      simp only [decide_eq_false_iff_not]
      rintro rfl
      omega
    rw [hd]
    have hc : ((n : Int) != (m : Int)) = true := by simp; omega
    clear hz hy h1 h2 hd
    go_enter Try.func50, Try.ntmps50
    go_wp2
    go_ret
    exact ⟨rfl, Below.refl _ _⟩

set_option maxRecDepth 100000 in
set_option maxHeartbeats 4000000 in
theorem lawSame_any (n n' : Nat) (zs ys : List Rc) (hz : zs.length = n) (hy : ys.length = n') (A A' : Option Addr) (c c' : Nat) (p a b s g p' a' b' s' g' : Int) (w : World) (h1 : Rcs w A zs) (h2 : Rcs w A' ys) (hn : n ≤ 4194304) :
    Calls Try.prog 13 #[.agg #[.int .i64 p, .slice A n c, .int .i64 a, .int .i64 b, .int .i64 s, .int .i64 g], .agg #[.int .i64 p', .slice A' n' c', .int .i64 a', .int .i64 b', .int .i64 s', .int .i64 g']] w fun e w' => e = .returned (.bool (sameLk p a b s g p' a' b' s' g' zs ys)) ∧ Below w.heap.size w w' := by
  have H1 := Lib.hid h1
  have H2 := Lib.hid h2
  have HZ := Lib.hid hz
  have HY := Lib.hid hy
  clear h1 h2 hz hy
  by_cases ep : ¬p = p'
  · skip
    have HF := Lib.hid (show sameLk p a b s g p' a' b' s' g' zs ys = false by unfold sameLk; rw [decide_eq_false ep]; simp)
    have tp : (p == p') = false := by simpa using ep
    clear ep
    go_enter Try.func13, Try.ntmps13
    go_wp2
    go_ret
    exact ⟨congrArg (fun b => Ending.returned (Value.bool b)) HF.out.symm, (((Below.refl _ _).alloc (by first | (simp; done) | (simp; omega) | omega) _).alloc (by first | (simp; done) | (simp; omega) | omega) _)⟩
  replace ep := Classical.not_not.1 ep
  have tp : (p == p') = true := by simpa using ep
  by_cases eq : ¬zs = ys
  · skip
    have HF := Lib.hid (show sameLk p a b s g p' a' b' s' g' zs ys = false by unfold sameLk; rw [decide_eq_false eq]; simp)
    have HQ := Lib.hid (decide_eq_false eq)
    clear ep eq
    go_enter Try.func13, Try.ntmps13
    go_wp2_with fail
    generalize hW : ((w.alloc _).alloc _) = W
    have B0 := Lib.hid (show Below w.heap.size w W by rw [← hW]; exact (((Below.refl _ _).alloc (by first | (simp; done) | (simp; omega) | omega) _).alloc (by first | (simp; done) | (simp; omega) | omega) _))
    have K0 := Lib.hid (show Blk W (w.heap.size) 26 #[.int .i64 p, .slice A n c, .int .i64 a, .int .i64 b, .int .i64 s, .int .i64 g] by rw [← hW]; exact ((Below.heap_alloc _ _ _ (by first | (simp; done) | (simp; omega))).trans (Blk.new _ _ _)))
    have K1 := Lib.hid (show Blk W (w.heap.size + 1) 26 #[.int .i64 p', .slice A' n' c', .int .i64 a', .int .i64 b', .int .i64 s', .int .i64 g'] by rw [← hW]; exact ((show w.heap.size + 1 = ((w.alloc _)).heap.size by simp) ▸ Blk.new _ _ _))
    clear hW
    refine (lrcSame_any n n' zs ys HZ.out HY.out A A' c c' W (H1.out.below B0.out) (H2.out.below B0.out) hn).mono ?_
    rintro e w1 ⟨rfl, hb⟩
    rw [HQ.out]
    have B1 := Lib.hid (below_chain B0.out hb)
    have K2 := Lib.hid (K0.out.below hb)
    have K3 := Lib.hid (K1.out.below hb)
    clear hb B0 K0 K1
    have x0 : w1.cell? ⟨w.heap.size, 0, none⟩ = some (.int .i64 p) := by rw [K2.out.cell]; rfl
    have y0 : w1.cell? ⟨w.heap.size + 1, 0, none⟩ = some (.int .i64 p') := by rw [K3.out.cell]; rfl
    have x2 : w1.cell? ⟨w.heap.size, 2, none⟩ = some (.int .i64 a) := by rw [K2.out.cell]; rfl
    have y2 : w1.cell? ⟨w.heap.size + 1, 2, none⟩ = some (.int .i64 a') := by rw [K3.out.cell]; rfl
    have x3 : w1.cell? ⟨w.heap.size, 3, none⟩ = some (.int .i64 b) := by rw [K2.out.cell]; rfl
    have y3 : w1.cell? ⟨w.heap.size + 1, 3, none⟩ = some (.int .i64 b') := by rw [K3.out.cell]; rfl
    have x4 : w1.cell? ⟨w.heap.size, 4, none⟩ = some (.int .i64 s) := by rw [K2.out.cell]; rfl
    have y4 : w1.cell? ⟨w.heap.size + 1, 4, none⟩ = some (.int .i64 s') := by rw [K3.out.cell]; rfl
    have x5 : w1.cell? ⟨w.heap.size, 5, none⟩ = some (.int .i64 g) := by rw [K2.out.cell]; rfl
    have y5 : w1.cell? ⟨w.heap.size + 1, 5, none⟩ = some (.int .i64 g') := by rw [K3.out.cell]; rfl
    go_wp2
    go_ret
    exact ⟨congrArg (fun b => Ending.returned (Value.bool b)) HF.out.symm, B1.out⟩
  replace eq := Classical.not_not.1 eq
  have HQ := Lib.hid (decide_eq_true eq)
  by_cases ea : ¬a = a'
  · skip
    have HF := Lib.hid (show sameLk p a b s g p' a' b' s' g' zs ys = false by unfold sameLk; rw [decide_eq_false ea]; simp)
    have ta : (a == a') = false := by simpa using ea
    clear ep eq ea
    go_enter Try.func13, Try.ntmps13
    go_wp2_with fail
    generalize hW : ((w.alloc _).alloc _) = W
    have B0 := Lib.hid (show Below w.heap.size w W by rw [← hW]; exact (((Below.refl _ _).alloc (by first | (simp; done) | (simp; omega) | omega) _).alloc (by first | (simp; done) | (simp; omega) | omega) _))
    have K0 := Lib.hid (show Blk W (w.heap.size) 26 #[.int .i64 p, .slice A n c, .int .i64 a, .int .i64 b, .int .i64 s, .int .i64 g] by rw [← hW]; exact ((Below.heap_alloc _ _ _ (by first | (simp; done) | (simp; omega))).trans (Blk.new _ _ _)))
    have K1 := Lib.hid (show Blk W (w.heap.size + 1) 26 #[.int .i64 p', .slice A' n' c', .int .i64 a', .int .i64 b', .int .i64 s', .int .i64 g'] by rw [← hW]; exact ((show w.heap.size + 1 = ((w.alloc _)).heap.size by simp) ▸ Blk.new _ _ _))
    clear hW
    refine (lrcSame_any n n' zs ys HZ.out HY.out A A' c c' W (H1.out.below B0.out) (H2.out.below B0.out) hn).mono ?_
    rintro e w1 ⟨rfl, hb⟩
    rw [HQ.out]
    have B1 := Lib.hid (below_chain B0.out hb)
    have K2 := Lib.hid (K0.out.below hb)
    have K3 := Lib.hid (K1.out.below hb)
    clear hb B0 K0 K1
    have x0 : w1.cell? ⟨w.heap.size, 0, none⟩ = some (.int .i64 p) := by rw [K2.out.cell]; rfl
    have y0 : w1.cell? ⟨w.heap.size + 1, 0, none⟩ = some (.int .i64 p') := by rw [K3.out.cell]; rfl
    have x2 : w1.cell? ⟨w.heap.size, 2, none⟩ = some (.int .i64 a) := by rw [K2.out.cell]; rfl
    have y2 : w1.cell? ⟨w.heap.size + 1, 2, none⟩ = some (.int .i64 a') := by rw [K3.out.cell]; rfl
    have x3 : w1.cell? ⟨w.heap.size, 3, none⟩ = some (.int .i64 b) := by rw [K2.out.cell]; rfl
    have y3 : w1.cell? ⟨w.heap.size + 1, 3, none⟩ = some (.int .i64 b') := by rw [K3.out.cell]; rfl
    have x4 : w1.cell? ⟨w.heap.size, 4, none⟩ = some (.int .i64 s) := by rw [K2.out.cell]; rfl
    have y4 : w1.cell? ⟨w.heap.size + 1, 4, none⟩ = some (.int .i64 s') := by rw [K3.out.cell]; rfl
    have x5 : w1.cell? ⟨w.heap.size, 5, none⟩ = some (.int .i64 g) := by rw [K2.out.cell]; rfl
    have y5 : w1.cell? ⟨w.heap.size + 1, 5, none⟩ = some (.int .i64 g') := by rw [K3.out.cell]; rfl
    go_wp2
    go_ret
    exact ⟨congrArg (fun b => Ending.returned (Value.bool b)) HF.out.symm, B1.out⟩
  replace ea := Classical.not_not.1 ea
  have ta : (a == a') = true := by simpa using ea
  by_cases eb : ¬b = b'
  · skip
    have HF := Lib.hid (show sameLk p a b s g p' a' b' s' g' zs ys = false by unfold sameLk; rw [decide_eq_false eb]; simp)
    have tb : (b == b') = false := by simpa using eb
    clear ep eq ea eb
    go_enter Try.func13, Try.ntmps13
    go_wp2_with fail
    generalize hW : ((w.alloc _).alloc _) = W
    have B0 := Lib.hid (show Below w.heap.size w W by rw [← hW]; exact (((Below.refl _ _).alloc (by first | (simp; done) | (simp; omega) | omega) _).alloc (by first | (simp; done) | (simp; omega) | omega) _))
    have K0 := Lib.hid (show Blk W (w.heap.size) 26 #[.int .i64 p, .slice A n c, .int .i64 a, .int .i64 b, .int .i64 s, .int .i64 g] by rw [← hW]; exact ((Below.heap_alloc _ _ _ (by first | (simp; done) | (simp; omega))).trans (Blk.new _ _ _)))
    have K1 := Lib.hid (show Blk W (w.heap.size + 1) 26 #[.int .i64 p', .slice A' n' c', .int .i64 a', .int .i64 b', .int .i64 s', .int .i64 g'] by rw [← hW]; exact ((show w.heap.size + 1 = ((w.alloc _)).heap.size by simp) ▸ Blk.new _ _ _))
    clear hW
    refine (lrcSame_any n n' zs ys HZ.out HY.out A A' c c' W (H1.out.below B0.out) (H2.out.below B0.out) hn).mono ?_
    rintro e w1 ⟨rfl, hb⟩
    rw [HQ.out]
    have B1 := Lib.hid (below_chain B0.out hb)
    have K2 := Lib.hid (K0.out.below hb)
    have K3 := Lib.hid (K1.out.below hb)
    clear hb B0 K0 K1
    have x0 : w1.cell? ⟨w.heap.size, 0, none⟩ = some (.int .i64 p) := by rw [K2.out.cell]; rfl
    have y0 : w1.cell? ⟨w.heap.size + 1, 0, none⟩ = some (.int .i64 p') := by rw [K3.out.cell]; rfl
    have x2 : w1.cell? ⟨w.heap.size, 2, none⟩ = some (.int .i64 a) := by rw [K2.out.cell]; rfl
    have y2 : w1.cell? ⟨w.heap.size + 1, 2, none⟩ = some (.int .i64 a') := by rw [K3.out.cell]; rfl
    have x3 : w1.cell? ⟨w.heap.size, 3, none⟩ = some (.int .i64 b) := by rw [K2.out.cell]; rfl
    have y3 : w1.cell? ⟨w.heap.size + 1, 3, none⟩ = some (.int .i64 b') := by rw [K3.out.cell]; rfl
    have x4 : w1.cell? ⟨w.heap.size, 4, none⟩ = some (.int .i64 s) := by rw [K2.out.cell]; rfl
    have y4 : w1.cell? ⟨w.heap.size + 1, 4, none⟩ = some (.int .i64 s') := by rw [K3.out.cell]; rfl
    have x5 : w1.cell? ⟨w.heap.size, 5, none⟩ = some (.int .i64 g) := by rw [K2.out.cell]; rfl
    have y5 : w1.cell? ⟨w.heap.size + 1, 5, none⟩ = some (.int .i64 g') := by rw [K3.out.cell]; rfl
    go_wp2
    go_ret
    exact ⟨congrArg (fun b => Ending.returned (Value.bool b)) HF.out.symm, B1.out⟩
  replace eb := Classical.not_not.1 eb
  have tb : (b == b') = true := by simpa using eb
  by_cases es : ¬s = s'
  · skip
    have HF := Lib.hid (show sameLk p a b s g p' a' b' s' g' zs ys = false by unfold sameLk; rw [decide_eq_false es]; simp)
    have ts : (s == s') = false := by simpa using es
    clear ep eq ea eb es
    go_enter Try.func13, Try.ntmps13
    go_wp2_with fail
    generalize hW : ((w.alloc _).alloc _) = W
    have B0 := Lib.hid (show Below w.heap.size w W by rw [← hW]; exact (((Below.refl _ _).alloc (by first | (simp; done) | (simp; omega) | omega) _).alloc (by first | (simp; done) | (simp; omega) | omega) _))
    have K0 := Lib.hid (show Blk W (w.heap.size) 26 #[.int .i64 p, .slice A n c, .int .i64 a, .int .i64 b, .int .i64 s, .int .i64 g] by rw [← hW]; exact ((Below.heap_alloc _ _ _ (by first | (simp; done) | (simp; omega))).trans (Blk.new _ _ _)))
    have K1 := Lib.hid (show Blk W (w.heap.size + 1) 26 #[.int .i64 p', .slice A' n' c', .int .i64 a', .int .i64 b', .int .i64 s', .int .i64 g'] by rw [← hW]; exact ((show w.heap.size + 1 = ((w.alloc _)).heap.size by simp) ▸ Blk.new _ _ _))
    clear hW
    refine (lrcSame_any n n' zs ys HZ.out HY.out A A' c c' W (H1.out.below B0.out) (H2.out.below B0.out) hn).mono ?_
    rintro e w1 ⟨rfl, hb⟩
    rw [HQ.out]
    have B1 := Lib.hid (below_chain B0.out hb)
    have K2 := Lib.hid (K0.out.below hb)
    have K3 := Lib.hid (K1.out.below hb)
    clear hb B0 K0 K1
    have x0 : w1.cell? ⟨w.heap.size, 0, none⟩ = some (.int .i64 p) := by rw [K2.out.cell]; rfl
    have y0 : w1.cell? ⟨w.heap.size + 1, 0, none⟩ = some (.int .i64 p') := by rw [K3.out.cell]; rfl
    have x2 : w1.cell? ⟨w.heap.size, 2, none⟩ = some (.int .i64 a) := by rw [K2.out.cell]; rfl
    have y2 : w1.cell? ⟨w.heap.size + 1, 2, none⟩ = some (.int .i64 a') := by rw [K3.out.cell]; rfl
    have x3 : w1.cell? ⟨w.heap.size, 3, none⟩ = some (.int .i64 b) := by rw [K2.out.cell]; rfl
    have y3 : w1.cell? ⟨w.heap.size + 1, 3, none⟩ = some (.int .i64 b') := by rw [K3.out.cell]; rfl
    have x4 : w1.cell? ⟨w.heap.size, 4, none⟩ = some (.int .i64 s) := by rw [K2.out.cell]; rfl
    have y4 : w1.cell? ⟨w.heap.size + 1, 4, none⟩ = some (.int .i64 s') := by rw [K3.out.cell]; rfl
    have x5 : w1.cell? ⟨w.heap.size, 5, none⟩ = some (.int .i64 g) := by rw [K2.out.cell]; rfl
    have y5 : w1.cell? ⟨w.heap.size + 1, 5, none⟩ = some (.int .i64 g') := by rw [K3.out.cell]; rfl
    go_wp2
    go_ret
    exact ⟨congrArg (fun b => Ending.returned (Value.bool b)) HF.out.symm, B1.out⟩
  replace es := Classical.not_not.1 es
  have ts : (s == s') = true := by simpa using es
  by_cases eg : ¬g = g'
  · skip
    have HF := Lib.hid (show sameLk p a b s g p' a' b' s' g' zs ys = false by unfold sameLk; rw [decide_eq_false eg]; simp)
    have tg : (g == g') = false := by simpa using eg
    clear ep eq ea eb es eg
    go_enter Try.func13, Try.ntmps13
    go_wp2_with fail
    generalize hW : ((w.alloc _).alloc _) = W
    have B0 := Lib.hid (show Below w.heap.size w W by rw [← hW]; exact (((Below.refl _ _).alloc (by first | (simp; done) | (simp; omega) | omega) _).alloc (by first | (simp; done) | (simp; omega) | omega) _))
    have K0 := Lib.hid (show Blk W (w.heap.size) 26 #[.int .i64 p, .slice A n c, .int .i64 a, .int .i64 b, .int .i64 s, .int .i64 g] by rw [← hW]; exact ((Below.heap_alloc _ _ _ (by first | (simp; done) | (simp; omega))).trans (Blk.new _ _ _)))
    have K1 := Lib.hid (show Blk W (w.heap.size + 1) 26 #[.int .i64 p', .slice A' n' c', .int .i64 a', .int .i64 b', .int .i64 s', .int .i64 g'] by rw [← hW]; exact ((show w.heap.size + 1 = ((w.alloc _)).heap.size by simp) ▸ Blk.new _ _ _))
    clear hW
    refine (lrcSame_any n n' zs ys HZ.out HY.out A A' c c' W (H1.out.below B0.out) (H2.out.below B0.out) hn).mono ?_
    rintro e w1 ⟨rfl, hb⟩
    rw [HQ.out]
    have B1 := Lib.hid (below_chain B0.out hb)
    have K2 := Lib.hid (K0.out.below hb)
    have K3 := Lib.hid (K1.out.below hb)
    clear hb B0 K0 K1
    have x0 : w1.cell? ⟨w.heap.size, 0, none⟩ = some (.int .i64 p) := by rw [K2.out.cell]; rfl
    have y0 : w1.cell? ⟨w.heap.size + 1, 0, none⟩ = some (.int .i64 p') := by rw [K3.out.cell]; rfl
    have x2 : w1.cell? ⟨w.heap.size, 2, none⟩ = some (.int .i64 a) := by rw [K2.out.cell]; rfl
    have y2 : w1.cell? ⟨w.heap.size + 1, 2, none⟩ = some (.int .i64 a') := by rw [K3.out.cell]; rfl
    have x3 : w1.cell? ⟨w.heap.size, 3, none⟩ = some (.int .i64 b) := by rw [K2.out.cell]; rfl
    have y3 : w1.cell? ⟨w.heap.size + 1, 3, none⟩ = some (.int .i64 b') := by rw [K3.out.cell]; rfl
    have x4 : w1.cell? ⟨w.heap.size, 4, none⟩ = some (.int .i64 s) := by rw [K2.out.cell]; rfl
    have y4 : w1.cell? ⟨w.heap.size + 1, 4, none⟩ = some (.int .i64 s') := by rw [K3.out.cell]; rfl
    have x5 : w1.cell? ⟨w.heap.size, 5, none⟩ = some (.int .i64 g) := by rw [K2.out.cell]; rfl
    have y5 : w1.cell? ⟨w.heap.size + 1, 5, none⟩ = some (.int .i64 g') := by rw [K3.out.cell]; rfl
    go_wp2
    go_ret
    exact ⟨congrArg (fun b => Ending.returned (Value.bool b)) HF.out.symm, B1.out⟩
  replace eg := Classical.not_not.1 eg
  have tg : (g == g') = true := by simpa using eg
  have HF := Lib.hid (show sameLk p a b s g p' a' b' s' g' zs ys = true by unfold sameLk; rw [decide_eq_true ep, decide_eq_true ea, decide_eq_true eb, decide_eq_true es, decide_eq_true eg, decide_eq_true eq]; rfl)
  clear ep eq ea eb es eg
  go_enter Try.func13, Try.ntmps13
  go_wp2_with fail
  generalize hW : ((w.alloc _).alloc _) = W
  have B0 := Lib.hid (show Below w.heap.size w W by rw [← hW]; exact (((Below.refl _ _).alloc (by first | (simp; done) | (simp; omega) | omega) _).alloc (by first | (simp; done) | (simp; omega) | omega) _))
  have K0 := Lib.hid (show Blk W (w.heap.size) 26 #[.int .i64 p, .slice A n c, .int .i64 a, .int .i64 b, .int .i64 s, .int .i64 g] by rw [← hW]; exact ((Below.heap_alloc _ _ _ (by first | (simp; done) | (simp; omega))).trans (Blk.new _ _ _)))
  have K1 := Lib.hid (show Blk W (w.heap.size + 1) 26 #[.int .i64 p', .slice A' n' c', .int .i64 a', .int .i64 b', .int .i64 s', .int .i64 g'] by rw [← hW]; exact ((show w.heap.size + 1 = ((w.alloc _)).heap.size by simp) ▸ Blk.new _ _ _))
  clear hW
  refine (lrcSame_any n n' zs ys HZ.out HY.out A A' c c' W (H1.out.below B0.out) (H2.out.below B0.out) hn).mono ?_
  rintro e w1 ⟨rfl, hb⟩
  rw [HQ.out]
  have B1 := Lib.hid (below_chain B0.out hb)
  have K2 := Lib.hid (K0.out.below hb)
  have K3 := Lib.hid (K1.out.below hb)
  clear hb B0 K0 K1
  have x0 : w1.cell? ⟨w.heap.size, 0, none⟩ = some (.int .i64 p) := by rw [K2.out.cell]; rfl
  have y0 : w1.cell? ⟨w.heap.size + 1, 0, none⟩ = some (.int .i64 p') := by rw [K3.out.cell]; rfl
  have x2 : w1.cell? ⟨w.heap.size, 2, none⟩ = some (.int .i64 a) := by rw [K2.out.cell]; rfl
  have y2 : w1.cell? ⟨w.heap.size + 1, 2, none⟩ = some (.int .i64 a') := by rw [K3.out.cell]; rfl
  have x3 : w1.cell? ⟨w.heap.size, 3, none⟩ = some (.int .i64 b) := by rw [K2.out.cell]; rfl
  have y3 : w1.cell? ⟨w.heap.size + 1, 3, none⟩ = some (.int .i64 b') := by rw [K3.out.cell]; rfl
  have x4 : w1.cell? ⟨w.heap.size, 4, none⟩ = some (.int .i64 s) := by rw [K2.out.cell]; rfl
  have y4 : w1.cell? ⟨w.heap.size + 1, 4, none⟩ = some (.int .i64 s') := by rw [K3.out.cell]; rfl
  have x5 : w1.cell? ⟨w.heap.size, 5, none⟩ = some (.int .i64 g) := by rw [K2.out.cell]; rfl
  have y5 : w1.cell? ⟨w.heap.size + 1, 5, none⟩ = some (.int .i64 g') := by rw [K3.out.cell]; rfl
  go_wp2
  go_ret
  exact ⟨congrArg (fun b => Ending.returned (Value.bool b)) HF.out.symm, B1.out⟩

theorem sameLk_self (p a b s g : Int) (zs : List Rc) : sameLk p a b s g p a b s g zs zs = true := by simp [sameLk]

end Go.Proofs.Ythkkleicekhelaa.hexes
