/-
  The program's NoWorse: the contract of impl.NoWorse.
  NoWorse's contract with the answer behind a variable.
  The program's Improve: the contract of impl.Improve.
  The program's IsClosed: the contract of impl.IsClosed.
  IsClosed's contracts with the answer behind a variable.
  CesOut in a walk's words.
  Drawn stamps: the contracts of spec.l02Stamp, l02Any and l02Two.
  What the draws of nodes and links share.
-/
import Derived.Test.YtbbagpnjjjohpaaK7
import Derived.Test.YtbbagpnjjjohpaaK23
import Derived.Test.YtbbagpnjjjohpaaK25
import Derived.Test.YtbbagpnjjjohpaaK31
import Derived.Test.YtbbagpnjjjohpaaK16
import Derived.Test.YtbbagpnjjjohpaaK0
import Derived.Test.YtbbagpnjjjohpaaK1
import Derived.Test.YtbbagpnjjjohpaaK4
import Derived.Test.YtbbagpnjjjohpaaK9

namespace Go.Proofs.Ytbbagpnjjjohpaa.hexes
open Go.RowKit

theorem implLeastN_is {ys : List Ce} {n : Nat} (hl : ys.length = n) {o ep ky l : Int} {b : Bool} (hq : leastC ys o ep ky = (l, b)) {A : Option Addr} {c : Nat} (hn : n ≤ 2000000) (w : World) (h : Ces w A ys) :
    Calls Try.prog 61 #[.slice A n c, .int .i64 o, .int .i64 ep, .int .i64 ky] w fun e w' => e = .returned (.tuple #[.int .i64 l, .bool b]) ∧ Below w.heap.size w w' := by
  refine (implLeast_any n ys hl A c o ep ky w h (by omega)).mono ?_
  rintro e w' ⟨he, hb⟩
  rw [hq] at he
  exact ⟨he, hb⟩

set_option maxRecDepth 100000 in
set_option maxHeartbeats 4000000 in
theorem implNw_any (ys bs : List Ce) (A1 : Option Addr) (n1 c1 : Nat) (hl1 : ys.length = n1) (hn1 : n1 ≤ 2000000) (A2 : Option Addr) (n2 c2 : Nat) (hl2 : bs.length = n2) (hn2 : n2 ≤ 2000000) (w : World) (h1 : Ces w A1 ys) (h2 : Ces w A2 bs) :
    Calls Try.prog 25 #[.slice A1 n1 c1, .slice A2 n2 c2] w fun e w' => e = .returned (.bool (nwC ys bs)) ∧ Below w.heap.size w w' := by
  obtain ⟨q, hq⟩ : ∃ q, nwC ys bs = q := ⟨_, rfl⟩
  rw [hq]
  have HQ := Lib.hid hq
  have H1L := Lib.hid hl1
  have H2L := Lib.hid hl2
  have H1 := Lib.hid h1
  have H2 := Lib.hid h2
  clear hq hl1 hl2 h1 h2
  go_enter Try.func25, Try.ntmps25
  go_wp2_with fail
  go_loopw [11] (fun i wr => ∃ j : Nat, j ≤ n2 ∧ i = .int .i64 (j : Int) ∧ (bs.take j).all (nwB ys) = true ∧ Below w.heap.size w wr) (fun i _ => n2 - (intOf i).toNat)
  case atStart => exact ⟨0, Nat.zero_le _, rfl, by simp, Below.refl _ _⟩
  case round =>
    obtain ⟨j, hj, rfl, ht, hb⟩ := hrel
    have HT := Lib.hid ht
    have HB := Lib.hid hb
    clear ht hb
    by_cases hlt : j < n2
    · have lj : j < bs.length := by rw [H2L.out]; exact hlt
      obtain ⟨b1, o1, p0, p1, p2, p3, rfl, hz, e0, e1, e2, e3⟩ := (H2.out.below HB.out).at lj
      have i0 : (0 : Int) ≤ (j : Int) := by omega
      have i1 : (j : Int) < (n2 : Int) := by omega
      obtain ⟨l, lb, hlb⟩ : ∃ l b, leastC ys p0 p1 p2 = (l, b) := ⟨_, _, rfl⟩
      have HN := Lib.hid (show nwB ys bs[j] = (lb && decide (l ≤ p3)) by rw [hz]; unfold nwB; rw [hlb])
      have HLB := Lib.hid hlb
      have HLJ := Lib.hid lj
      clear hz hlb
      obtain ⟨U, hU⟩ : ∃ z, wr.alloc (.cells #[.int .i64 p0, .int .i64 p1, .int .i64 p2, .int .i64 p3] 38) = z := ⟨_, rfl⟩
      have bU : Below wr.heap.size wr U := by rw [← hU]; exact (Below.refl _ _).alloc (Nat.le_refl _) _
      have XU := Lib.hid (show Blk U wr.heap.size 38 #[.int .i64 p0, .int .i64 p1, .int .i64 p2, .int .i64 p3] by rw [← hU]; exact Blk.new _ _ _)
      have BU := Lib.hid (below_chain HB.out bU)
      clear bU
      have x0 : U.cell? ⟨wr.heap.size, 0, none⟩ = some (.int .i64 p0) := by rw [XU.out.cell]; rfl
      have x1 : U.cell? ⟨wr.heap.size, 1, none⟩ = some (.int .i64 p1) := by rw [XU.out.cell]; rfl
      have x2 : U.cell? ⟨wr.heap.size, 2, none⟩ = some (.int .i64 p2) := by rw [XU.out.cell]; rfl
      go_wp2_with fail
      clear x0 x1 x2 e0 e1 e2 e3
      refine (implLeastN_is H1L.out HLB.out hn1 _ (H1.out.below BU.out) (c := c1)).mono ?_
      rintro e w5 ⟨rfl, bq⟩
      have X5 := Lib.hid (XU.out.below bq)
      have B5 := Lib.hid (below_chain BU.out bq)
      clear bq hU XU BU
      have x3 : w5.cell? ⟨wr.heap.size, 3, none⟩ = some (.int .i64 p3) := by rw [X5.out.cell]; rfl
      cases lb with
      | false =>
        obtain rfl : q = false := by rw [← HQ.out, nwC_eq]; exact all_off HLJ.out (by rw [HN.out]; rfl)
        clear x3
        go_wp2
        go_ret
        exact ⟨rfl, B5.out⟩
      | true =>
        by_cases hle : l ≤ p3
        · have dg : decide (p3 < l) = false := by simp; omega
          have HT2 := Lib.hid (all_on HLJ.out HT.out (by rw [HN.out]; simp [hle]))
          clear hle HT HN
          go_wp2
          go_roundw
          case rel => exact ⟨j + 1, by omega, by go_num, HT2.out, B5.out⟩
          case measure => simp [intOf]; omega
        · have dg : decide (p3 < l) = true := by simp; omega
          obtain rfl : q = false := by rw [← HQ.out, nwC_eq]; exact all_off HLJ.out (by rw [HN.out]; simp [hle])
          clear hle HT HN
          go_wp2
          go_ret
          exact ⟨rfl, B5.out⟩
    · obtain rfl : j = n2 := by omega
      obtain rfl : q = true := by rw [← HQ.out, nwC_eq]; exact all_whole (Nat.le_of_eq H2L.out) HT.out
      have dl : decide (j < j) = false := by simp
      clear hlt
      go_wp2
      go_ret
      exact ⟨rfl, HB.out⟩
end Go.Proofs.Ytbbagpnjjjohpaa.hexes

namespace Go.Proofs.Ytbbagpnjjjohpaa.hexes
open Go.RowKit

theorem implNw_is {ys bs : List Ce} {q : Bool} (hq : nwC ys bs = q) {A1 : Option Addr} {n1 c1 : Nat} (hl1 : ys.length = n1) (hn1 : n1 ≤ 2000000) {A2 : Option Addr} {n2 c2 : Nat} (hl2 : bs.length = n2) (hn2 : n2 ≤ 2000000) (w : World) (h1 : Ces w A1 ys) (h2 : Ces w A2 bs) :
    Calls Try.prog 25 #[.slice A1 n1 c1, .slice A2 n2 c2] w fun e w' => e = .returned (.bool q) ∧ Below w.heap.size w w' := by
  subst hq; exact implNw_any ys bs A1 n1 c1 hl1 hn1 A2 n2 c2 hl2 hn2 w h1 h2
end Go.Proofs.Ytbbagpnjjjohpaa.hexes

namespace Go.Proofs.Ytbbagpnjjjohpaa.hexes
open Go.RowKit

set_option maxRecDepth 1000000 in
set_option maxHeartbeats 8000000 in
theorem implImp_any (gs : List Nd) (wk cp : Int) (A : Option Addr) (n c : Nat) (hl : gs.length = n) (ho : ∀ x ∈ gs, x.2.2.2.length ≤ 1048576) (hn : n ≤ 1048576) (ces : List Ce) (A2 : Option Addr) (n2 c2 : Nat) (hl2 : ces.length = n2) (hA2 : A2 = none → c2 = 0) (hc2 : n2 ≤ c2) (hn2 : n2 ≤ 2000000) (x0 x1 x2 x3 : Int) (w : World) (h : Nds w A gs) (h2 : Ces w A2 ces) :
    Calls Try.prog 21 #[.agg #[.slice A n c, .int .i64 wk, .int .i64 cp], .slice A2 n2 c2, .agg #[.int .i64 x0, .int .i64 x1, .int .i64 x2, .int .i64 x3]] w (ImpEnd w (impG gs wk cp ces (x0, x1, x2, x3))) := by
  obtain ⟨q, hq⟩ : ∃ q, impG gs wk cp ces (x0, x1, x2, x3) = q := ⟨_, rfl⟩
  obtain ⟨on, hon⟩ : ∃ q, (impB gs wk cp (x0, x1, x2, x3) && (recL ces (x0, x1, x2, x3)).2) = q := ⟨_, rfl⟩
  have IV := Lib.hid (fun W hb => implImv_any gs wk cp A n c hl ho hn ces A2 n2 c2 hl2 hA2 hc2 hn2 x0 x1 x2 x3 W (h.below (show Below w.heap.size w W from hb)) (h2.below hb))
  rw [hq, hon] at IV
  rw [hq]
  clear hq hon h h2 hl ho hl2 hA2
  obtain ⟨V, hW⟩ : ∃ z, ((w.alloc (.cells #[.slice A n c, .int .i64 wk, .int .i64 cp] 26)).alloc (.cells #[.int .i64 x0, .int .i64 x1, .int .i64 x2, .int .i64 x3] 38)) = z := ⟨_, rfl⟩
  have hb : Below w.heap.size w V := by rw [← hW]; exact (((Below.refl _ _).alloc (by first | (simp; done) | (simp; omega) | omega) _).alloc (by first | (simp; done) | (simp; omega) | omega) _)
  have az : V.heap.size = w.heap.size + 2 := by rw [← hW]; simp
  have NG := Lib.hid (show Blk V (w.heap.size) 26 #[.slice A n c, .int .i64 wk, .int .i64 cp] by rw [← hW]; exact ((Below.heap_alloc _ _ _ (by first | (simp; done) | (simp; omega))).trans (Blk.new _ _ _)))
  have NX := Lib.hid (show Blk V (w.heap.size + 1) 38 #[.int .i64 x0, .int .i64 x1, .int .i64 x2, .int .i64 x3] by rw [← hW]; exact ((show w.heap.size + 1 = ((w.alloc _)).heap.size by simp) ▸ Blk.new _ _ _))
  have AZV := Lib.hid az
  clear az
  have sz1 := hb.size
  have B1 := Lib.hid (hb)
  clear hb
  have G_1 := NG
  clear NG
  have ltG : w.heap.size < V.heap.size := G_1.out.lt
  have X_1 := NX
  clear NX
  have ltX : w.heap.size + 1 < V.heap.size := X_1.out.lt
  go_enter Try.func21, Try.ntmps21
  have xG0 : V.cell? ⟨w.heap.size, 0, none⟩ = some (.slice A n c) := by rw [G_1.out.cell]; rfl
  have xG1 : V.cell? ⟨w.heap.size, 1, none⟩ = some (.int .i64 wk) := by rw [G_1.out.cell]; rfl
  have xG2 : V.cell? ⟨w.heap.size, 2, none⟩ = some (.int .i64 cp) := by rw [G_1.out.cell]; rfl
  have xX0 : V.cell? ⟨w.heap.size + 1, 0, none⟩ = some (.int .i64 x0) := by rw [X_1.out.cell]; rfl
  have xX1 : V.cell? ⟨w.heap.size + 1, 1, none⟩ = some (.int .i64 x1) := by rw [X_1.out.cell]; rfl
  have xX2 : V.cell? ⟨w.heap.size + 1, 2, none⟩ = some (.int .i64 x2) := by rw [X_1.out.cell]; rfl
  have xX3 : V.cell? ⟨w.heap.size + 1, 3, none⟩ = some (.int .i64 x3) := by rw [X_1.out.cell]; rfl
  go_wp2_with fail
  clear hW xG0 xG1 xG2 xX0 xX1 xX2 xX3
  refine (IV.out _ B1.out).mono ?_
  rintro e w5 ⟨A3, c3, m3, A4, c4, m4, h3, h4, rfl, r3, r4, ap, hb⟩
  have R3 := Lib.hid r3
  have R4 := Lib.hid r4
  have H3 := Lib.hid h3
  have H4 := Lib.hid h4
  have AP := Lib.hid ap
  have BE := Lib.hid (below_chain B1.out hb)
  have BS := Lib.hid B1.out.size
  clear r3 r4 h3 h4 ap hb
  go_wp2
  exact bodyPost_ret (v := .tuple #[.slice A3 m3 c3, .slice A4 m4 c4]) (by simp [results, Try.results21, go_sem]) rfl ⟨A3, c3, m3, A4, c4, m4, H3.out, H4.out, rfl, R3.out.bounds BS.out (Nat.le_refl _), R4.out.bounds BS.out (Nat.le_refl _), AP.out, BE.out⟩
end Go.Proofs.Ytbbagpnjjjohpaa.hexes

namespace Go.Proofs.Ytbbagpnjjjohpaa.hexes
open Go.RowKit

set_option maxRecDepth 1000000 in
set_option maxHeartbeats 8000000 in
theorem implCl_any (gs : List Nd) (wk cp : Int) (A : Option Addr) (n c : Nat) (hl : gs.length = n) (ho : ∀ x ∈ gs, x.2.2.2.length ≤ 1048576) (hn : n ≤ 1048576) (bs : List Ce) (A2 : Option Addr) (n2 c2 : Nat) (hl2 : bs.length = n2) (hn2 : n2 ≤ 2000000) (w : World) (h : Nds w A gs) (h2 : Ces w A2 bs) :
    Calls Try.prog 23 #[.agg #[.slice A n c, .int .i64 wk, .int .i64 cp], .slice A2 n2 c2] w fun e w' => e = .returned (.bool (closedG gs wk cp bs)) ∧ Below w.heap.size w w' := by
  obtain ⟨q, hq⟩ : ∃ q, closedG gs wk cp bs = q := ⟨_, rfl⟩
  rw [hq]
  obtain ⟨gk, hgk⟩ : ∃ q, okGr gs dec1 wk cp = q := ⟨_, rfl⟩
  have HQ := Lib.hid (show q = (bs.all (clB gs wk cp bs) && gk) by rw [← hq, closedG_eq, hgk])
  have HGK := Lib.hid hgk
  have HL := Lib.hid hl
  have HO := Lib.hid ho
  have H2L := Lib.hid hl2
  have S0 := Lib.hid h
  have H2 := Lib.hid h2
  clear hq hgk hl ho hl2 h h2
  obtain ⟨V, hW⟩ : ∃ z, (w.alloc (.cells #[.slice A n c, .int .i64 wk, .int .i64 cp] 26)) = z := ⟨_, rfl⟩
  have hb : Below w.heap.size w V := by rw [← hW]; exact ((Below.refl _ _).alloc (by first | (simp; done) | (simp; omega) | omega) _)
  have az : V.heap.size = w.heap.size + 1 := by rw [← hW]; simp
  have NG := Lib.hid (show Blk V (w.heap.size) 26 #[.slice A n c, .int .i64 wk, .int .i64 cp] by rw [← hW]; exact (Blk.new _ _ _))
  have AZV := Lib.hid az
  clear az
  have sz1 := hb.size
  have B1 := Lib.hid (hb)
  clear hb
  have G_1 := NG
  clear NG
  have ltG : w.heap.size < V.heap.size := G_1.out.lt
  go_enter Try.func23, Try.ntmps23
  have xG0 : V.cell? ⟨w.heap.size, 0, none⟩ = some (.slice A n c) := by rw [G_1.out.cell]; rfl
  have xG1 : V.cell? ⟨w.heap.size, 1, none⟩ = some (.int .i64 wk) := by rw [G_1.out.cell]; rfl
  have xG2 : V.cell? ⟨w.heap.size, 2, none⟩ = some (.int .i64 cp) := by rw [G_1.out.cell]; rfl
  go_wp2_with fail
  clear hW xG0 xG1 xG2
  refine (implGrOk_any gs wk cp A n c HL.out HO.out hn HGK.out _ (S0.out.below B1.out)).mono ?_
  rintro e w5 ⟨rfl, hb⟩
  have sz2 := hb.size
  have B2 := Lib.hid (below_chain B1.out hb)
  have G_2 := Lib.hid (G_1.out.below hb)
  clear hb B1 G_1
  cases gk with
  | false =>
    obtain rfl : q = false := by rw [HQ.out]; simp
    go_wp2
    go_ret
    exact ⟨rfl, B2.out⟩
  | true =>
    go_wp2_with fail
    go_loopw [14] (fun i wr => ∃ j : Nat, j ≤ n2 ∧ i = .int .i64 (j : Int) ∧ (bs.take j).all (clB gs wk cp bs) = true ∧ Below w5.heap.size w5 wr) (fun i _ => n2 - (intOf i).toNat)
    case atStart => exact ⟨0, Nat.zero_le _, rfl, by simp, Below.refl _ _⟩
    case round =>
      obtain ⟨j, hj, rfl, ht, hb⟩ := hrel
      have HT := Lib.hid ht
      have GR := Lib.hid (G_2.out.below hb)
      have HB := Lib.hid (below_chain B2.out hb)
      have HB0 := Lib.hid hb
      clear ht hb
      by_cases hlt : j < n2
      · have lj : j < bs.length := by rw [H2L.out]; exact hlt
        obtain ⟨b1, o1, p0, p1, p2, p3, rfl, hz, e0, e1, e2, e3⟩ := (H2.out.below HB.out).at lj
        have i0 : (0 : Int) ≤ (j : Int) := by omega
        have i1 : (j : Int) < (n2 : Int) := by omega
        obtain ⟨more, hmo⟩ : ∃ m, (impG gs wk cp [] (p0, p1, p2, p3)).2 = m := ⟨_, rfl⟩
        obtain ⟨nb, hnb⟩ : ∃ q, nwC bs more = q := ⟨_, rfl⟩
        have HN := Lib.hid (show clB gs wk cp bs bs[j] = nb by rw [hz]; unfold clB; rw [hmo, hnb])
        have lm : more.length ≤ 2 := by rw [← hmo]; exact impG_more _ _ _ _ _
        have HIM := Lib.hid hmo
        have HNB := Lib.hid hnb
        have HLJ := Lib.hid lj
        clear hz hmo hnb
        obtain ⟨U, hU⟩ : ∃ z, wr.alloc (.cells #[.int .i64 p0, .int .i64 p1, .int .i64 p2, .int .i64 p3] 38) = z := ⟨_, rfl⟩
        have bU : Below wr.heap.size wr U := by rw [← hU]; exact (Below.refl _ _).alloc (Nat.le_refl _) _
        have XU := Lib.hid (show Blk U wr.heap.size 38 #[.int .i64 p0, .int .i64 p1, .int .i64 p2, .int .i64 p3] by rw [← hU]; exact Blk.new _ _ _)
        have GU := Lib.hid (GR.out.below bU)
        have BU := Lib.hid (below_chain HB.out bU)
        have BU0 := Lib.hid (below_chain HB0.out bU)
        clear bU
        have x0 : U.cell? ⟨wr.heap.size, 0, none⟩ = some (.int .i64 p0) := by rw [XU.out.cell]; rfl
        have x1 : U.cell? ⟨wr.heap.size, 1, none⟩ = some (.int .i64 p1) := by rw [XU.out.cell]; rfl
        have x2 : U.cell? ⟨wr.heap.size, 2, none⟩ = some (.int .i64 p2) := by rw [XU.out.cell]; rfl
        have x3 : U.cell? ⟨wr.heap.size, 3, none⟩ = some (.int .i64 p3) := by rw [XU.out.cell]; rfl
        have g0 : U.cell? ⟨w.heap.size, 0, none⟩ = some (.slice A n c) := by rw [GU.out.cell]; rfl
        have g1 : U.cell? ⟨w.heap.size, 1, none⟩ = some (.int .i64 wk) := by rw [GU.out.cell]; rfl
        have g2 : U.cell? ⟨w.heap.size, 2, none⟩ = some (.int .i64 cp) := by rw [GU.out.cell]; rfl
        go_wp2_with fail
        clear x0 x1 x2 x3 g0 g1 g2 e0 e1 e2 e3 hU XU GR GU
        refine (implImp_any gs wk cp A n c HL.out HO.out hn [] none 0 0 rfl (fun _ => rfl) (Nat.le_refl _) (by omega) p0 p1 p2 p3 _ (S0.out.below BU.out) (fun h => absurd h (by simp))).mono ?_
        rintro e w6 ⟨A5, c5, m5, A6, c6, m6, hm5, hm6, rfl, _, hr6, _, bq⟩
        rw [HIM.out] at hm6 hr6
        have M6 := Lib.hid (show more.length = m6 from hm6)
        have R6 := Lib.hid (show Wce w6 _ _ A6 m6 c6 more from hr6)
        have B6 := Lib.hid (below_chain BU.out bq)
        have B60 := Lib.hid (below_chain BU0.out bq)
        clear hm5 hm6 hr6 bq BU BU0 HB HB0
        go_wp2_with fail
        refine (implNw_is HNB.out H2L.out hn2 M6.out (by have := M6.out; omega) _ (H2.out.below B6.out) R6.out.ce).mono ?_
        rintro e w7 ⟨rfl, bq⟩
        have B7 := Lib.hid (below_chain B6.out bq)
        have B70 := Lib.hid (below_chain B60.out bq)
        clear bq B6 B60
        cases nb with
        | false =>
          obtain rfl : q = false := by rw [HQ.out, all_off HLJ.out HN.out]; rfl
          go_wp2
          go_ret
          exact ⟨rfl, B7.out⟩
        | true =>
          have HT2 := Lib.hid (all_on HLJ.out HT.out HN.out)
          clear HT HN
          go_wp2
          go_roundw
          case rel => exact ⟨j + 1, by omega, by go_num, HT2.out, B70.out⟩
          case measure => simp [intOf]; omega
      · obtain rfl : j = n2 := by omega
        obtain rfl : q = true := by rw [HQ.out, all_whole (Nat.le_of_eq H2L.out) HT.out]; rfl
        have dl : decide (j < j) = false := by simp
        clear hlt
        go_wp2
        go_ret
        exact ⟨rfl, HB.out⟩
end Go.Proofs.Ytbbagpnjjjohpaa.hexes

namespace Go.Proofs.Ytbbagpnjjjohpaa.hexes
open Go.RowKit

theorem specClosed_is {gs : List Nd} {wk cp : Int} {bs : List Ce} {q : Bool} (hq : closedG gs wk cp bs = q) {A : Option Addr} {n c : Nat} (hl : gs.length = n) (ho : ∀ x ∈ gs, x.2.2.2.length ≤ 1048576) (hn : n ≤ 1048576) {A2 : Option Addr} {n2 c2 : Nat} (hl2 : bs.length = n2) (hn2 : n2 ≤ 2000000) (w : World) (h : Nds w A gs) (h2 : Ces w A2 bs) :
    Calls Try.prog 24 #[.agg #[.slice A n c, .int .i64 wk, .int .i64 cp], .slice A2 n2 c2] w fun e w' => e = .returned (.bool q) ∧ Below w.heap.size w w' := by
  subst hq; exact specCl_any gs wk cp A n c hl ho hn bs A2 n2 c2 hl2 hn2 w h h2
theorem implClosed_is {gs : List Nd} {wk cp : Int} {bs : List Ce} {q : Bool} (hq : closedG gs wk cp bs = q) {A : Option Addr} {n c : Nat} (hl : gs.length = n) (ho : ∀ x ∈ gs, x.2.2.2.length ≤ 1048576) (hn : n ≤ 1048576) {A2 : Option Addr} {n2 c2 : Nat} (hl2 : bs.length = n2) (hn2 : n2 ≤ 2000000) (w : World) (h : Nds w A gs) (h2 : Ces w A2 bs) :
    Calls Try.prog 23 #[.agg #[.slice A n c, .int .i64 wk, .int .i64 cp], .slice A2 n2 c2] w fun e w' => e = .returned (.bool q) ∧ Below w.heap.size w w' := by
  subst hq; exact implCl_any gs wk cp A n c hl ho hn bs A2 n2 c2 hl2 hn2 w h h2
end Go.Proofs.Ytbbagpnjjjohpaa.hexes

namespace Go.Proofs.Ytbbagpnjjjohpaa.hexes
open Go.RowKit

theorem CesOut.rows {w w' : World} {e : Ending} {q us : List Ce} {m : Nat} (h : CesOut w q e w') (hq : q = us) (hm : us.length = m) : ∃ A3 c3, e = .returned (.slice A3 m c3) ∧ Wce w' w.heap.size w'.heap.size A3 m c3 us ∧ Below w.heap.size w w' := by
  subst hq hm
  obtain ⟨A3, c3, m3, rfl, he, hw, hb⟩ := h
  exact ⟨A3, c3, he, hw, hb⟩
end Go.Proofs.Ytbbagpnjjjohpaa.hexes

namespace Go.Proofs.Ytbbagpnjjjohpaa.hexes
open Go.RowKit

def In64 (x : Int) : Prop := -9223372036854775808 ≤ x ∧ x ≤ 9223372036854775807

/-- The cursor in a world that has only grown. -/
theorem Cursor.grown {w w' : World} {c len cap : Nat} {A : Option Addr} (h : Cursor w c A len cap) (hg : w.grownBy w' none) : Cursor w' c A len cap := by
  obtain ⟨i, hh, hi, hblk⟩ := h.at_
  exact ⟨⟨i, hh, hi, hblk.grown hg (by simp)⟩, h.bytes.grown ⟨hg.os, hg.tape, hg.output, hg.size, fun k hk _ => hg.block k hk (by simp)⟩⟩
theorem Cursor.lt {w : World} {c len cap : Nat} {A : Option Addr} (h : Cursor w c A len cap) : c < w.heap.size := by
  obtain ⟨i, hh, hi, hblk⟩ := h.at_
  exact hblk.lt

theorem Cursor.back {w w2 w3 : World} {c len cap : Nat} {A : Option Addr} (h : Cursor w c A len cap) (h2 : Cursor w2 c A len cap) (hg : w.grownBy w3 (some c)) (hb : w3.heap[c]? = w2.heap[c]?) : Cursor w3 c A len cap := by
  obtain ⟨i, hh, hi, hblk⟩ := h2.at_
  exact ⟨⟨i, hh, hi, hb.trans hblk⟩, h.bytes.grown hg⟩
theorem grown_set_new {a w : World} {row : Option Nat} (h : a.grownBy w row) {p : Addr} (hp : a.heap.size ≤ p.block) (u : Value) : a.grownBy (w.setCell p u) row :=
  ⟨h.os, h.tape, h.output, by simpa [World.setCell] using h.size, fun i hi hne => (Below.heap_setCell w p u i (by omega)).trans (h.block i hi hne)⟩
theorem grown_wide {a w : World} {row : Option Nat} (h : a.grownBy w none) : a.grownBy w row := ⟨h.os, h.tape, h.output, h.size, fun k hk _ => h.block k hk (by simp)⟩

/-- How a drawn stamp ends: a stamp, the cursor, nothing else written. -/
def StampEnd (w : World) (c : Nat) (A : Option Addr) (len cap : Nat) (e : Ending) (w' : World) : Prop :=
  ∃ x y : Int, In64 x ∧ In64 y ∧ e = .returned (.agg #[.int .i64 x, .int .i64 y]) ∧ Cursor w' c A len cap ∧ w.grownBy w' (some c)

set_option maxRecDepth 100000 in
theorem stamp_draw (w : World) (c : Nat) (A : Option Addr) (len cap : Nat) (hlen : len ≤ 2097152) (hcur : Cursor w c A len cap) :
    Calls Try.prog 116 #[.pointer (some ⟨c, 0, none⟩)] w (StampEnd w c A len cap) := by
  have hc := hcur.lt
  have HC := Lib.hid hcur
  clear hcur
  go_enter Try.func116, Try.ntmps116
  go_wp2_with fail
  generalize hW : w.alloc _ = W
  have g0 : w.grownBy W none := by rw [← hW]; exact World.grownBy_alloc w _ none
  have b0 : Blk W w.heap.size 49 #[.int .i64 0, .int .i64 0] := by rw [← hW]; exact Blk.new _ _ _
  refine (below_any 4 (by omega) (by omega) W c A len cap hlen (HC.out.grown g0)).mono ?_
  rintro e w1 ⟨x, hx, rfl, hc1, g1⟩
  have b1 := b0.grown g1 (by simp; omega)
  have C1 := Lib.hid hc1
  have G1 := Lib.hid (grown_trans (row := some c) (grown_wide g0) g1)
  have BK1 := Lib.hid b1
  clear hc1 g1 b0 b1 g0 hW
  go_wp2_with fail
  refine (below_any 5 (by omega) (by omega) w1 c A len cap hlen C1.out).mono ?_
  rintro e w2 ⟨y, hy, rfl, hc2, g2⟩
  have b2 := BK1.out.grown g2 (by simp; omega)
  have C2 := Lib.hid hc2
  have G2 := Lib.hid (grown_trans G1.out g2)
  have d0 : w2.cell? ⟨w.heap.size, 0, none⟩ = some (.int .i64 0) := by rw [b2.cell]; rfl
  have d1 : w2.cell? ⟨w.heap.size, 1, none⟩ = some (.int .i64 0) := by rw [b2.cell]; rfl
  have f0 := b2.frozen 0
  have f1 := b2.frozen 1
  have BK2 := Lib.hid b2
  clear hc2 g2 G1 BK1 C1 b2
  go_wp2_with fail
  generalize hW3 : (w2.setCell _ _).setCell _ _ = W3
  have b3 : Blk W3 w.heap.size 49 #[.int .i64 (x : Int), .int .i64 (y : Int)] := by rw [← hW3]; exact (BK2.out.put 0 _).put 1 _
  have g3 : w.grownBy W3 (some c) := by rw [← hW3]; exact grown_set_new (grown_set_new G2.out (by simp) _) (by simp) _
  have k3 : W3.heap[c]? = w2.heap[c]? := by rw [← hW3]; exact (Below.heap_setCell _ _ _ c (by simp; omega)).trans (Below.heap_setCell _ _ _ c (by simp; omega))
  have e0 : W3.cell? ⟨w.heap.size, 0, none⟩ = some (.int .i64 (x : Int)) := by rw [b3.cell]; rfl
  have e1 : W3.cell? ⟨w.heap.size, 1, none⟩ = some (.int .i64 (y : Int)) := by rw [b3.cell]; rfl
  exact bodyPost_ret (v := .agg #[.int .i64 (x : Int), .int .i64 (y : Int)]) (by simp [results, Try.results116, go_sem, e0, e1]) rfl ⟨x, y, ⟨by omega, by omega⟩, ⟨by omega, by omega⟩, rfl, HC.out.back C2.out g3 k3, g3⟩

theorem once_any (n : Nat) (h0 : 0 < n) (h1 : n ≤ 4294967296) (w : World) (c : Nat) (A : Option Addr) (len cap : Nat) (hlen : len ≤ 2097152) (hcur : Cursor w c A len cap) :
    Calls Try.prog 50 #[.pointer (some ⟨c, 0, none⟩), .int .i64 (n : Int)] w fun e w' => ∃ b : Bool, e = .returned (.bool b) ∧ Cursor w' c A len cap ∧ w.grownBy w' (some c) := by
  have HC := Lib.hid hcur
  clear hcur
  go_enter Try.func50, Try.ntmps50
  go_wp2_with fail
  refine (below_any n h0 h1 w c A len cap hlen HC.out).mono ?_
  rintro e w1 ⟨x, hx, rfl, hc1, g1⟩
  have C1 := Lib.hid hc1
  have G1 := Lib.hid g1
  clear hc1 g1
  go_wp2
  go_ret
  exact ⟨_, rfl, C1.out, G1.out⟩

/-- How a picked number ends. -/
def PickEnd (w : World) (c : Nat) (A : Option Addr) (len cap : Nat) (ns : List Int) (e : Ending) (w' : World) : Prop :=
  ∃ n ∈ ns, e = .returned (.int .i64 n) ∧ Cursor w' c A len cap ∧ w.grownBy w' (some c)

set_option maxRecDepth 100000 in
theorem pickInt_any (w : World) (c g : Nat) (A : Option Addr) (len cap m : Nat) (ns : List Int) (hm : ns.length = m) (h0 : 0 < m) (h1 : m ≤ 256) (hlen : len ≤ 2097152) (hcur : Cursor w c A len cap) (hgc : g ≠ c)
    (hblk : Blk w g 3 (ns.map fun n => Value.int .i64 n).toArray) :
    Calls Try.prog 84 #[.pointer (some ⟨c, 0, none⟩), .slice (some ⟨g, 0, none⟩) m m] w (PickEnd w c A len cap ns) := by
  have HC := Lib.hid hcur
  have HB := Lib.hid hblk
  clear hcur hblk
  go_enter Try.func84, Try.ntmps84
  go_wp2_with fail
  refine (below_any m h0 (by omega) w c A len cap hlen HC.out).mono ?_
  rintro e w1 ⟨x, hx, rfl, hc1, g1⟩
  have hb1 := HB.out.grown g1 (by simpa using hgc)
  have hxl : x < ns.length := by omega
  have d0 : w1.cell? ⟨g, x, none⟩ = some (.int .i64 (ns[x])) := by rw [hb1.cell]; simp [hxl]
  have C1 := Lib.hid hc1
  have G1 := Lib.hid g1
  have j0 : (0 : Int) ≤ (x : Int) := by omega
  have j1 : (x : Int) < (m : Int) := by omega
  clear hc1 g1 hb1 HC HB
  go_wp2
  go_ret
  exact ⟨_, List.getElem_mem hxl, rfl, C1.out, G1.out⟩

set_option maxRecDepth 100000 in
set_option maxHeartbeats 1000000 in
theorem any_draw (w : World) (c : Nat) (A : Option Addr) (len cap : Nat) (hlen : len ≤ 2097152) (hcur : Cursor w c A len cap) :
    Calls Try.prog 102 #[.pointer (some ⟨c, 0, none⟩)] w (StampEnd w c A len cap) := by
  have hc := hcur.lt
  have HC := Lib.hid hcur
  clear hcur
  go_enter Try.func102, Try.ntmps102
  go_wp2_with fail
  generalize hW : w.alloc _ = W
  have g0 : w.grownBy W none := by rw [← hW]; exact World.grownBy_alloc w _ none
  have b0 : Blk W w.heap.size 49 #[.int .i64 0, .int .i64 0] := by rw [← hW]; exact Blk.new _ _ _
  refine (stamp_draw W c A len cap hlen (HC.out.grown g0)).mono ?_
  rintro e w1 ⟨x, y, hx, hy, rfl, hc1, g1⟩
  have b1 := b0.grown g1 (by simp; omega)
  have C1 := Lib.hid hc1
  have G1 := Lib.hid (grown_trans (row := some c) (grown_wide g0) g1)
  have R1 := Lib.hid b1
  clear hc1 g1 b0 b1 g0 hW
  go_wp2_with fail
  generalize hW2 : w1.alloc _ = W2
  have g2 : w1.grownBy W2 none := by rw [← hW2]; exact World.grownBy_alloc w1 _ none
  have s2 : Blk W2 w1.heap.size 49 #[.int .i64 x, .int .i64 y] := by rw [← hW2]; exact Blk.new _ _ _
  have hc1 := C1.out.lt
  have hr1 := R1.out.lt
  refine (below_any 10 (by omega) (by omega) W2 c A len cap hlen (C1.out.grown g2)).mono ?_
  rintro e w2 ⟨n, hn, rfl, hc2, g3⟩
  have S2 := Lib.hid (s2.grown g3 (by simp; omega))
  have R2 := Lib.hid ((R1.out.grown g2 (by simp)).grown g3 (by simp; omega))
  have C2 := Lib.hid hc2
  have G2 := Lib.hid (grown_trans (grown_trans G1.out (grown_wide g2)) g3)
  clear hc2 g3 s2 g2 hW2 C1 R1 G1
  by_cases n0 : n = 0
  · subst n0
    · skip
      go_wp2_with fail
      generalize hW3 : w2.alloc _ = W3
      have g3 : w2.grownBy W3 none := by rw [← hW3]; exact World.grownBy_alloc w2 _ none
      have p3 : Blk W3 w2.heap.size 3 (([-1, 3, 4, 9223372036854775807] : List Int).map fun n => Value.int .i64 n).toArray := by rw [← hW3]; exact Blk.new _ _ _
      have hs2 := S2.out.lt
      have hc2 := C2.out.lt
      refine (pickInt_any W3 c w2.heap.size A len cap 4 [-1, 3, 4, 9223372036854775807] rfl (by omega) (by omega) hlen (C2.out.grown g3) (by omega) p3).mono ?_
      rintro e w4 ⟨v, hv, rfl, hc4, g4⟩
      have s4 := (S2.out.grown g3 (by simp)).grown g4 (by simp; omega)
      have r4 := (R2.out.grown g3 (by simp)).grown g4 (by simp; omega)
      have C4 := Lib.hid hc4
      have G4 := Lib.hid (grown_trans (grown_trans G2.out (grown_wide g3)) g4)
      have hv64 : In64 v := by
        simp only [List.mem_cons, List.not_mem_nil, or_false] at hv
        unfold In64
        omega
      have d0 : w4.cell? ⟨w1.heap.size, 0, none⟩ = some (.int .i64 x) := by rw [s4.cell]; rfl
      have d1 : w4.cell? ⟨w1.heap.size, 1, none⟩ = some (.int .i64 y) := by rw [s4.cell]; rfl
      have f0 := s4.frozen 0
      have f1 := s4.frozen 1
      have d2 : w4.cell? ⟨w.heap.size, 0, none⟩ = some (.int .i64 0) := by rw [r4.cell]; rfl
      have d3 : w4.cell? ⟨w.heap.size, 1, none⟩ = some (.int .i64 0) := by rw [r4.cell]; rfl
      have f2 := r4.frozen 0
      have f3 := r4.frozen 1
      have S4 := Lib.hid s4
      have R4 := Lib.hid r4
      clear hc4 g4 s4 r4 p3 g3 hW3 hv S2 R2 C2 G2 hc2
      go_wp2_with fail
      generalize hWf : ((w4.setCell _ _).setCell _ _).setCell _ _ = Wf
      have bf : Blk Wf w.heap.size 49 #[.int .i64 v, .int .i64 y] := by rw [← hWf]; exact ((R4.out.other (by simp; omega) _).put 0 _).put 1 _
      have gf : w.grownBy Wf (some c) := by rw [← hWf]; exact grown_set_new (grown_set_new (grown_set_new G4.out (by simp; omega) _) (by simp) _) (by simp) _
      have kf : Wf.heap[c]? = w4.heap[c]? := by rw [← hWf]; exact (Below.heap_setCell _ _ _ c (by simp; omega)).trans ((Below.heap_setCell _ _ _ c (by simp; omega)).trans (Below.heap_setCell _ _ _ c (by simp; omega)))
      have e0 : Wf.cell? ⟨w.heap.size, 0, none⟩ = some (.int .i64 v) := by rw [bf.cell]; rfl
      have e1 : Wf.cell? ⟨w.heap.size, 1, none⟩ = some (.int .i64 y) := by rw [bf.cell]; rfl
      exact bodyPost_ret (v := .agg #[.int .i64 v, .int .i64 y]) (by simp [results, Try.results102, go_sem, e0, e1]) rfl ⟨_, _, hv64, hy, rfl, HC.out.back C4.out gf kf, gf⟩
  · by_cases n1 : n = 1
    · subst n1
      go_wp2_with fail
      generalize hW3 : w2.alloc _ = W3
      have g3 : w2.grownBy W3 none := by rw [← hW3]; exact World.grownBy_alloc w2 _ none
      have p3 : Blk W3 w2.heap.size 3 (([-1, 5, 6, 7, -9223372036854775808] : List Int).map fun n => Value.int .i64 n).toArray := by rw [← hW3]; exact Blk.new _ _ _
      have hs2 := S2.out.lt
      have hc2 := C2.out.lt
      refine (pickInt_any W3 c w2.heap.size A len cap 5 [-1, 5, 6, 7, -9223372036854775808] rfl (by omega) (by omega) hlen (C2.out.grown g3) (by omega) p3).mono ?_
      rintro e w4 ⟨v, hv, rfl, hc4, g4⟩
      have s4 := (S2.out.grown g3 (by simp)).grown g4 (by simp; omega)
      have r4 := (R2.out.grown g3 (by simp)).grown g4 (by simp; omega)
      have C4 := Lib.hid hc4
      have G4 := Lib.hid (grown_trans (grown_trans G2.out (grown_wide g3)) g4)
      have hv64 : In64 v := by
        simp only [List.mem_cons, List.not_mem_nil, or_false] at hv
        unfold In64
        omega
      have d0 : w4.cell? ⟨w1.heap.size, 0, none⟩ = some (.int .i64 x) := by rw [s4.cell]; rfl
      have d1 : w4.cell? ⟨w1.heap.size, 1, none⟩ = some (.int .i64 y) := by rw [s4.cell]; rfl
      have f0 := s4.frozen 0
      have f1 := s4.frozen 1
      have d2 : w4.cell? ⟨w.heap.size, 0, none⟩ = some (.int .i64 0) := by rw [r4.cell]; rfl
      have d3 : w4.cell? ⟨w.heap.size, 1, none⟩ = some (.int .i64 0) := by rw [r4.cell]; rfl
      have f2 := r4.frozen 0
      have f3 := r4.frozen 1
      have S4 := Lib.hid s4
      have R4 := Lib.hid r4
      clear hc4 g4 s4 r4 p3 g3 hW3 hv S2 R2 C2 G2 hc2
      go_wp2_with fail
      generalize hWf : ((w4.setCell _ _).setCell _ _).setCell _ _ = Wf
      have bf : Blk Wf w.heap.size 49 #[.int .i64 x, .int .i64 v] := by rw [← hWf]; exact ((R4.out.other (by simp; omega) _).put 0 _).put 1 _
      have gf : w.grownBy Wf (some c) := by rw [← hWf]; exact grown_set_new (grown_set_new (grown_set_new G4.out (by simp; omega) _) (by simp) _) (by simp) _
      have kf : Wf.heap[c]? = w4.heap[c]? := by rw [← hWf]; exact (Below.heap_setCell _ _ _ c (by simp; omega)).trans ((Below.heap_setCell _ _ _ c (by simp; omega)).trans (Below.heap_setCell _ _ _ c (by simp; omega)))
      have e0 : Wf.cell? ⟨w.heap.size, 0, none⟩ = some (.int .i64 x) := by rw [bf.cell]; rfl
      have e1 : Wf.cell? ⟨w.heap.size, 1, none⟩ = some (.int .i64 v) := by rw [bf.cell]; rfl
      exact bodyPost_ret (v := .agg #[.int .i64 x, .int .i64 v]) (by simp [results, Try.results102, go_sem, e0, e1]) rfl ⟨_, _, hx, hv64, rfl, HC.out.back C4.out gf kf, gf⟩
    · have d0 : w2.cell? ⟨w1.heap.size, 0, none⟩ = some (.int .i64 x) := by rw [S2.out.cell]; rfl
      have d1 : w2.cell? ⟨w1.heap.size, 1, none⟩ = some (.int .i64 y) := by rw [S2.out.cell]; rfl
      have d2 : w2.cell? ⟨w.heap.size, 0, none⟩ = some (.int .i64 0) := by rw [R2.out.cell]; rfl
      have d3 : w2.cell? ⟨w.heap.size, 1, none⟩ = some (.int .i64 0) := by rw [R2.out.cell]; rfl
      have f2 := R2.out.frozen 0
      have f3 := R2.out.frozen 1
      have q0 : ((n : Int) == 0) = false := by simp; omega
      have q1 : ((n : Int) == 1) = false := by simp; omega
      go_wp2_with fail
      generalize hWf : (w2.setCell _ _).setCell _ _ = Wf
      have bf : Blk Wf w.heap.size 49 #[.int .i64 x, .int .i64 y] := by rw [← hWf]; exact (R2.out.put 0 _).put 1 _
      have gf : w.grownBy Wf (some c) := by rw [← hWf]; exact grown_set_new (grown_set_new G2.out (by simp) _) (by simp) _
      have kf : Wf.heap[c]? = w2.heap[c]? := by rw [← hWf]; exact (Below.heap_setCell _ _ _ c (by simp; omega)).trans (Below.heap_setCell _ _ _ c (by simp; omega))
      have e0 : Wf.cell? ⟨w.heap.size, 0, none⟩ = some (.int .i64 x) := by rw [bf.cell]; rfl
      have e1 : Wf.cell? ⟨w.heap.size, 1, none⟩ = some (.int .i64 y) := by rw [bf.cell]; rfl
      exact bodyPost_ret (v := .agg #[.int .i64 x, .int .i64 y]) (by simp [results, Try.results102, go_sem, e0, e1]) rfl ⟨_, _, hx, hy, rfl, HC.out.back C2.out gf kf, gf⟩

end Go.Proofs.Ytbbagpnjjjohpaa.hexes

namespace Go.Proofs.Ytbbagpnjjjohpaa.hexes
open Go.RowKit

def K64 (x : Int) : Prop := -9223372036854775808 ≤ x ∧ x ≤ 9223372036854775807

theorem grown_row {a w w' : World} {row r2 : Option Nat} (h : a.grownBy w row) (k : w.grownBy w' r2) (hr : ∀ g, r2 = some g → a.heap.size ≤ g) : a.grownBy w' row :=
  ⟨k.os.trans h.os, k.tape.trans h.tape, k.output.trans h.output, Nat.le_trans h.size k.size, fun i hi hne => (k.block i (Nat.lt_of_lt_of_le hi h.size) (fun e => by have := hr i e.symm; omega)).trans (h.block i hi hne)⟩

theorem Cursor.belowD {w w' : World} {c len cap : Nat} {A : Option Addr} (h : Cursor w c A len cap) (hb : Below w.heap.size w w') : Cursor w' c A len cap := by
  obtain ⟨i, hh, hi, hblk⟩ := h.at_
  exact ⟨⟨i, hh, hi, hblk.below hb⟩, h.bytes.below hb⟩

end Go.Proofs.Ytbbagpnjjjohpaa.hexes

