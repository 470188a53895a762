/-
  The program's Improve: the contract of impl.Improve.
  The program's IsClosed: the contract of impl.IsClosed.
  IsClosed's contracts with the answer behind a variable.
  Cells that came into a law: what its walk is told of them.
  A row's capacity is not below its length.
  What the walks of chapter 9's exact laws take: a boxed cell and rows kept through writes.
-/
import Derived.Test.YtbbagpnjjjohpaaJ42
import Derived.Test.YtbbagpnjjjohpaaJ31
import Derived.Test.YtbbagpnjjjohpaaJ30
import Derived.Test.YtbbagpnjjjohpaaJ15
import Derived.Deep.Slices
import Derived.ChangeSame
import Derived.OpenShut
import Derived.Lib.SmallJoins
import Derived.Test.YtbbagpnjjjohpaaJ1
import Derived.Test.YtbbagpnjjjohpaaJ16

namespace Go.Proofs.Ytbbagpnjjjohpaa.hexes
open Go.RowKit

set_option maxRecDepth 1000000 in
set_option maxHeartbeats 8000000 in
theorem implImp_any (gs : List Nd) (wk cp : Int) (A : Option Addr) (n c : Nat) (hl : gs.length = n) (ho : ∀ x ∈ gs, x.2.2.2.length ≤ 1048576) (hn : n ≤ 1048576) (ces : List Ce) (A2 : Option Addr) (n2 c2 : Nat) (hl2 : ces.length = n2) (hA2 : A2 = none → c2 = 0) (hc2 : n2 ≤ c2) (hn2 : n2 ≤ 2000000) (x0 x1 x2 x3 : Int) (w : World) (h : Nds w A gs) (h2 : Ces w A2 ces) :
    Calls Try.prog 21 #[.agg #[.slice A n c, .int .i64 wk, .int .i64 cp], .slice A2 n2 c2, .agg #[.int .i64 x0, .int .i64 x1, .int .i64 x2, .int .i64 x3]] w (ImpEnd w (impG gs wk cp ces (x0, x1, x2, x3))) := by
  obtain ⟨q, hq⟩ : ∃ q, impG gs wk cp ces (x0, x1, x2, x3) = q := ⟨_, rfl⟩
  obtain ⟨on, hon⟩ : ∃ q, (impB gs wk cp (x0, x1, x2, x3) && (recL ces (x0, x1, x2, x3)).2) = q := ⟨_, rfl⟩
  have IV := Lib.hid (fun W hb => implImv_any gs wk cp A n c hl ho hn ces A2 n2 c2 hl2 hA2 hc2 hn2 x0 x1 x2 x3 W (h.below (show Below w.heap.size w W from hb)) (h2.below hb))
  rw [hq, hon] at IV
  rw [hq]
  clear hq hon h h2 hl ho hl2 hA2
  obtain ⟨V, hW⟩ : ∃ z, ((w.alloc (.cells #[.slice A n c, .int .i64 wk, .int .i64 cp] 26)).alloc (.cells #[.int .i64 x0, .int .i64 x1, .int .i64 x2, .int .i64 x3] 38)) = z := ⟨_, rfl⟩
  have hb : Below w.heap.size w V := by rw [← hW]; exact (((Below.refl _ _).alloc (by first | (simp; done) | (simp; omega) | omega) _).alloc (by first | (simp; done) | (simp; omega) | omega) _)
  have az : V.heap.size = w.heap.size + 2 := by rw [← hW]; simp
  have NG := Lib.hid (show Blk V (w.heap.size) 26 #[.slice A n c, .int .i64 wk, .int .i64 cp] by rw [← hW]; exact ((Below.heap_alloc _ _ _ (by first | (simp; done) | (simp; omega))).trans (Blk.new _ _ _)))
  have NX := Lib.hid (show Blk V (w.heap.size + 1) 38 #[.int .i64 x0, .int .i64 x1, .int .i64 x2, .int .i64 x3] by rw [← hW]; exact ((show w.heap.size + 1 = ((w.alloc _)).heap.size by simp) ▸ Blk.new _ _ _))
  have AZV := Lib.hid az
  clear az
  have sz1 := hb.size
  have B1 := Lib.hid (hb)
  clear hb
  have G_1 := NG
  clear NG
  have ltG : w.heap.size < V.heap.size := G_1.out.lt
  have X_1 := NX
  clear NX
  have ltX : w.heap.size + 1 < V.heap.size := X_1.out.lt
  go_enter Try.func21, Try.ntmps21
  have xG0 : V.cell? ⟨w.heap.size, 0, none⟩ = some (.slice A n c) := by rw [G_1.out.cell]; rfl
  have xG1 : V.cell? ⟨w.heap.size, 1, none⟩ = some (.int .i64 wk) := by rw [G_1.out.cell]; rfl
  have xG2 : V.cell? ⟨w.heap.size, 2, none⟩ = some (.int .i64 cp) := by rw [G_1.out.cell]; rfl
  have xX0 : V.cell? ⟨w.heap.size + 1, 0, none⟩ = some (.int .i64 x0) := by rw [X_1.out.cell]; rfl
  have xX1 : V.cell? ⟨w.heap.size + 1, 1, none⟩ = some (.int .i64 x1) := by rw [X_1.out.cell]; rfl
  have xX2 : V.cell? ⟨w.heap.size + 1, 2, none⟩ = some (.int .i64 x2) := by rw [X_1.out.cell]; rfl
  have xX3 : V.cell? ⟨w.heap.size + 1, 3, none⟩ = some (.int .i64 x3) := by rw [X_1.out.cell]; rfl
  go_wp2_with fail
  clear hW xG0 xG1 xG2 xX0 xX1 xX2 xX3
  refine (IV.out _ B1.out).mono ?_
  rintro e w5 ⟨A3, c3, m3, A4, c4, m4, h3, h4, rfl, r3, r4, ap, hb⟩
  have R3 := Lib.hid r3
  have R4 := Lib.hid r4
  have H3 := Lib.hid h3
  have H4 := Lib.hid h4
  have AP := Lib.hid ap
  have BE := Lib.hid (below_chain B1.out hb)
  have BS := Lib.hid B1.out.size
  clear r3 r4 h3 h4 ap hb
  go_wp2
  exact bodyPost_ret (v := .tuple #[.slice A3 m3 c3, .slice A4 m4 c4]) (by simp [results, Try.results21, go_sem]) rfl ⟨A3, c3, m3, A4, c4, m4, H3.out, H4.out, rfl, R3.out.bounds BS.out (Nat.le_refl _), R4.out.bounds BS.out (Nat.le_refl _), AP.out, BE.out⟩
end Go.Proofs.Ytbbagpnjjjohpaa.hexes

namespace Go.Proofs.Ytbbagpnjjjohpaa.hexes
open Go.RowKit

set_option maxRecDepth 1000000 in
set_option maxHeartbeats 8000000 in
theorem implCl_any (gs : List Nd) (wk cp : Int) (A : Option Addr) (n c : Nat) (hl : gs.length = n) (ho : ∀ x ∈ gs, x.2.2.2.length ≤ 1048576) (hn : n ≤ 1048576) (bs : List Ce) (A2 : Option Addr) (n2 c2 : Nat) (hl2 : bs.length = n2) (hn2 : n2 ≤ 2000000) (w : World) (h : Nds w A gs) (h2 : Ces w A2 bs) :
    Calls Try.prog 23 #[.agg #[.slice A n c, .int .i64 wk, .int .i64 cp], .slice A2 n2 c2] w fun e w' => e = .returned (.bool (closedG gs wk cp bs)) ∧ Below w.heap.size w w' := by
  obtain ⟨q, hq⟩ : ∃ q, closedG gs wk cp bs = q := ⟨_, rfl⟩
  rw [hq]
  obtain ⟨gk, hgk⟩ : ∃ q, okGr gs dec1 wk cp = q := ⟨_, rfl⟩
  have HQ := Lib.hid (show q = (bs.all (clB gs wk cp bs) && gk) by rw [← hq, closedG_eq, hgk])
  have HGK := Lib.hid hgk
  have HL := Lib.hid hl
  have HO := Lib.hid ho
  have H2L := Lib.hid hl2
  have S0 := Lib.hid h
  have H2 := Lib.hid h2
  clear hq hgk hl ho hl2 h h2
  obtain ⟨V, hW⟩ : ∃ z, (w.alloc (.cells #[.slice A n c, .int .i64 wk, .int .i64 cp] 26)) = z := ⟨_, rfl⟩
  have hb : Below w.heap.size w V := by rw [← hW]; exact ((Below.refl _ _).alloc (by first | (simp; done) | (simp; omega) | omega) _)
  have az : V.heap.size = w.heap.size + 1 := by rw [← hW]; simp
  have NG := Lib.hid (show Blk V (w.heap.size) 26 #[.slice A n c, .int .i64 wk, .int .i64 cp] by rw [← hW]; exact (Blk.new _ _ _))
  have AZV := Lib.hid az
  clear az
  have sz1 := hb.size
  have B1 := Lib.hid (hb)
  clear hb
  have G_1 := NG
  clear NG
  have ltG : w.heap.size < V.heap.size := G_1.out.lt
  go_enter Try.func23, Try.ntmps23
  have xG0 : V.cell? ⟨w.heap.size, 0, none⟩ = some (.slice A n c) := by rw [G_1.out.cell]; rfl
  have xG1 : V.cell? ⟨w.heap.size, 1, none⟩ = some (.int .i64 wk) := by rw [G_1.out.cell]; rfl
  have xG2 : V.cell? ⟨w.heap.size, 2, none⟩ = some (.int .i64 cp) := by rw [G_1.out.cell]; rfl
  go_wp2_with fail
  clear hW xG0 xG1 xG2
  refine (implGrOk_any gs wk cp A n c HL.out HO.out hn HGK.out _ (S0.out.below B1.out)).mono ?_
  rintro e w5 ⟨rfl, hb⟩
  have sz2 := hb.size
  have B2 := Lib.hid (below_chain B1.out hb)
  have G_2 := Lib.hid (G_1.out.below hb)
  clear hb B1 G_1
  cases gk with
  | false =>
    obtain rfl : q = false := by rw [HQ.out]; simp
    go_wp2
    go_ret
    exact ⟨rfl, B2.out⟩
  | true =>
    go_wp2_with fail
    go_loopw [14] (fun i wr => ∃ j : Nat, j ≤ n2 ∧ i = .int .i64 (j : Int) ∧ (bs.take j).all (clB gs wk cp bs) = true ∧ Below w5.heap.size w5 wr) (fun i _ => n2 - (intOf i).toNat)
    case atStart => exact ⟨0, Nat.zero_le _, rfl, by simp, Below.refl _ _⟩
    case round =>
      obtain ⟨j, hj, rfl, ht, hb⟩ := hrel
      have HT := Lib.hid ht
      have GR := Lib.hid (G_2.out.below hb)
      have HB := Lib.hid (below_chain B2.out hb)
      have HB0 := Lib.hid hb
      clear ht hb
      by_cases hlt : j < n2
      · have lj : j < bs.length := by rw [H2L.out]; exact hlt
        obtain ⟨b1, o1, p0, p1, p2, p3, rfl, hz, e0, e1, e2, e3⟩ := (H2.out.below HB.out).at lj
        have i0 : (0 : Int) ≤ (j : Int) := by omega
        have i1 : (j : Int) < (n2 : Int) := by omega
        obtain ⟨more, hmo⟩ : ∃ m, (impG gs wk cp [] (p0, p1, p2, p3)).2 = m := ⟨_, rfl⟩
        obtain ⟨nb, hnb⟩ : ∃ q, nwC bs more = q := ⟨_, rfl⟩
        have HN := Lib.hid (show clB gs wk cp bs bs[j] = nb by rw [hz]; unfold clB; rw [hmo, hnb])
        have lm : more.length ≤ 2 := by rw [← hmo]; exact impG_more _ _ _ _ _
        have HIM := Lib.hid hmo
        have HNB := Lib.hid hnb
        have HLJ := Lib.hid lj
        clear hz hmo hnb
        obtain ⟨U, hU⟩ : ∃ z, wr.alloc (.cells #[.int .i64 p0, .int .i64 p1, .int .i64 p2, .int .i64 p3] 38) = z := ⟨_, rfl⟩
        have bU : Below wr.heap.size wr U := by rw [← hU]; exact (Below.refl _ _).alloc (Nat.le_refl _) _
        have XU := Lib.hid (show Blk U wr.heap.size 38 #[.int .i64 p0, .int .i64 p1, .int .i64 p2, .int .i64 p3] by rw [← hU]; exact Blk.new _ _ _)
        have GU := Lib.hid (GR.out.below bU)
        have BU := Lib.hid (below_chain HB.out bU)
        have BU0 := Lib.hid (below_chain HB0.out bU)
        clear bU
        have x0 : U.cell? ⟨wr.heap.size, 0, none⟩ = some (.int .i64 p0) := by rw [XU.out.cell]; rfl
        have x1 : U.cell? ⟨wr.heap.size, 1, none⟩ = some (.int .i64 p1) := by rw [XU.out.cell]; rfl
        have x2 : U.cell? ⟨wr.heap.size, 2, none⟩ = some (.int .i64 p2) := by rw [XU.out.cell]; rfl
        have x3 : U.cell? ⟨wr.heap.size, 3, none⟩ = some (.int .i64 p3) := by rw [XU.out.cell]; rfl
        have g0 : U.cell? ⟨w.heap.size, 0, none⟩ = some (.slice A n c) := by rw [GU.out.cell]; rfl
        have g1 : U.cell? ⟨w.heap.size, 1, none⟩ = some (.int .i64 wk) := by rw [GU.out.cell]; rfl
        have g2 : U.cell? ⟨w.heap.size, 2, none⟩ = some (.int .i64 cp) := by rw [GU.out.cell]; rfl
        go_wp2_with fail
        clear x0 x1 x2 x3 g0 g1 g2 e0 e1 e2 e3 hU XU GR GU
        refine (implImp_any gs wk cp A n c HL.out HO.out hn [] none 0 0 rfl (fun _ => rfl) (Nat.le_refl _) (by omega) p0 p1 p2 p3 _ (S0.out.below BU.out) (fun h => absurd h (by simp))).mono ?_
        rintro e w6 ⟨A5, c5, m5, A6, c6, m6, hm5, hm6, rfl, _, hr6, _, bq⟩
        rw [HIM.out] at hm6 hr6
        have M6 := Lib.hid (show more.length = m6 from hm6)
        have R6 := Lib.hid (show Wce w6 _ _ A6 m6 c6 more from hr6)
        have B6 := Lib.hid (below_chain BU.out bq)
        have B60 := Lib.hid (below_chain BU0.out bq)
        clear hm5 hm6 hr6 bq BU BU0 HB HB0
        go_wp2_with fail
        refine (implNw_is HNB.out H2L.out hn2 M6.out (by have := M6.out; omega) _ (H2.out.below B6.out) R6.out.ce).mono ?_
        rintro e w7 ⟨rfl, bq⟩
        have B7 := Lib.hid (below_chain B6.out bq)
        have B70 := Lib.hid (below_chain B60.out bq)
        clear bq B6 B60
        cases nb with
        | false =>
          obtain rfl : q = false := by rw [HQ.out, all_off HLJ.out HN.out]; rfl
          go_wp2
          go_ret
          exact ⟨rfl, B7.out⟩
        | true =>
          have HT2 := Lib.hid (all_on HLJ.out HT.out HN.out)
          clear HT HN
          go_wp2
          go_roundw
          case rel => exact ⟨j + 1, by omega, by go_num, HT2.out, B70.out⟩
          case measure => simp [intOf]; omega
      · obtain rfl : j = n2 := by omega
        obtain rfl : q = true := by rw [HQ.out, all_whole (Nat.le_of_eq H2L.out) HT.out]; rfl
        have dl : decide (j < j) = false := by simp
        clear hlt
        go_wp2
        go_ret
        exact ⟨rfl, HB.out⟩
end Go.Proofs.Ytbbagpnjjjohpaa.hexes

namespace Go.Proofs.Ytbbagpnjjjohpaa.hexes
open Go.RowKit

theorem specClosed_is {gs : List Nd} {wk cp : Int} {bs : List Ce} {q : Bool} (hq : closedG gs wk cp bs = q) {A : Option Addr} {n c : Nat} (hl : gs.length = n) (ho : ∀ x ∈ gs, x.2.2.2.length ≤ 1048576) (hn : n ≤ 1048576) {A2 : Option Addr} {n2 c2 : Nat} (hl2 : bs.length = n2) (hn2 : n2 ≤ 2000000) (w : World) (h : Nds w A gs) (h2 : Ces w A2 bs) :
    Calls Try.prog 24 #[.agg #[.slice A n c, .int .i64 wk, .int .i64 cp], .slice A2 n2 c2] w fun e w' => e = .returned (.bool q) ∧ Below w.heap.size w w' := by
  subst hq; exact specCl_any gs wk cp A n c hl ho hn bs A2 n2 c2 hl2 hn2 w h h2
theorem implClosed_is {gs : List Nd} {wk cp : Int} {bs : List Ce} {q : Bool} (hq : closedG gs wk cp bs = q) {A : Option Addr} {n c : Nat} (hl : gs.length = n) (ho : ∀ x ∈ gs, x.2.2.2.length ≤ 1048576) (hn : n ≤ 1048576) {A2 : Option Addr} {n2 c2 : Nat} (hl2 : bs.length = n2) (hn2 : n2 ≤ 2000000) (w : World) (h : Nds w A gs) (h2 : Ces w A2 bs) :
    Calls Try.prog 23 #[.agg #[.slice A n c, .int .i64 wk, .int .i64 cp], .slice A2 n2 c2] w fun e w' => e = .returned (.bool q) ∧ Below w.heap.size w w' := by
  subst hq; exact implCl_any gs wk cp A n c hl ho hn bs A2 n2 c2 hl2 hn2 w h h2
end Go.Proofs.Ytbbagpnjjjohpaa.hexes

namespace Go.Proofs.Ytbbagpnjjjohpaa.hexes
open Go.RowKit Go.ChangeShapes Go.WideShapes Go.Deep Go.Joins

/-- All its numbers are of 64 bits. -/
def wfCe (z : Ce) : Prop := (Lit.int .i64 z.1).wf = true ∧ (Lit.int .i64 z.2.1).wf = true ∧ (Lit.int .i64 z.2.2.1).wf = true ∧ (Lit.int .i64 z.2.2.2).wf = true
/-- WHAT THE WALK IS TOLD OF A LIST THAT CAME IN. -/
structure IsCes (w : World) (a : Option Addr) (n : Nat) (zs : List Ce) : Prop where
  len : zs.length = n
  max : n ≤ maxLen
  ces : Ces w a zs
  wf : ∀ z ∈ zs, wfCe z

theorem addr_add_ce (b off : Nat) (j : Nat) : (Addr.add ⟨b, off, none⟩ j) = ⟨b, off + j, none⟩ := by unfold Addr.add; split <;> simp_all

theorem ce_cells {H : Type} {enc : TypeId × Value → H} {W : World} {base : Nat} {sp : Nat → Bool} {held : Bool} {fuel : Nat} {cs : List Value} {x : DataW H × List MemPlace}
    (h : DataW.trod enc Try.prog W base sp held fuel 59 cs = some x) : ∃ p0 p1 p2 p3 : Int, cs = [.int .i64 p0, .int .i64 p1, .int .i64 p2, .int .i64 p3] ∧ (Lit.int .i64 p0).wf = true ∧ (Lit.int .i64 p1).wf = true ∧ (Lit.int .i64 p2).wf = true ∧ (Lit.int .i64 p3).wf = true := by
  have ce_int : Try.prog.cellsOf 3 = 1 := by kernel_rfl
  have ce : Try.prog.cellsOf 59 = 4 := by kernel_rfl
  have hlen : cs.length = 4 := by
    obtain ⟨_, _, _, _, hl, _⟩ := DataW.trod_struct Try.underlying59 h
    rw [ce] at hl
    exact hl
  obtain ⟨v0, v1, v2, v3, rfl⟩ : ∃ v0 v1 v2 v3, cs = [v0, v1, v2, v3] := by
    rcases cs with _ | ⟨u0, _ | ⟨u1, _ | ⟨u2, _ | ⟨u3, _ | ⟨u4, us⟩⟩⟩⟩⟩
    · simp at hlen
    · simp at hlen
    · simp at hlen
    · simp at hlen
    · exact ⟨u0, u1, u2, u3, rfl⟩
    · simp at hlen
  obtain ⟨xs_1, k_1, _, _, hl_1, hxl_1, hf_1⟩ := DataW.trod_struct Try.underlying59 h
  have hxl2_1 : xs_1.length = 4 := hxl_1
  clear hxl_1 hl_1
  obtain ⟨y_1_0, y_1_1, y_1_2, y_1_3, rfl⟩ : ∃ y_1_0 y_1_1 y_1_2 y_1_3, xs_1 = [y_1_0, y_1_1, y_1_2, y_1_3] := by
    rcases xs_1 with _ | ⟨z0, _ | ⟨z1, _ | ⟨z2, _ | ⟨z3, _ | ⟨z4, zs⟩⟩⟩⟩⟩
    · simp at hxl2_1
    · simp at hxl2_1
    · simp at hxl2_1
    · simp at hxl2_1
    · exact ⟨z0, z1, z2, z3, rfl⟩
    · simp at hxl2_1
  have g_1_0 := hf_1 0 _ rfl
  have g_1_1 := hf_1 1 _ rfl
  have g_1_2 := hf_1 2 _ rfl
  have g_1_3 := hf_1 3 _ rfl
  simp [ce_int] at g_1_0 g_1_1 g_1_2 g_1_3
  clear hf_1
  obtain ⟨p0, e0, _, w0⟩ := DataW.trod_int Try.underlying3 g_1_0
  simp only [List.cons.injEq, and_true] at e0
  obtain ⟨p1, e1, _, w1⟩ := DataW.trod_int Try.underlying3 g_1_1
  simp only [List.cons.injEq, and_true] at e1
  obtain ⟨p2, e2, _, w2⟩ := DataW.trod_int Try.underlying3 g_1_2
  simp only [List.cons.injEq, and_true] at e2
  obtain ⟨p3, e3, _, w3⟩ := DataW.trod_int Try.underlying3 g_1_3
  simp only [List.cons.injEq, and_true] at e3
  exact ⟨p0, p1, p2, p3, by rw [e0, e1, e2, e3], w0, w1, w2, w3⟩

theorem isCes_of_trod {H : Type} {enc : TypeId × Value → H} {W : World} {fuel len cap : Nat} {a : Option Addr} {x : DataW H × List MemPlace}
    (h : DataW.trod enc Try.prog W 0 (fun _ => true) true fuel 58 [.slice a len cap] = some x) : ∃ zs, IsCes W a len zs := by
  rcases open_slice Try.underlying58 h with ⟨hcs, _⟩ | ⟨ad, l, c, m, n, D, Pl, hcs, _, hl, hm, hmm, _, hc⟩
  · simp only [List.cons.injEq, Value.slice.injEq, and_true] at hcs
    obtain ⟨rfl, rfl, rfl⟩ := hcs
    exact ⟨[], rfl, Nat.zero_le _, (fun h => absurd h (by simp)), fun z hz => by cases hz⟩
  · simp only [List.cons.injEq, Value.slice.injEq, and_true] at hcs
    obtain ⟨rfl, rfl, rfl⟩ := hcs
    simp only [if_true] at hmm
    subst hmm
    have ce : Try.prog.cellsOf 59 = 4 := by kernel_rfl
    have key : ∀ i, i < len → ∃ p0 p1 p2 p3 : Int, (W.cell? (ad.add (i * 4)) = some (.int .i64 p0) ∧ W.cell? (ad.add (i * 4 + 1)) = some (.int .i64 p1) ∧ W.cell? (ad.add (i * 4 + 2)) = some (.int .i64 p2) ∧ W.cell? (ad.add (i * 4 + 3)) = some (.int .i64 p3)) ∧ (Lit.int .i64 p0).wf = true ∧ (Lit.int .i64 p1).wf = true ∧ (Lit.int .i64 p2).wf = true ∧ (Lit.int .i64 p3).wf = true := fun i hi => by
      obtain ⟨cs', h1, h2⟩ := hc i (by omega)
      rw [ce] at h1
      obtain ⟨_, hlen, hcell⟩ := World.cells?_some h1
      obtain ⟨p0, p1, p2, p3, rfl, hw⟩ := ce_cells h2
      have e0 := hcell 0 (by omega)
      have e1 := hcell 1 (by omega)
      have e2 := hcell 2 (by omega)
      have e3 := hcell 3 (by omega)
      rw [add_add] at e0 e1 e2 e3
      exact ⟨p0, p1, p2, p3, ⟨by simpa using e0, by simpa using e1, by simpa using e2, by simpa using e3⟩, hw⟩
    have spot : 0 < len → ad = ⟨ad.block, ad.off, none⟩ := fun hp => by
      obtain ⟨p0, p1, p2, p3, ⟨h0, _⟩, _⟩ := key 0 hp
      have : ad.spot = none := by simpa [Addr.add] using World.cell?_spot h0
      cases ad; simp_all
    have build : ∀ k, k ≤ len → ∃ zs : List Ce, zs.length = k ∧ (∀ j, (h : j < zs.length) → W.cell? (ad.add (j * 4)) = some (.int .i64 zs[j].1) ∧ W.cell? (ad.add (j * 4 + 1)) = some (.int .i64 zs[j].2.1) ∧ W.cell? (ad.add (j * 4 + 2)) = some (.int .i64 zs[j].2.2.1) ∧ W.cell? (ad.add (j * 4 + 3)) = some (.int .i64 zs[j].2.2.2)) ∧ ∀ z ∈ zs, wfCe z := by
      intro k
      induction k with
      | zero => exact fun _ => ⟨[], rfl, fun j h => absurd h (by simp), fun z hz => by cases hz⟩
      | succ k ih =>
        intro hk
        obtain ⟨zs, hl', hz, hwz⟩ := ih (by omega)
        obtain ⟨p0, p1, p2, p3, hcc, hw⟩ := key k (by omega)
        refine ⟨zs ++ [(p0, p1, p2, p3)], by simp [hl'], fun j hj => ?_, fun z hz => ?_⟩
        · by_cases hj2 : j < zs.length
          · rw [List.getElem_append_left hj2]
            exact hz j hj2
          · have hjk : j = k := by simp at hj; omega
            subst hjk
            rw [List.getElem_append_right (by omega)]
            simp only [hl', Nat.sub_self, List.getElem_cons_zero]
            exact hcc
        · rcases List.mem_append.1 hz with h' | h'
          · exact hwz z h'
          · simp only [List.mem_singleton] at h'
            subst h'
            exact hw
    obtain ⟨zs, hl', hz, hwz⟩ := build len (Nat.le_refl _)
    refine ⟨zs, hl', Nat.le_trans hl hm, fun hp => ?_, hwz⟩
    have hs := spot (by omega)
    refine ⟨ad.block, ad.off, by rw [← hs], ?_, fun j hj => ?_⟩
    · have h0 := (hz 0 (by omega)).1
      rw [hs, addr_add_ce] at h0
      exact World.block_lt_of_cell? W ⟨ad.block, ad.off + 0 * 4, none⟩ h0
    · obtain ⟨h0, h1, h2, h3⟩ := hz j hj
      rw [hs, addr_add_ce] at h0 h1 h2 h3
      exact ⟨h0, by rw [Nat.add_assoc]; exact h1, by rw [Nat.add_assoc]; exact h2, by rw [Nat.add_assoc]; exact h3⟩
end Go.Proofs.Ytbbagpnjjjohpaa.hexes

namespace Go.Proofs.Ytbbagpnjjjohpaa.hexes
open Go.RowKit
theorem Row.cap {w : World} {lo hi e size n c : Nat} {A : Option Addr} {xs : List Value} (h : Row w lo hi e size A n c xs) : n ≤ c := by
  rcases h.own.2 with ⟨h0, rfl⟩ | ⟨g, cap, cur, hv, _, _, hnc, _⟩
  · exact Nat.zero_le _
  · simp only [Value.slice.injEq, true_and] at hv
    obtain ⟨_, rfl⟩ := hv
    exact hnc
end Go.Proofs.Ytbbagpnjjjohpaa.hexes

namespace Go.Proofs.Ytbbagpnjjjohpaa.hexes
open Go.RowKit

theorem XB.wrote {w w' : World} {b : Nat} {x0 x1 x2 x3 : Int} {lo hi : Nat} (h : XB b x0 x1 x2 x3 w) (hw : Wrote w w' lo hi) (hd : b < lo ∨ hi ≤ b) : XB b x0 x1 x2 x3 w' := by
  obtain ⟨row, hg, hr⟩ := hw
  exact h.grown hg (fun e => by have := hr b e; omega)
theorem Row.base {w : World} {lo lo' hi e size n c : Nat} {A : Option Addr} {xs : List Value} (h : Row w lo hi e size A n c xs) (hl : lo' ≤ lo) : Row w lo' hi e size A n c xs := ⟨own_base h.own hl, h.lt⟩
end Go.Proofs.Ytbbagpnjjjohpaa.hexes

