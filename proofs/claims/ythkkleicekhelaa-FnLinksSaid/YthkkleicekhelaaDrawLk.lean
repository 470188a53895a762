/-
  spec.l06Link.
-/
import Derived.Test.YthkkleicekhelaaLkState
import Derived.Test.YthkkleicekhelaaRegQ
import Derived.Test.YthkkleicekhelaaDrawRc
import Derived.Test.YthkkleicekhelaaSpecSend
import Derived.Test.YthkkleicekhelaaSpecTake
import Derived.Test.YthkkleicekhelaaLkBack
import Derived.Test.YthkkleicekhelaaLkPlain
import Derived.Deep.AppendLies
import Derived.Deep.DeepCutAuto
import Derived.Deep.CutBlock
namespace Go.Proofs.Ythkkleicekhelaa.hexes
open Go.RowKit

def Sm (j : Nat) (x : Int) : Prop := -(10 + (j : Int)) ≤ x ∧ x ≤ 10 + (j : Int)
theorem Sm.up {j : Nat} {x : Int} (h : Sm j x) : Sm (j + 1) x := by unfold Sm at *; omega
theorem turn_sm {j : Nat} {x d y : Int} {ok : Bool} (h : Sm j x) (h1 : d ≤ 1) (h2 : -1 ≤ d) (e : turnI ok x d = y) : Sm (j + 1) y := by
  subst e
  unfold turnI Sm at *
  split <;> omega

/-- How a drawn link ends: at most m records, numbers not above M. -/
def LkEnd (m : Nat) (M : Int) (w : World) (c : Nat) (A : Option Addr) (len cap : Nat) (e : Ending) (w' : World) : Prop :=
  ∃ (p a bb s g : Int) (A1 : Option Addr) (n c1 : Nat) (zs : List Rc), n ≤ m ∧ zs.length = n ∧ (-M ≤ p ∧ p ≤ M) ∧ (-M ≤ a ∧ a ≤ M) ∧ (-M ≤ bb ∧ bb ≤ M) ∧ (-M ≤ s ∧ s ≤ M) ∧ (-M ≤ g ∧ g ≤ M) ∧ e = .returned (.agg #[.int .i64 p, .slice A1 n c1, .int .i64 a, .int .i64 bb, .int .i64 s, .int .i64 g]) ∧ w'.ownsRow w.heap.size 30 5 (.slice A1 n c1) n (rcCells zs) ∧ Cursor w' c A len cap ∧ w.grownBy w' (some c)

def LkRound (b : World) (c : Nat) (A : Option Addr) (len cap r x : Nat) (i : Value) (wx : World) : Prop := ∃ (j : Nat) (p a bb s g : Int) (A1 : Option Addr) (n c1 : Nat) (zs : List Rc), i = .int .i64 (j : Int) ∧ j ≤ 8 ∧ n ≤ j ∧ zs.length = n ∧ Sm j p ∧ Sm j a ∧ Sm j bb ∧ Sm j s ∧ Sm j g ∧ LkSt b wx c A len cap r x p a bb s g A1 n c1 zs

set_option maxRecDepth 100000 in
set_option maxHeartbeats 16000000 in
theorem link_draw (w : World) (c : Nat) (A : Option Addr) (len cap : Nat) (hlen : len ≤ 2097152) (hcur : Cursor w c A len cap) :
    Calls Try.prog 70 #[.pointer (some ⟨c, 0, none⟩)] w (LkEnd 8 100 w c A len cap) := by
  have hc := hcur.lt
  have HC := Lib.hid hcur
  clear hcur
  go_enter Try.func70, Try.ntmps70
  go_wp2_with fail
  generalize hW : w.alloc _ = W
  have bW : Below w.heap.size w W := by rw [← hW]; exact (Below.refl _ _).alloc (Nat.le_refl _) _
  have r0 : Blk W w.heap.size 26 #[.int .i64 0, .slice none 0 0, .int .i64 0, .int .i64 0, .int .i64 0, .int .i64 0] := by rw [← hW]; exact Blk.new _ _ _
  refine (below_any 4 (by omega) (by omega) W c A len cap hlen (HC.out.belowD bW)).mono ?_
  rintro e w0 ⟨k0, hk0, rfl, hc1, g1⟩
  have C1 := Lib.hid hc1
  have G1 := Lib.hid (grown_trans (row := some c) (grown_below (grown_refl w (some c)) bW) g1)
  have R1 := Lib.hid (r0.grown g1 (by simp; omega))
  have z1 : w.heap.size < w0.heap.size := R1.out.lt
  clear hc1 g1 r0 bW hW
  obtain ⟨k, hk⟩ : ∃ k : Int, 1 + (k0 : Int) = k := ⟨_, rfl⟩
  have kb : 1 ≤ k ∧ k ≤ 4 := by omega
  have mk : IntKind.i64.wrap k = k := IntWalk.i64_in _ (by omega)
  have EN := Lib.hid (show ∀ W, Calls Try.prog 80 #[.int .i64 k] W fun e w' => e = .returned (.agg #[.int .i64 k, .slice none 0 0, .int .i64 k, .int .i64 0, .int .i64 0, .int .i64 0]) ∧ Below W.heap.size W w' from fun W => by have h := specNew_any k W; rw [show brought k 1 4 = k by unfold brought; rw [if_neg (by omega), if_neg (by omega)]] at h; exact h)
  go_wp2_with fail
  refine (EN.out _).mono ?_
  rintro e w1 ⟨rfl, hb1⟩
  have C2 := Lib.hid (C1.out.belowD hb1)
  have G2 := Lib.hid (grown_below G1.out hb1)
  have R2 := Lib.hid (R1.out.below hb1)
  have z2 : w.heap.size < w1.heap.size := R2.out.lt
  clear hb1 C1 G1 R1 EN hk
  go_upto_region 2 with fail
  generalize hU : w1.alloc _ = U
  have bU : Below w1.heap.size w1 U := by rw [← hU]; exact (Below.refl _ _).alloc (Nat.le_refl _) _
  have S0 := Lib.hid (show LkSt w U c A len cap w.heap.size w1.heap.size k k 0 0 0 none 0 0 [] from ⟨HC.out, Nat.le_refl _, G2.out.size, by omega, C2.out.belowD bU, grown_below G2.out bU, R2.out.below bU, by rw [← hU]; exact Blk.new _ _ _, World.ownsRow_nil U w.heap.size _ _⟩)
  clear bU hU C2 G2 R2
  go_wp2
  go_loopw [4] (fun i wx => LkRound w c A len cap w.heap.size w1.heap.size i wx) (fun i _ => 8 - (intOf i).toNat)
  case atStart => exact ⟨0, k, k, 0, 0, 0, none, 0, 0, [], rfl, by omega, by omega, rfl, by unfold Sm; omega, by unfold Sm; omega, by unfold Sm; omega, by unfold Sm; omega, by unfold Sm; omega, S0.out⟩
  case round =>
    obtain ⟨j, p, a, bb, s, g, A1, n, c1, zs, rfl, hj, hn, hl, jp, ja, jb, js, jg, hS⟩ := hrel
    have S2 := Lib.hid hS
    have HL := Lib.hid hl
    have NL := Lib.hid (own_nil hS.row)
    clear hS hl S0
    go_wp2_with fail
    refine (below_any 9 (by omega) (by omega) wr c A len cap hlen S2.out.cur).mono ?_
    rintro e w2 ⟨y, hy, rfl, hc2, g2⟩
    have S3 := Lib.hid (S2.out.draw hc2 g2)
    clear hc2 g2 S2
    by_cases hjy : j < y
    · skip
      go_wp2_with fail
      refine (below_any 4 (by omega) (by omega) w2 c A len cap hlen S3.out.cur).mono ?_
      rintro e w3 ⟨t, ht, rfl, hc2, g2⟩
      have S4 := Lib.hid (S3.out.draw hc2 g2)
      clear hc2 g2 S3
      by_cases t0 : t = 0
      · subst t0
        obtain ⟨ok, hok⟩ : ∃ r, takeOk p a bb s g n zs = r := ⟨_, rfl⟩
        obtain ⟨us, hu⟩ : ∃ us, takeQ ok zs = us := ⟨_, rfl⟩
        obtain ⟨m, hm⟩ : ∃ m, us.length = m := ⟨_, rfl⟩
        obtain ⟨⟨q0, ⟨q1, q2⟩, q3, q4⟩, hq⟩ : ∃ q, takeR ok zs = q := ⟨_, rfl⟩
        obtain ⟨bx, hbx⟩ : ∃ z, turnI ok bb 1 = z := ⟨_, rfl⟩
        obtain ⟨gx, hgx⟩ : ∃ z, turnI ok g 1 = z := ⟨_, rfl⟩
        have E := Lib.hid (show ∀ W, Rcs W A1 zs → Calls Try.prog 18 #[.agg #[.int .i64 p, .slice A1 n c1, .int .i64 a, .int .i64 bb, .int .i64 s, .int .i64 g]] W fun e w' => ∃ A2 c2, e = .returned (.tuple #[.agg #[.int .i64 p, .slice A2 m c2, .int .i64 a, .int .i64 bx, .int .i64 s, .int .i64 gx], .agg #[.int .i64 q0, .int .i64 q1, .int .i64 q2, .int .i64 q3, .int .i64 q4], .bool ok]) ∧ w'.ownsRow W.heap.size 30 5 (.slice A2 m c2) m (rcCells us) ∧ Below W.heap.size W w' from fun W h => by rw [← hbx, ← hgx]; exact specTake_any n zs HL.out A1 c1 NL.out p a bb s g W h (by omega) hok hu hm hq)
        have jb1 := turn_sm jb (by omega : (1 : Int) ≤ 1) (by omega) hbx
        have jg1 := turn_sm jg (by omega : (1 : Int) ≤ 1) (by omega) hgx
        have hmn : m ≤ n := by rw [← hm, ← hu, ← HL.out]; unfold takeQ; split <;> simp
        have HM := Lib.hid hm
        clear hok hu hm hq hbx hgx
        have x0 : w3.cell? ⟨w1.heap.size, 0, none⟩ = some (.int .i64 p) := by rw [S4.out.kx.cell]; rfl
        have x1 : w3.cell? ⟨w1.heap.size, 1, none⟩ = some (.slice A1 n c1) := by rw [S4.out.kx.cell]; rfl
        have x2 : w3.cell? ⟨w1.heap.size, 2, none⟩ = some (.int .i64 a) := by rw [S4.out.kx.cell]; rfl
        have x3 : w3.cell? ⟨w1.heap.size, 3, none⟩ = some (.int .i64 bb) := by rw [S4.out.kx.cell]; rfl
        have x4 : w3.cell? ⟨w1.heap.size, 4, none⟩ = some (.int .i64 s) := by rw [S4.out.kx.cell]; rfl
        have x5 : w3.cell? ⟨w1.heap.size, 5, none⟩ = some (.int .i64 g) := by rw [S4.out.kx.cell]; rfl
        go_wp2_with fail
        clear x0 x1 x2 x3 x4 x5
        refine (E.out _ (own_rcs S4.out.row)).mono ?_
        rintro e w4 ⟨A2, c2, rfl, o2, hb⟩
        have S5 := Lib.hid (S4.out.fresh hb)
        have O5 := Lib.hid (own_base o2 S4.out.gr.size)
        clear hb o2 S4
        have x0 : w4.cell? ⟨w1.heap.size, 0, none⟩ = some (.int .i64 p) := by rw [S5.out.kx.cell]; rfl
        have xf0 := S5.out.kx.frozen 0
        have x1 : w4.cell? ⟨w1.heap.size, 1, none⟩ = some (.slice A1 n c1) := by rw [S5.out.kx.cell]; rfl
        have xf1 := S5.out.kx.frozen 1
        have x2 : w4.cell? ⟨w1.heap.size, 2, none⟩ = some (.int .i64 a) := by rw [S5.out.kx.cell]; rfl
        have xf2 := S5.out.kx.frozen 2
        have x3 : w4.cell? ⟨w1.heap.size, 3, none⟩ = some (.int .i64 bb) := by rw [S5.out.kx.cell]; rfl
        have xf3 := S5.out.kx.frozen 3
        have x4 : w4.cell? ⟨w1.heap.size, 4, none⟩ = some (.int .i64 s) := by rw [S5.out.kx.cell]; rfl
        have xf4 := S5.out.kx.frozen 4
        have x5 : w4.cell? ⟨w1.heap.size, 5, none⟩ = some (.int .i64 g) := by rw [S5.out.kx.cell]; rfl
        have xf5 := S5.out.kx.frozen 5
        go_wp2_with fail
        go_roundw
        case rel => exact ⟨j + 1, p, a, bx, s, gx, A2, m, c2, us, by go_num, by omega, by omega, HM.out, jp.up, ja.up, jb1, js.up, jg1, S5.out.put6 O5.out p a bx s gx rfl⟩
        case measure => simp [intOf]; omega
      have d0 : ((t : Int) == 0) = false := by simp; omega
      by_cases t1 : t = 1
      · subst t1
        clear d0
        obtain ⟨ok, hok⟩ : ∃ r, backOk p a bb s g n zs = r := ⟨_, rfl⟩
        obtain ⟨ax, hax⟩ : ∃ z, turnI ok a 1 = z := ⟨_, rfl⟩
        obtain ⟨bx, hbx⟩ : ∃ z, turnI ok bb (-1) = z := ⟨_, rfl⟩
        have E := Lib.hid (show ∀ W, Rcs W A1 zs → Calls Try.prog 21 #[.agg #[.int .i64 p, .slice A1 n c1, .int .i64 a, .int .i64 bb, .int .i64 s, .int .i64 g]] W fun e w' => ∃ A2 c2, e = .returned (.tuple #[.agg #[.int .i64 p, .slice A2 n c2, .int .i64 ax, .int .i64 bx, .int .i64 s, .int .i64 g], .bool ok]) ∧ w'.ownsRow W.heap.size 30 5 (.slice A2 n c2) n (rcCells zs) ∧ Below W.heap.size W w' from fun W h => by rw [← hbx, ← hax]; exact specBack_any n zs HL.out A1 c1 NL.out p a bb s g W h (by omega) hok)
        have jb1 := turn_sm jb (by omega : (-1 : Int) ≤ 1) (by omega) hbx
        have ja1 := turn_sm ja (by omega : (1 : Int) ≤ 1) (by omega) hax
        clear hok hax hbx
        have x0 : w3.cell? ⟨w1.heap.size, 0, none⟩ = some (.int .i64 p) := by rw [S4.out.kx.cell]; rfl
        have x1 : w3.cell? ⟨w1.heap.size, 1, none⟩ = some (.slice A1 n c1) := by rw [S4.out.kx.cell]; rfl
        have x2 : w3.cell? ⟨w1.heap.size, 2, none⟩ = some (.int .i64 a) := by rw [S4.out.kx.cell]; rfl
        have x3 : w3.cell? ⟨w1.heap.size, 3, none⟩ = some (.int .i64 bb) := by rw [S4.out.kx.cell]; rfl
        have x4 : w3.cell? ⟨w1.heap.size, 4, none⟩ = some (.int .i64 s) := by rw [S4.out.kx.cell]; rfl
        have x5 : w3.cell? ⟨w1.heap.size, 5, none⟩ = some (.int .i64 g) := by rw [S4.out.kx.cell]; rfl
        go_wp2_with fail
        clear x0 x1 x2 x3 x4 x5
        refine (E.out _ (own_rcs S4.out.row)).mono ?_
        rintro e w4 ⟨A2, c2, rfl, o2, hb⟩
        have S5 := Lib.hid (S4.out.fresh hb)
        have O5 := Lib.hid (own_base o2 S4.out.gr.size)
        clear hb o2 S4
        have x0 : w4.cell? ⟨w1.heap.size, 0, none⟩ = some (.int .i64 p) := by rw [S5.out.kx.cell]; rfl
        have xf0 := S5.out.kx.frozen 0
        have x1 : w4.cell? ⟨w1.heap.size, 1, none⟩ = some (.slice A1 n c1) := by rw [S5.out.kx.cell]; rfl
        have xf1 := S5.out.kx.frozen 1
        have x2 : w4.cell? ⟨w1.heap.size, 2, none⟩ = some (.int .i64 a) := by rw [S5.out.kx.cell]; rfl
        have xf2 := S5.out.kx.frozen 2
        have x3 : w4.cell? ⟨w1.heap.size, 3, none⟩ = some (.int .i64 bb) := by rw [S5.out.kx.cell]; rfl
        have xf3 := S5.out.kx.frozen 3
        have x4 : w4.cell? ⟨w1.heap.size, 4, none⟩ = some (.int .i64 s) := by rw [S5.out.kx.cell]; rfl
        have xf4 := S5.out.kx.frozen 4
        have x5 : w4.cell? ⟨w1.heap.size, 5, none⟩ = some (.int .i64 g) := by rw [S5.out.kx.cell]; rfl
        have xf5 := S5.out.kx.frozen 5
        go_wp2_with fail
        go_roundw
        case rel => exact ⟨j + 1, p, ax, bx, s, g, A2, n, c2, zs, by go_num, by omega, by omega, HL.out, jp.up, ja1, jb1, js.up, jg.up, S5.out.put6 O5.out p ax bx s g rfl⟩
        case measure => simp [intOf]; omega
      have d1 : ((t : Int) == 1) = false := by simp; omega
      clear t0 t1 ht
      go_wp2_with fail
      obtain ⟨w4, hw4⟩ : ∃ z, w3.drew = z := ⟨_, rfl⟩
      have S5 := Lib.hid (show LkSt w w4 c A len cap w.heap.size w1.heap.size p a bb s g A1 n c1 zs by rw [← hw4]; exact S4.out.drew)
      refine wp_region_held_drew (S := fun _ => True) (by kernel_rfl) ?_ (fun hHeld => ?_)
      · exact trivial
      change wpAnyH _ _ opsQ6 _ _ 8 (#[false, false, false, false, false, false, false, false] : Array Bool) _ _
      rw [hw4]
      clear hw4 S4
      refine tQ6_e_1 (.pointer (some ⟨c, 0, none⟩)) (fun _ _ _ h => h) (Or.inl ⟨by rfl, fun W hSw => ?_⟩) hHeld ?_
      · skip
        unfold qQ6_1
        go_simp
      try simp only [Act.put, List.setIfInBounds_toArray, List.set_cons_zero, List.set_cons_succ]
      refine cQ6_1_02 (fun K hK => ?_) (fun K hK => ?_)
      · rw [if_pos (by rfl)]
        unfold qQ6_0
        have l0 : w4.cell? ⟨w1.heap.size, 0, none⟩ = some (.int .i64 p) := by rw [S5.out.kx.cell]; rfl
        have l1 : w4.cell? ⟨w1.heap.size, 1, none⟩ = some (.slice A1 n c1) := by rw [S5.out.kx.cell]; rfl
        have l2 : w4.cell? ⟨w1.heap.size, 2, none⟩ = some (.int .i64 a) := by rw [S5.out.kx.cell]; rfl
        have l3 : w4.cell? ⟨w1.heap.size, 3, none⟩ = some (.int .i64 bb) := by rw [S5.out.kx.cell]; rfl
        have l4 : w4.cell? ⟨w1.heap.size, 4, none⟩ = some (.int .i64 s) := by rw [S5.out.kx.cell]; rfl
        have l5 : w4.cell? ⟨w1.heap.size, 5, none⟩ = some (.int .i64 g) := by rw [S5.out.kx.cell]; rfl
        go_simp
        clear l0 l1 l2 l3 l4 l5
        refine Shut.out hK _ _ ?_ (fun hHeld => ?_)
        · exact trivial
        clear hK K
        try simp only [Act.put, List.setIfInBounds_toArray, List.set_cons_zero, List.set_cons_succ]
        refine cQ6_01_2 (fun K hK => ?_)
        rw [if_pos (by rfl)]
        unfold qQ6_2
        go_simp
        refine (rec_draw w4 c A len cap hlen S5.out.cur).mono ?_
        rintro e v1 ⟨p0, p1, p2, p3, p4, _, rfl, hcn, gn⟩
        have T1 := Lib.hid (S5.out.draw hcn gn)
        clear hcn gn
        obtain ⟨ok, hok⟩ : ∃ r, sendOk p a bb s g n zs (p0, (p1, p2), p3, p4) = r := ⟨_, rfl⟩
        obtain ⟨us, hu⟩ : ∃ us, sendQ ok zs (p0, (p1, p2), p3, p4) = us := ⟨_, rfl⟩
        obtain ⟨m, hm⟩ : ∃ m, us.length = m := ⟨_, rfl⟩
        obtain ⟨ax, hax⟩ : ∃ z, turnI ok a (-1) = z := ⟨_, rfl⟩
        obtain ⟨sx, hsx⟩ : ∃ z, turnI ok s 1 = z := ⟨_, rfl⟩
        have E := Lib.hid (show ∀ W, Rcs W A1 zs → Calls Try.prog 12 #[.agg #[.int .i64 p, .slice A1 n c1, .int .i64 a, .int .i64 bb, .int .i64 s, .int .i64 g], .agg #[.int .i64 p0, .int .i64 p1, .int .i64 p2, .int .i64 p3, .int .i64 p4]] W fun e w' => ∃ A2 c2, e = .returned (.tuple #[.agg #[.int .i64 p, .slice A2 m c2, .int .i64 ax, .int .i64 bb, .int .i64 sx, .int .i64 g], .bool ok]) ∧ w'.ownsRow W.heap.size 30 5 (.slice A2 m c2) m (rcCells us) ∧ Below W.heap.size W w' from fun W h => by rw [← hsx, ← hax]; exact specSend_any n zs HL.out A1 c1 NL.out p a bb s g p0 p1 p2 p3 p4 W h (by omega) hok hu hm)
        have ja1 := turn_sm ja (by omega : (-1 : Int) ≤ 1) (by omega) hax
        have js1 := turn_sm js (by omega : (1 : Int) ≤ 1) (by omega) hsx
        have hmn : m ≤ n + 1 := by rw [← hm, ← hu, ← HL.out]; unfold sendQ; split <;> simp
        have HM := Lib.hid hm
        clear hok hu hm hax hsx
        refine Shut.out hK _ _ ?_ (fun hHeld => ?_)
        · exact trivial
        clear hK K
        try simp only [Act.put, List.setIfInBounds_toArray, List.set_cons_zero, List.set_cons_succ]
        refine cQ6_012_3 (fun K hK => ?_)
        rw [if_pos (by rfl)]
        unfold qQ6_3
        go_simp
        refine (E.out _ (own_rcs T1.out.row)).mono ?_
        rintro e v2 ⟨A2, c2, rfl, o2, hb⟩
        have T2 := Lib.hid (T1.out.fresh hb)
        have O5 := Lib.hid (own_base o2 T1.out.gr.size)
        clear hb o2 E
        refine Shut.out hK _ _ ?_ (fun hHeld => ?_)
        · exact trivial
        clear hK K
        try simp only [Act.put, List.setIfInBounds_toArray, List.set_cons_zero, List.set_cons_succ]
        refine tQ6_0123_4 (.tuple #[.agg #[.int .i64 p, .slice A2 m c2, .int .i64 ax, .int .i64 bb, .int .i64 sx, .int .i64 g], .bool ok]) (fun _ _ _ h => h) (Or.inl ⟨by rfl, fun W hSw => ?_⟩) hHeld ?_
        · skip
          unfold qQ6_4
          go_simp
        try simp only [Act.put, List.setIfInBounds_toArray, List.set_cons_zero, List.set_cons_succ]
        refine tQ6_01234_5 (.agg #[.int .i64 p, .slice A2 m c2, .int .i64 ax, .int .i64 bb, .int .i64 sx, .int .i64 g]) (fun _ _ _ h => h) (Or.inl ⟨by rfl, fun W hSw => ?_⟩) hHeld ?_
        · skip
          unfold qQ6_5
          go_simp
        try simp only [Act.put, List.setIfInBounds_toArray, List.set_cons_zero, List.set_cons_succ]
        refine tQ6_012345_6 (.bool ok) (fun _ _ _ h => h) (Or.inl ⟨by rfl, fun W hSw => ?_⟩) hHeld ?_
        · skip
          unfold qQ6_6
          go_simp
        try simp only [Act.put, List.setIfInBounds_toArray, List.set_cons_zero, List.set_cons_succ]
        refine cQ6_0123456_7 (fun K hK => ?_)
        rw [if_pos (by rfl)]
        unfold qQ6_7
        have l0 : v2.cell? ⟨w1.heap.size, 0, none⟩ = some (.int .i64 p) := by rw [T2.out.kx.cell]; rfl
        have lf0 := T2.out.kx.frozen 0
        have l1 : v2.cell? ⟨w1.heap.size, 1, none⟩ = some (.slice A1 n c1) := by rw [T2.out.kx.cell]; rfl
        have lf1 := T2.out.kx.frozen 1
        have l2 : v2.cell? ⟨w1.heap.size, 2, none⟩ = some (.int .i64 a) := by rw [T2.out.kx.cell]; rfl
        have lf2 := T2.out.kx.frozen 2
        have l3 : v2.cell? ⟨w1.heap.size, 3, none⟩ = some (.int .i64 bb) := by rw [T2.out.kx.cell]; rfl
        have lf3 := T2.out.kx.frozen 3
        have l4 : v2.cell? ⟨w1.heap.size, 4, none⟩ = some (.int .i64 s) := by rw [T2.out.kx.cell]; rfl
        have lf4 := T2.out.kx.frozen 4
        have l5 : v2.cell? ⟨w1.heap.size, 5, none⟩ = some (.int .i64 g) := by rw [T2.out.kx.cell]; rfl
        have lf5 := T2.out.kx.frozen 5
        go_simp
        clear l0 l1 l2 l3 l4 l5 lf0 lf1 lf2 lf3 lf4 lf5
        generalize hV : (((((v2.setCell _ _).setCell _ _).setCell _ _).setCell _ _).setCell _ _).setCell _ _ = v3
        have T3 := Lib.hid (T2.out.put6 O5.out p ax bb sx g hV)
        clear hV O5
        refine Shut.out hK _ _ ?_ (fun hHeld => ?_)
        · exact trivial
        clear hK K
        try simp only [Act.put, List.setIfInBounds_toArray, List.set_cons_zero, List.set_cons_succ]
        refine wpAnyH_done (by kernel_rfl) ?_ _
        clear hHeld
        go_wp2
        go_roundw
        case rel => exact ⟨j + 1, p, ax, bb, sx, g, A2, m, c2, us, by go_num, by omega, by omega, HM.out, jp.up, ja1, jb.up, js1, jg.up, T3.out⟩
        case measure => simp [intOf]; omega
      · rw [if_pos (by rfl)]
        unfold qQ6_2
        go_simp
        refine (rec_draw w4 c A len cap hlen S5.out.cur).mono ?_
        rintro e v1 ⟨p0, p1, p2, p3, p4, _, rfl, hcn, gn⟩
        have T1 := Lib.hid (S5.out.draw hcn gn)
        clear hcn gn
        obtain ⟨ok, hok⟩ : ∃ r, sendOk p a bb s g n zs (p0, (p1, p2), p3, p4) = r := ⟨_, rfl⟩
        obtain ⟨us, hu⟩ : ∃ us, sendQ ok zs (p0, (p1, p2), p3, p4) = us := ⟨_, rfl⟩
        obtain ⟨m, hm⟩ : ∃ m, us.length = m := ⟨_, rfl⟩
        obtain ⟨ax, hax⟩ : ∃ z, turnI ok a (-1) = z := ⟨_, rfl⟩
        obtain ⟨sx, hsx⟩ : ∃ z, turnI ok s 1 = z := ⟨_, rfl⟩
        have E := Lib.hid (show ∀ W, Rcs W A1 zs → Calls Try.prog 12 #[.agg #[.int .i64 p, .slice A1 n c1, .int .i64 a, .int .i64 bb, .int .i64 s, .int .i64 g], .agg #[.int .i64 p0, .int .i64 p1, .int .i64 p2, .int .i64 p3, .int .i64 p4]] W fun e w' => ∃ A2 c2, e = .returned (.tuple #[.agg #[.int .i64 p, .slice A2 m c2, .int .i64 ax, .int .i64 bb, .int .i64 sx, .int .i64 g], .bool ok]) ∧ w'.ownsRow W.heap.size 30 5 (.slice A2 m c2) m (rcCells us) ∧ Below W.heap.size W w' from fun W h => by rw [← hsx, ← hax]; exact specSend_any n zs HL.out A1 c1 NL.out p a bb s g p0 p1 p2 p3 p4 W h (by omega) hok hu hm)
        have ja1 := turn_sm ja (by omega : (-1 : Int) ≤ 1) (by omega) hax
        have js1 := turn_sm js (by omega : (1 : Int) ≤ 1) (by omega) hsx
        have hmn : m ≤ n + 1 := by rw [← hm, ← hu, ← HL.out]; unfold sendQ; split <;> simp
        have HM := Lib.hid hm
        clear hok hu hm hax hsx
        refine Shut.out hK _ _ ?_ (fun hHeld => ?_)
        · exact trivial
        clear hK K
        try simp only [Act.put, List.setIfInBounds_toArray, List.set_cons_zero, List.set_cons_succ]
        refine cQ6_12_0 (fun K hK => ?_)
        rw [if_pos (by rfl)]
        unfold qQ6_0
        have l0 : v1.cell? ⟨w1.heap.size, 0, none⟩ = some (.int .i64 p) := by rw [T1.out.kx.cell]; rfl
        have l1 : v1.cell? ⟨w1.heap.size, 1, none⟩ = some (.slice A1 n c1) := by rw [T1.out.kx.cell]; rfl
        have l2 : v1.cell? ⟨w1.heap.size, 2, none⟩ = some (.int .i64 a) := by rw [T1.out.kx.cell]; rfl
        have l3 : v1.cell? ⟨w1.heap.size, 3, none⟩ = some (.int .i64 bb) := by rw [T1.out.kx.cell]; rfl
        have l4 : v1.cell? ⟨w1.heap.size, 4, none⟩ = some (.int .i64 s) := by rw [T1.out.kx.cell]; rfl
        have l5 : v1.cell? ⟨w1.heap.size, 5, none⟩ = some (.int .i64 g) := by rw [T1.out.kx.cell]; rfl
        go_simp
        clear l0 l1 l2 l3 l4 l5
        refine Shut.out hK _ _ ?_ (fun hHeld => ?_)
        · exact trivial
        clear hK K
        try simp only [Act.put, List.setIfInBounds_toArray, List.set_cons_zero, List.set_cons_succ]
        refine cQ6_012_3 (fun K hK => ?_)
        rw [if_pos (by rfl)]
        unfold qQ6_3
        go_simp
        refine (E.out _ (own_rcs T1.out.row)).mono ?_
        rintro e v2 ⟨A2, c2, rfl, o2, hb⟩
        have T2 := Lib.hid (T1.out.fresh hb)
        have O5 := Lib.hid (own_base o2 T1.out.gr.size)
        clear hb o2 E
        refine Shut.out hK _ _ ?_ (fun hHeld => ?_)
        · exact trivial
        clear hK K
        try simp only [Act.put, List.setIfInBounds_toArray, List.set_cons_zero, List.set_cons_succ]
        refine tQ6_0123_4 (.tuple #[.agg #[.int .i64 p, .slice A2 m c2, .int .i64 ax, .int .i64 bb, .int .i64 sx, .int .i64 g], .bool ok]) (fun _ _ _ h => h) (Or.inl ⟨by rfl, fun W hSw => ?_⟩) hHeld ?_
        · skip
          unfold qQ6_4
          go_simp
        try simp only [Act.put, List.setIfInBounds_toArray, List.set_cons_zero, List.set_cons_succ]
        refine tQ6_01234_5 (.agg #[.int .i64 p, .slice A2 m c2, .int .i64 ax, .int .i64 bb, .int .i64 sx, .int .i64 g]) (fun _ _ _ h => h) (Or.inl ⟨by rfl, fun W hSw => ?_⟩) hHeld ?_
        · skip
          unfold qQ6_5
          go_simp
        try simp only [Act.put, List.setIfInBounds_toArray, List.set_cons_zero, List.set_cons_succ]
        refine tQ6_012345_6 (.bool ok) (fun _ _ _ h => h) (Or.inl ⟨by rfl, fun W hSw => ?_⟩) hHeld ?_
        · skip
          unfold qQ6_6
          go_simp
        try simp only [Act.put, List.setIfInBounds_toArray, List.set_cons_zero, List.set_cons_succ]
        refine cQ6_0123456_7 (fun K hK => ?_)
        rw [if_pos (by rfl)]
        unfold qQ6_7
        have l0 : v2.cell? ⟨w1.heap.size, 0, none⟩ = some (.int .i64 p) := by rw [T2.out.kx.cell]; rfl
        have lf0 := T2.out.kx.frozen 0
        have l1 : v2.cell? ⟨w1.heap.size, 1, none⟩ = some (.slice A1 n c1) := by rw [T2.out.kx.cell]; rfl
        have lf1 := T2.out.kx.frozen 1
        have l2 : v2.cell? ⟨w1.heap.size, 2, none⟩ = some (.int .i64 a) := by rw [T2.out.kx.cell]; rfl
        have lf2 := T2.out.kx.frozen 2
        have l3 : v2.cell? ⟨w1.heap.size, 3, none⟩ = some (.int .i64 bb) := by rw [T2.out.kx.cell]; rfl
        have lf3 := T2.out.kx.frozen 3
        have l4 : v2.cell? ⟨w1.heap.size, 4, none⟩ = some (.int .i64 s) := by rw [T2.out.kx.cell]; rfl
        have lf4 := T2.out.kx.frozen 4
        have l5 : v2.cell? ⟨w1.heap.size, 5, none⟩ = some (.int .i64 g) := by rw [T2.out.kx.cell]; rfl
        have lf5 := T2.out.kx.frozen 5
        go_simp
        clear l0 l1 l2 l3 l4 l5 lf0 lf1 lf2 lf3 lf4 lf5
        generalize hV : (((((v2.setCell _ _).setCell _ _).setCell _ _).setCell _ _).setCell _ _).setCell _ _ = v3
        have T3 := Lib.hid (T2.out.put6 O5.out p ax bb sx g hV)
        clear hV O5
        refine Shut.out hK _ _ ?_ (fun hHeld => ?_)
        · exact trivial
        clear hK K
        try simp only [Act.put, List.setIfInBounds_toArray, List.set_cons_zero, List.set_cons_succ]
        refine wpAnyH_done (by kernel_rfl) ?_ _
        clear hHeld
        go_wp2
        go_roundw
        case rel => exact ⟨j + 1, p, ax, bb, sx, g, A2, m, c2, us, by go_num, by omega, by omega, HM.out, jp.up, ja1, jb.up, js1, jg.up, T3.out⟩
        case measure => simp [intOf]; omega
    · skip
      unfold Sm at jp ja jb js jg
      have x0 : w2.cell? ⟨w1.heap.size, 0, none⟩ = some (.int .i64 p) := by rw [S3.out.kx.cell]; rfl
      have x1 : w2.cell? ⟨w1.heap.size, 1, none⟩ = some (.slice A1 n c1) := by rw [S3.out.kx.cell]; rfl
      have x2 : w2.cell? ⟨w1.heap.size, 2, none⟩ = some (.int .i64 a) := by rw [S3.out.kx.cell]; rfl
      have x3 : w2.cell? ⟨w1.heap.size, 3, none⟩ = some (.int .i64 bb) := by rw [S3.out.kx.cell]; rfl
      have x4 : w2.cell? ⟨w1.heap.size, 4, none⟩ = some (.int .i64 s) := by rw [S3.out.kx.cell]; rfl
      have x5 : w2.cell? ⟨w1.heap.size, 5, none⟩ = some (.int .i64 g) := by rw [S3.out.kx.cell]; rfl
      have y0 : w2.cell? ⟨w.heap.size, 0, none⟩ = some (.int .i64 0) := by rw [S3.out.kr.cell]; rfl
      have yf0 := S3.out.kr.frozen 0
      have y1 : w2.cell? ⟨w.heap.size, 1, none⟩ = some (.slice none 0 0) := by rw [S3.out.kr.cell]; rfl
      have yf1 := S3.out.kr.frozen 1
      have y2 : w2.cell? ⟨w.heap.size, 2, none⟩ = some (.int .i64 0) := by rw [S3.out.kr.cell]; rfl
      have yf2 := S3.out.kr.frozen 2
      have y3 : w2.cell? ⟨w.heap.size, 3, none⟩ = some (.int .i64 0) := by rw [S3.out.kr.cell]; rfl
      have yf3 := S3.out.kr.frozen 3
      have y4 : w2.cell? ⟨w.heap.size, 4, none⟩ = some (.int .i64 0) := by rw [S3.out.kr.cell]; rfl
      have yf4 := S3.out.kr.frozen 4
      have y5 : w2.cell? ⟨w.heap.size, 5, none⟩ = some (.int .i64 0) := by rw [S3.out.kr.cell]; rfl
      have yf5 := S3.out.kr.frozen 5
      go_wp2_with fail
      generalize hWf : ((((((w2.setCell _ _).setCell _ _).setCell _ _).setCell _ _).setCell _ _).setCell _ _) = Wf
      obtain ⟨kf, of, cf, gf⟩ := S3.out.fin hWf
      have e0 : Wf.cell? ⟨w.heap.size, 0, none⟩ = some (.int .i64 p) := by rw [kf.cell]; rfl
      have e1 : Wf.cell? ⟨w.heap.size, 1, none⟩ = some (.slice A1 n c1) := by rw [kf.cell]; rfl
      have e2 : Wf.cell? ⟨w.heap.size, 2, none⟩ = some (.int .i64 a) := by rw [kf.cell]; rfl
      have e3 : Wf.cell? ⟨w.heap.size, 3, none⟩ = some (.int .i64 bb) := by rw [kf.cell]; rfl
      have e4 : Wf.cell? ⟨w.heap.size, 4, none⟩ = some (.int .i64 s) := by rw [kf.cell]; rfl
      have e5 : Wf.cell? ⟨w.heap.size, 5, none⟩ = some (.int .i64 g) := by rw [kf.cell]; rfl
      exact bodyPost_ret (v := .agg #[.int .i64 p, .slice A1 n c1, .int .i64 a, .int .i64 bb, .int .i64 s, .int .i64 g]) (by simp [results, Try.results70, go_sem, e0, e1, e2, e3, e4, e5]) rfl ⟨p, a, bb, s, g, A1, n, c1, zs, by omega, HL.out, ⟨by omega, by omega⟩, ⟨by omega, by omega⟩, ⟨by omega, by omega⟩, ⟨by omega, by omega⟩, ⟨by omega, by omega⟩, rfl, of, cf, gf⟩

end Go.Proofs.Ythkkleicekhelaa.hexes
