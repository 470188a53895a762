/-
  The walk of FnMemory.
-/
import Derived.Test.YtlmjmhdmhpkkkaaMemFacts
import Derived.Test.YtlmjmhdmhpkkkaaCame
import Derived.Test.YtlmjmhdmhpkkkaaRegF9
namespace Go.Proofs.Ytlmjmhdmhpkkkaa.fnMemory
open Go.RowKit Go.Proofs.Ytlmjmhdmhpkkkaa.hexes

structure Mh (W : World) (b : Nat) (y0 y1 y2 y3 : Int) (b2 : Nat) (u0 u1 u2 u3 : Int) (b3 : Nat) (v0 v1 v2 v3 : Int) (w : World) : Prop where
  p : XB b y0 y1 y2 y3 w
  q : XB b2 u0 u1 u2 u3 w
  r : XB b3 v0 v1 v2 v3 w
  bel : Below W.heap.size W w
theorem Mh.below {W : World} {b : Nat} {y0 y1 y2 y3 : Int} {b2 : Nat} {u0 u1 u2 u3 : Int} {b3 : Nat} {v0 v1 v2 v3 : Int} {w w' : World} (h : Mh W b y0 y1 y2 y3 b2 u0 u1 u2 u3 b3 v0 v1 v2 v3 w) (hb : Below w.heap.size w w') : Mh W b y0 y1 y2 y3 b2 u0 u1 u2 u3 b3 v0 v1 v2 v3 w' := ⟨h.p.below hb, h.q.below hb, h.r.below hb, below_chain h.bel hb⟩

set_option maxRecDepth 1000000 in
set_option maxHeartbeats 16000000 in
theorem walk (a0 : Option Addr) (len0 cap0 : Nat) (z0 : List Int) (w : World) (w0 : IsRow .u8 w a0 len0 cap0 z0) :
    Calls Try.prog 3 #[.slice a0 len0 cap0] w fun e w' => e = .returned (.bool true) ∧ Below w.heap.size w w' := by
  have hcame := came_of_row w0
  have HG := Lib.hid (fun W => big_any a0 len0 cap0 W)
  by_cases h1 : 1048576 < len0
  · have hd : decide (1048576 < (len0 : Int)) = true := by simp; omega
    clear hcame w0
    go_enter Try.func3, Try.ntmps3
    go_wp2_with (go_at_call 11; refine (HG.out _).mono ?_; rintro e w1 ⟨rfl, rfl⟩)
    go_ret
    exact ⟨rfl, Below.refl _ _⟩
  have hd : decide (1048576 < (len0 : Int)) = false := by simp; omega
  have HC := Lib.hid hcame
  clear hcame w0
  go_enter Try.func3, Try.ntmps3
  go_wp2_with (go_at_call 11; refine (HG.out _).mono ?_; rintro e w1 ⟨rfl, rfl⟩)
  refine (drawRec_any _ a0 len0 cap0 (by omega) HC.out).mono ?_
  rintro e w1 ⟨kd, A1, n1, c1, zs, x0, x1, x2, x3, rfl, hn1, L1, b1⟩
  have B1 := Lib.hid (b1)
  have HC_1 := Lib.hid (HC.out.below b1)
  clear HC
  clear b1
  have Lz_1 := Lib.hid L1
  clear L1
  obtain ⟨w2, hw2⟩ : ∃ z, World.alloc w1 (.cells #[.int .i64 x0, .int .i64 x1, .int .i64 x2, .int .i64 x3] 26) = z := ⟨_, rfl⟩
  have b2 : Below w1.heap.size w1 w2 := by rw [← hw2]; exact (Below.refl _ _).alloc (Nat.le_refl _) _
  have nb2 : XB w1.heap.size x0 x1 x2 x3 w2 := by rw [← hw2]; exact XB.new _ _ _ _ _
  have B2 := Lib.hid (below_chain B1.out b2)
  have HC_2 := Lib.hid (HC_1.out.below b2)
  clear HC_1
  have Lz_2 := Lib.hid (Lz_1.out.below b2)
  clear Lz_1
  clear b2 B1
  have Bx_2 := Lib.hid nb2
  clear nb2
  obtain ⟨us, on, hrec⟩ : ∃ us on, recC kd zs (x0, x1, x2, x3) = (us, on) := ⟨_, _, rfl⟩
  obtain ⟨n2, hn2⟩ : ∃ n, us.length = n := ⟨_, rfl⟩
  have hl2 : n2 ≤ 11 := by
    have h1 := recC_len kd zs (x0, x1, x2, x3)
    have h2 := Lz_2.out.len
    rw [hrec] at h1
    simp only at h1
    omega
  have RE := Lib.hid hrec
  have N2 := Lib.hid hn2
  have hon : (on != on) = false := by simp
  clear hrec hn2
  have k0 := Bx_2.out.c0
  have k1 := Bx_2.out.c1
  have k2 := Bx_2.out.c2
  have k3 := Bx_2.out.c3
  go_wp2_with fail
  refine (recI_tab Lz_2.out RE.out N2.out (by omega)).mono ?_
  rintro e w3 ⟨A3, c3, rfl, L3, b3⟩
  clear k0 k1 k2 k3
  clear hw2
  have B3 := Lib.hid (below_chain B2.out b3)
  have HC_3 := Lib.hid (HC_2.out.below b3)
  clear HC_2
  have Lz_3 := Lib.hid (Lz_2.out.below b3)
  clear Lz_2
  have Bx_3 := Lib.hid (Bx_2.out.below b3)
  clear Bx_2
  clear b3 B2
  have Lo_3 := Lib.hid L3
  clear L3
  have k0 := Bx_3.out.c0
  have k1 := Bx_3.out.c1
  have k2 := Bx_3.out.c2
  have k3 := Bx_3.out.c3
  go_wp2_with fail
  refine (recS_tab Lz_3.out RE.out N2.out (by omega)).mono ?_
  rintro e w4 ⟨A4, c4, rfl, L4, b4⟩
  clear k0 k1 k2 k3
  have B4 := Lib.hid (below_chain B3.out b4)
  have HC_4 := Lib.hid (HC_3.out.below b4)
  clear HC_3
  have Lz_4 := Lib.hid (Lz_3.out.below b4)
  clear Lz_3
  have Bx_4 := Lib.hid (Bx_3.out.below b4)
  clear Bx_3
  have Lo_4 := Lib.hid (Lo_3.out.below b4)
  clear Lo_3
  clear b4 B3
  have Lw_4 := Lib.hid L4
  clear L4
  go_wp2_with fail
  refine (same_tab Lo_4.out Lw_4.out).mono ?_
  rintro e w5 ⟨rfl, b5⟩
  have B5 := Lib.hid (below_chain B4.out b5)
  have HC_5 := Lib.hid (HC_4.out.below b5)
  clear HC_4
  have Lz_5 := Lib.hid (Lz_4.out.below b5)
  clear Lz_4
  have Bx_5 := Lib.hid (Bx_4.out.below b5)
  clear Bx_4
  have Lo_5 := Lib.hid (Lo_4.out.below b5)
  clear Lo_4
  have Lw_5 := Lib.hid (Lw_4.out.below b5)
  clear Lw_4
  clear b5 B4
  clear Lw_5
  obtain ⟨ok, hok⟩ : ∃ b, okCes zs = b := ⟨_, rfl⟩
  have OK := Lib.hid hok
  have hokk : (ok != ok) = false := by simp
  clear hok
  go_wp2_with fail
  refine (okI_tab Lz_5.out OK.out).mono ?_
  rintro e w6 ⟨rfl, b6⟩
  have B6 := Lib.hid (below_chain B5.out b6)
  have HC_6 := Lib.hid (HC_5.out.below b6)
  clear HC_5
  have Lz_6 := Lib.hid (Lz_5.out.below b6)
  clear Lz_5
  have Bx_6 := Lib.hid (Bx_5.out.below b6)
  clear Bx_5
  have Lo_6 := Lib.hid (Lo_5.out.below b6)
  clear Lo_5
  clear b6 B5
  go_wp2_with fail
  refine (okS_tab Lz_6.out OK.out).mono ?_
  rintro e w7 ⟨rfl, b7⟩
  have B7 := Lib.hid (below_chain B6.out b7)
  have HC_7 := Lib.hid (HC_6.out.below b7)
  clear HC_6
  have Lz_7 := Lib.hid (Lz_6.out.below b7)
  clear Lz_6
  have Bx_7 := Lib.hid (Bx_6.out.below b7)
  clear Bx_6
  have Lo_7 := Lib.hid (Lo_6.out.below b7)
  clear Lo_6
  clear b7 B6
  obtain ⟨us2, on2, hrec2⟩ : ∃ q o, recC kd us (x0, x1, x2, x3) = (q, o) := ⟨_, _, rfl⟩
  obtain ⟨n3, hn3⟩ : ∃ n, us2.length = n := ⟨_, rfl⟩
  have hl3 : n3 ≤ 12 := by
    have h1 := recC_len kd us (x0, x1, x2, x3)
    rw [hrec2] at h1
    simp only at h1
    have h2 := N2.out
    omega
  have RE2 := Lib.hid hrec2
  have N3 := Lib.hid hn3
  clear hrec2 hn3
  have k0 := Bx_7.out.c0
  have k1 := Bx_7.out.c1
  have k2 := Bx_7.out.c2
  have k3 := Bx_7.out.c3
  go_wp2_with fail
  refine (recI_tab Lo_7.out RE2.out N3.out (by omega)).mono ?_
  rintro e w8 ⟨A8, c8, rfl, L8, b8⟩
  clear k0 k1 k2 k3
  have B8 := Lib.hid (below_chain B7.out b8)
  have HC_8 := Lib.hid (HC_7.out.below b8)
  clear HC_7
  have Lz_8 := Lib.hid (Lz_7.out.below b8)
  clear Lz_7
  have Bx_8 := Lib.hid (Bx_7.out.below b8)
  clear Bx_7
  have Lo_8 := Lib.hid (Lo_7.out.below b8)
  clear Lo_7
  clear b8 B7
  have La_8 := Lib.hid L8
  clear L8
  go_wp2_with fail
  refine (drawPut_any _ a0 len0 cap0 (by omega) HC_8.out).mono ?_
  rintro e w9 ⟨A9, n4, c9, ps, y0, y1, y2, y3, rfl, hn4, L9, b9⟩
  have B9 := Lib.hid (below_chain B8.out b9)
  have HC_9 := Lib.hid (HC_8.out.below b9)
  clear HC_8
  have Lz_9 := Lib.hid (Lz_8.out.below b9)
  clear Lz_8
  have Bx_9 := Lib.hid (Bx_8.out.below b9)
  clear Bx_8
  have Lo_9 := Lib.hid (Lo_8.out.below b9)
  clear Lo_8
  have La_9 := Lib.hid (La_8.out.below b9)
  clear La_8
  clear b9 B8
  have Lp_9 := Lib.hid L9
  clear L9
  obtain ⟨w10, hw10⟩ : ∃ z, World.alloc w9 (.cells #[.int .i64 y0, .int .i64 y1, .int .i64 y2, .int .i64 y3] 26) = z := ⟨_, rfl⟩
  have b10 : Below w9.heap.size w9 w10 := by rw [← hw10]; exact (Below.refl _ _).alloc (Nat.le_refl _) _
  have nb10 : XB w9.heap.size y0 y1 y2 y3 w10 := by rw [← hw10]; exact XB.new _ _ _ _ _
  have B10 := Lib.hid (below_chain B9.out b10)
  have HC_10 := Lib.hid (HC_9.out.below b10)
  clear HC_9
  have Lz_10 := Lib.hid (Lz_9.out.below b10)
  clear Lz_9
  have Bx_10 := Lib.hid (Bx_9.out.below b10)
  clear Bx_9
  have Lo_10 := Lib.hid (Lo_9.out.below b10)
  clear Lo_9
  have La_10 := Lib.hid (La_9.out.below b10)
  clear La_9
  have Lp_10 := Lib.hid (Lp_9.out.below b10)
  clear Lp_9
  clear b10 B9
  have By_10 := Lib.hid nb10
  clear nb10
  obtain ⟨qs, hqs⟩ : ∃ q, putC ps (y0, y1, y2, y3) = q := ⟨_, rfl⟩
  obtain ⟨n5, hn5⟩ : ∃ n, qs.length = n := ⟨_, rfl⟩
  have hl5 : n5 ≤ 11 := by
    have h1 := put_len ps (y0, y1, y2, y3)
    have h2 := Lp_10.out.len
    rw [hqs] at h1
    omega
  have HQ := Lib.hid hqs
  have N5 := Lib.hid hn5
  clear hqs hn5
  have k0 := By_10.out.c0
  have k1 := By_10.out.c1
  have k2 := By_10.out.c2
  have k3 := By_10.out.c3
  go_wp2_with fail
  refine (putI_tab Lp_10.out HQ.out N5.out (by omega)).mono ?_
  rintro e w11 ⟨A11, c11, rfl, L11, b11⟩
  clear k0 k1 k2 k3
  clear hw10
  have B11 := Lib.hid (below_chain B10.out b11)
  have HC_11 := Lib.hid (HC_10.out.below b11)
  clear HC_10
  have Lz_11 := Lib.hid (Lz_10.out.below b11)
  clear Lz_10
  have Bx_11 := Lib.hid (Bx_10.out.below b11)
  clear Bx_10
  have Lo_11 := Lib.hid (Lo_10.out.below b11)
  clear Lo_10
  have La_11 := Lib.hid (La_10.out.below b11)
  clear La_10
  have Lp_11 := Lib.hid (Lp_10.out.below b11)
  clear Lp_10
  have By_11 := Lib.hid (By_10.out.below b11)
  clear By_10
  clear b11 B10
  have Lq_11 := Lib.hid L11
  clear L11
  go_wp2_with fail
  refine (drawLeast_any _ a0 len0 cap0 (by omega) HC_11.out).mono ?_
  rintro e w12 ⟨A12, n6, c12, ls, k0, k1, k2, rfl, hn6, L12, b12⟩
  have B12 := Lib.hid (below_chain B11.out b12)
  have HC_12 := Lib.hid (HC_11.out.below b12)
  clear HC_11
  have Lz_12 := Lib.hid (Lz_11.out.below b12)
  clear Lz_11
  have Bx_12 := Lib.hid (Bx_11.out.below b12)
  clear Bx_11
  have Lo_12 := Lib.hid (Lo_11.out.below b12)
  clear Lo_11
  have La_12 := Lib.hid (La_11.out.below b12)
  clear La_11
  have Lp_12 := Lib.hid (Lp_11.out.below b12)
  clear Lp_11
  have By_12 := Lib.hid (By_11.out.below b12)
  clear By_11
  have Lq_12 := Lib.hid (Lq_11.out.below b12)
  clear Lq_11
  clear b12 B11
  have Ll_12 := Lib.hid L12
  clear L12
  obtain ⟨l1, lb, hlb⟩ : ∃ l b, leastC ls k0 k1 k2 = (l, b) := ⟨_, _, rfl⟩
  have LB := Lib.hid hlb
  have hll : (l1 != l1) = false := by simp
  have hlbb : (lb != lb) = false := by simp
  clear hlb
  go_wp2_with fail
  refine (leastI_tab Ll_12.out LB.out).mono ?_
  rintro e w13 ⟨rfl, b13⟩
  have B13 := Lib.hid (below_chain B12.out b13)
  have HC_13 := Lib.hid (HC_12.out.below b13)
  clear HC_12
  have Lz_13 := Lib.hid (Lz_12.out.below b13)
  clear Lz_12
  have Bx_13 := Lib.hid (Bx_12.out.below b13)
  clear Bx_12
  have Lo_13 := Lib.hid (Lo_12.out.below b13)
  clear Lo_12
  have La_13 := Lib.hid (La_12.out.below b13)
  clear La_12
  have Lp_13 := Lib.hid (Lp_12.out.below b13)
  clear Lp_12
  have By_13 := Lib.hid (By_12.out.below b13)
  clear By_12
  have Lq_13 := Lib.hid (Lq_12.out.below b13)
  clear Lq_12
  have Ll_13 := Lib.hid (Ll_12.out.below b13)
  clear Ll_12
  clear b13 B12
  go_wp2_with fail
  refine (leastS_tab Ll_13.out LB.out).mono ?_
  rintro e w14 ⟨rfl, b14⟩
  have B14 := Lib.hid (below_chain B13.out b14)
  have HC_14 := Lib.hid (HC_13.out.below b14)
  clear HC_13
  have Lz_14 := Lib.hid (Lz_13.out.below b14)
  clear Lz_13
  have Bx_14 := Lib.hid (Bx_13.out.below b14)
  clear Bx_13
  have Lo_14 := Lib.hid (Lo_13.out.below b14)
  clear Lo_13
  have La_14 := Lib.hid (La_13.out.below b14)
  clear La_13
  have Lp_14 := Lib.hid (Lp_13.out.below b14)
  clear Lp_13
  have By_14 := Lib.hid (By_13.out.below b14)
  clear By_13
  have Lq_14 := Lib.hid (Lq_13.out.below b14)
  clear Lq_13
  have Ll_14 := Lib.hid (Ll_13.out.below b14)
  clear Ll_13
  clear b14 B13
  clear Ll_14
  go_wp2_with fail
  refine (drawOf_any _ a0 len0 cap0 (by omega) HC_14.out).mono ?_
  rintro e w15 ⟨A15, n7, c15, ds, j0, j1, rfl, hn7, L15, b15⟩
  have B15 := Lib.hid (below_chain B14.out b15)
  have HC_15 := Lib.hid (HC_14.out.below b15)
  clear HC_14
  have Lz_15 := Lib.hid (Lz_14.out.below b15)
  clear Lz_14
  have Bx_15 := Lib.hid (Bx_14.out.below b15)
  clear Bx_14
  have Lo_15 := Lib.hid (Lo_14.out.below b15)
  clear Lo_14
  have La_15 := Lib.hid (La_14.out.below b15)
  clear La_14
  have Lp_15 := Lib.hid (Lp_14.out.below b15)
  clear Lp_14
  have By_15 := Lib.hid (By_14.out.below b15)
  clear By_14
  have Lq_15 := Lib.hid (Lq_14.out.below b15)
  clear Lq_14
  clear b15 B14
  have Ld_15 := Lib.hid L15
  clear L15
  go_wp2_with fail
  refine (drawOrd_any _ a0 len0 cap0 (by omega) HC_15.out).mono ?_
  rintro e w16 ⟨u0, u1, u2, u3, v0, v1, v2, v3, rfl, b16⟩
  have B16 := Lib.hid (below_chain B15.out b16)
  have HC_16 := Lib.hid (HC_15.out.below b16)
  clear HC_15
  have Lz_16 := Lib.hid (Lz_15.out.below b16)
  clear Lz_15
  have Bx_16 := Lib.hid (Bx_15.out.below b16)
  clear Bx_15
  have Lo_16 := Lib.hid (Lo_15.out.below b16)
  clear Lo_15
  have La_16 := Lib.hid (La_15.out.below b16)
  clear La_15
  have Lp_16 := Lib.hid (Lp_15.out.below b16)
  clear Lp_15
  have By_16 := Lib.hid (By_15.out.below b16)
  clear By_15
  have Lq_16 := Lib.hid (Lq_15.out.below b16)
  clear Lq_15
  have Ld_16 := Lib.hid (Ld_15.out.below b16)
  clear Ld_15
  clear b16 B15
  clear HC_16
  obtain ⟨es, hes⟩ : ∃ q, ofC ds j0 j1 = q := ⟨_, rfl⟩
  obtain ⟨n8, hn8⟩ : ∃ n, es.length = n := ⟨_, rfl⟩
  have hl8 : n8 ≤ 10 := by
    have h1 := of_len ds j0 j1
    have h2 := Ld_16.out.len
    rw [hes] at h1
    omega
  have HE := Lib.hid hes
  have N8 := Lib.hid hn8
  obtain ⟨ov, hov⟩ : ∃ v, ordCe (u0, u1, u2, u3) (v0, v1, v2, v3) = v := ⟨_, rfl⟩
  have hovv : (ov != ov) = false := by simp
  have EI := Lib.hid (fun W => implCeOrd_is hov W)
  have ES := Lib.hid (fun W => specCeOrd_is hov W)
  have HH := Lib.hid (show hasC qs (y0, y1, y2, y3) = true by rw [← HQ.out]; exact hasC_put _ _)
  clear hes hn8 hov
  go_wp2_with fail
  generalize hW17 : World.alloc (World.alloc w16 _) _ = w17
  have b17 : Below w16.heap.size w16 w17 := by rw [← hW17]; exact ((Below.refl _ _).alloc (by simp) _).alloc (by simp) _
  have nu : XB w16.heap.size u0 u1 u2 u3 w17 := by rw [← hW17]; exact ⟨alloc_keep (by simp), alloc_keep (by simp), alloc_keep (by simp), alloc_keep (by simp)⟩
  have nv : XB (w16.heap.size + 1) v0 v1 v2 v3 w17 := by rw [← hW17]; exact ⟨by simp, by simp, by simp, by simp⟩
  clear hW17
  have B17 := Lib.hid (below_chain B16.out b17)
  have Lz_17 := Lib.hid (Lz_16.out.below b17)
  clear Lz_16
  have Bx_17 := Lib.hid (Bx_16.out.below b17)
  clear Bx_16
  have Lo_17 := Lib.hid (Lo_16.out.below b17)
  clear Lo_16
  have La_17 := Lib.hid (La_16.out.below b17)
  clear La_16
  have Lp_17 := Lib.hid (Lp_16.out.below b17)
  clear Lp_16
  have By_17 := Lib.hid (By_16.out.below b17)
  clear By_16
  have Lq_17 := Lib.hid (Lq_16.out.below b17)
  clear Lq_16
  have Ld_17 := Lib.hid (Ld_16.out.below b17)
  clear Ld_16
  clear b17 B16
  have Bu_17 := Lib.hid nu
  clear nu
  have Bv_17 := Lib.hid nv
  clear nv
  obtain ⟨w18, hw18⟩ : ∃ z, w17.drew = z := ⟨_, rfl⟩
  have b18 : Below w17.heap.size w17 w18 := by rw [← hw18]; exact (Below.refl _ _).drew
  have B18 := Lib.hid (below_chain B17.out b18)
  have Lz_18 := Lib.hid (Lz_17.out.below b18)
  clear Lz_17
  have Bx_18 := Lib.hid (Bx_17.out.below b18)
  clear Bx_17
  have Lo_18 := Lib.hid (Lo_17.out.below b18)
  clear Lo_17
  have La_18 := Lib.hid (La_17.out.below b18)
  clear La_17
  have Lp_18 := Lib.hid (Lp_17.out.below b18)
  clear Lp_17
  have By_18 := Lib.hid (By_17.out.below b18)
  clear By_17
  have Lq_18 := Lib.hid (Lq_17.out.below b18)
  clear Lq_17
  have Ld_18 := Lib.hid (Ld_17.out.below b18)
  clear Ld_17
  have Bu_18 := Lib.hid (Bu_17.out.below b18)
  clear Bu_17
  have Bv_18 := Lib.hid (Bv_17.out.below b18)
  clear Bv_17
  clear b18 B17
  have M0 := Lib.hid (show Mh w18 w9.heap.size y0 y1 y2 y3 w16.heap.size u0 u1 u2 u3 (w16.heap.size + 1) v0 v1 v2 v3 w18 from ⟨By_18.out, Bu_18.out, Bv_18.out, Below.refl _ _⟩)
  refine wp_region_held_drew (S := Mh w18 w9.heap.size y0 y1 y2 y3 w16.heap.size u0 u1 u2 u3 (w16.heap.size + 1) v0 v1 v2 v3) (by kernel_rfl) ?_ (fun hHeld => ?_)
  · skip
    rw [hw18]; exact M0.out
  change wpAnyH _ _ opsF9 _ _ 43 (LF9 0) _ _
  rw [hw18] at hHeld ⊢
  clear hw18
  refine tF9_0 (.int .i64 l1) (fun _ _ _ h => h) (Or.inl ⟨by rfl, fun W hSw => ?_⟩) hHeld ?_
  · skip
    unfold qF9_0
    go_simp
  try simp only [Act.put, List.setIfInBounds_toArray, List.set_cons_zero, List.set_cons_succ]
  refine tF9_1 (.int .i64 l1) (fun _ _ _ h => h) (Or.inl ⟨by rfl, fun W hSw => ?_⟩) hHeld ?_
  · skip
    unfold qF9_1
    go_simp
  try simp only [Act.put, List.setIfInBounds_toArray, List.set_cons_zero, List.set_cons_succ]
  refine tF9_2 (.bool false) (fun _ _ _ h => h) (Or.inl ⟨by rfl, fun W hSw => ?_⟩) hHeld ?_
  · skip
    unfold qF9_2
    go_simp
  try simp only [Act.put, List.setIfInBounds_toArray, List.set_cons_zero, List.set_cons_succ]
  refine tF9_3 (.bool false) (fun _ _ _ h => h) (Or.inl ⟨by rfl, fun W hSw => ?_⟩) hHeld ?_
  · skip
    unfold qF9_3
    go_simp
  try simp only [Act.put, List.setIfInBounds_toArray, List.set_cons_zero, List.set_cons_succ]
  refine tF9_4 (.bool lb) (fun _ _ _ h => h) (Or.inl ⟨by rfl, fun W hSw => ?_⟩) hHeld ?_
  · skip
    unfold qF9_4
    go_simp
  try simp only [Act.put, List.setIfInBounds_toArray, List.set_cons_zero, List.set_cons_succ]
  refine tF9_5 (.bool lb) (fun _ _ _ h => h) (Or.inl ⟨by rfl, fun W hSw => ?_⟩) hHeld ?_
  · skip
    unfold qF9_5
    go_simp
  try simp only [Act.put, List.setIfInBounds_toArray, List.set_cons_zero, List.set_cons_succ]
  refine tF9_6 (.bool false) (fun _ _ _ h => h) (Or.inl ⟨by rfl, fun W hSw => ?_⟩) hHeld ?_
  · skip
    unfold qF9_6
    go_simp
  try simp only [Act.put, List.setIfInBounds_toArray, List.set_cons_zero, List.set_cons_succ]
  refine tF9_7 (.bool false) (fun _ _ _ h => h) (Or.inl ⟨by rfl, fun W hSw => ?_⟩) hHeld ?_
  · skip
    unfold qF9_7
    go_simp
  try simp only [Act.put, List.setIfInBounds_toArray, List.set_cons_zero, List.set_cons_succ]
  refine tF9_8 (.bool false) (fun _ _ _ h => h) (Or.inl ⟨by rfl, fun W hSw => ?_⟩) hHeld ?_
  · skip
    unfold qF9_8
    go_simp
  try simp only [Act.put, List.setIfInBounds_toArray, List.set_cons_zero, List.set_cons_succ]
  refine tF9_9 (.slice A11 n5 c11) (fun _ _ _ h => h) (Or.inl ⟨by rfl, fun W hSw => ?_⟩) hHeld ?_
  · skip
    unfold qF9_9
    go_simp
  try simp only [Act.put, List.setIfInBounds_toArray, List.set_cons_zero, List.set_cons_succ]
  refine tF9_10 (.slice A9 n4 c9) (fun _ _ _ h => h) (Or.inl ⟨by rfl, fun W hSw => ?_⟩) hHeld ?_
  · skip
    unfold qF9_10
    go_simp
  try simp only [Act.put, List.setIfInBounds_toArray, List.set_cons_zero, List.set_cons_succ]
  refine tF9_11 (.agg #[.int .i64 y0, .int .i64 y1, .int .i64 y2, .int .i64 y3]) (fun _ _ _ h => h) (Or.inl ⟨by rfl, fun W hSw => ?_⟩) hHeld ?_
  · skip
    unfold qF9_11
    obtain ⟨c0, c1, c2, c3⟩ := hSw.p
    go_simp
  try simp only [Act.put, List.setIfInBounds_toArray, List.set_cons_zero, List.set_cons_succ]
  refine cF9_12 (fun K hK => ?_)
  rw [if_pos (by rfl)]
  unfold qF9_12
  go_simp
  refine (putS_tab (Lp_18.out.below hHeld.bel) HQ.out N5.out (by omega)).mono ?_
  rintro e w91 ⟨A91, c91, rfl, L91, bq⟩
  have L91h := Lib.hid L91
  clear L91
  refine Shut.out hK _ _ ?_ (fun hHeld => ?_)
  · exact hHeld.below bq
  clear hK K
  try simp only [Act.put, List.setIfInBounds_toArray, List.set_cons_zero, List.set_cons_succ]
  refine cF9_13 (fun K hK => ?_)
  rw [if_pos (by rfl)]
  unfold qF9_13
  go_simp
  refine (same_tab (Lq_18.out.below hHeld.bel) L91h.out).mono ?_
  rintro e w92 ⟨rfl, bq⟩
  refine Shut.out hK _ _ ?_ (fun hHeld => ?_)
  · exact hHeld.below bq
  clear hK K
  try simp only [Act.put, List.setIfInBounds_toArray, List.set_cons_zero, List.set_cons_succ]
  refine tF9_14 (.bool false) (fun _ _ _ h => h) (Or.inl ⟨by rfl, fun W hSw => ?_⟩) hHeld ?_
  · skip
    unfold qF9_14
    go_simp
  try simp only [Act.put, List.setIfInBounds_toArray, List.set_cons_zero, List.set_cons_succ]
  refine tF9_15 (.bool false) (fun _ _ _ h => h) (Or.inl ⟨by rfl, fun W hSw => ?_⟩) hHeld ?_
  · skip
    unfold qF9_15
    go_simp
  try simp only [Act.put, List.setIfInBounds_toArray, List.set_cons_zero, List.set_cons_succ]
  refine tF9_16 (.bool false) (fun _ _ _ h => h) (Or.inl ⟨by rfl, fun W hSw => ?_⟩) hHeld ?_
  · skip
    unfold qF9_16
    go_simp
  try simp only [Act.put, List.setIfInBounds_toArray, List.set_cons_zero, List.set_cons_succ]
  refine tF9_17 (.slice A11 n5 c11) (fun _ _ _ h => h) (Or.inl ⟨by rfl, fun W hSw => ?_⟩) hHeld ?_
  · skip
    unfold qF9_17
    go_simp
  try simp only [Act.put, List.setIfInBounds_toArray, List.set_cons_zero, List.set_cons_succ]
  refine tF9_18 (.agg #[.int .i64 y0, .int .i64 y1, .int .i64 y2, .int .i64 y3]) (fun _ _ _ h => h) (Or.inl ⟨by rfl, fun W hSw => ?_⟩) hHeld ?_
  · skip
    unfold qF9_18
    obtain ⟨c0, c1, c2, c3⟩ := hSw.p
    go_simp
  try simp only [Act.put, List.setIfInBounds_toArray, List.set_cons_zero, List.set_cons_succ]
  refine cF9_19 (fun K hK => ?_)
  rw [if_pos (by rfl)]
  unfold qF9_19
  go_simp
  refine (hasI_tab (Lq_18.out.below hHeld.bel) HH.out).mono ?_
  rintro e w93 ⟨rfl, bq⟩
  refine Shut.out hK _ _ ?_ (fun hHeld => ?_)
  · exact hHeld.below bq
  clear hK K
  try simp only [Act.put, List.setIfInBounds_toArray, List.set_cons_zero, List.set_cons_succ]
  refine tF9_20 (.bool false) (fun _ _ _ h => h) (Or.inl ⟨by rfl, fun W hSw => ?_⟩) hHeld ?_
  · skip
    unfold qF9_20
    go_simp
  try simp only [Act.put, List.setIfInBounds_toArray, List.set_cons_zero, List.set_cons_succ]
  refine tF9_21 (.bool false) (fun _ _ _ h => h) (Or.inl ⟨by rfl, fun W hSw => ?_⟩) hHeld ?_
  · skip
    unfold qF9_21
    go_simp
  try simp only [Act.put, List.setIfInBounds_toArray, List.set_cons_zero, List.set_cons_succ]
  refine tF9_22 (.bool false) (fun _ _ _ h => h) (Or.inl ⟨by rfl, fun W hSw => ?_⟩) hHeld ?_
  · skip
    unfold qF9_22
    go_simp
  try simp only [Act.put, List.setIfInBounds_toArray, List.set_cons_zero, List.set_cons_succ]
  refine tF9_23 (.slice A15 n7 c15) (fun _ _ _ h => h) (Or.inl ⟨by rfl, fun W hSw => ?_⟩) hHeld ?_
  · skip
    unfold qF9_23
    go_simp
  try simp only [Act.put, List.setIfInBounds_toArray, List.set_cons_zero, List.set_cons_succ]
  refine tF9_24 (.int .i64 j0) (fun _ _ _ h => h) (Or.inl ⟨by rfl, fun W hSw => ?_⟩) hHeld ?_
  · skip
    unfold qF9_24
    go_simp
  try simp only [Act.put, List.setIfInBounds_toArray, List.set_cons_zero, List.set_cons_succ]
  refine tF9_25 (.int .i64 j1) (fun _ _ _ h => h) (Or.inl ⟨by rfl, fun W hSw => ?_⟩) hHeld ?_
  · skip
    unfold qF9_25
    go_simp
  try simp only [Act.put, List.setIfInBounds_toArray, List.set_cons_zero, List.set_cons_succ]
  refine tF9_26 (.slice A15 n7 c15) (fun _ _ _ h => h) (Or.inl ⟨by rfl, fun W hSw => ?_⟩) hHeld ?_
  · skip
    unfold qF9_27
    go_simp
  try simp only [Act.put, List.setIfInBounds_toArray, List.set_cons_zero, List.set_cons_succ]
  refine tF9_27 (.int .i64 j0) (fun _ _ _ h => h) (Or.inl ⟨by rfl, fun W hSw => ?_⟩) hHeld ?_
  · skip
    unfold qF9_28
    go_simp
  try simp only [Act.put, List.setIfInBounds_toArray, List.set_cons_zero, List.set_cons_succ]
  refine tF9_28 (.int .i64 j1) (fun _ _ _ h => h) (Or.inl ⟨by rfl, fun W hSw => ?_⟩) hHeld ?_
  · skip
    unfold qF9_29
    go_simp
  try simp only [Act.put, List.setIfInBounds_toArray, List.set_cons_zero, List.set_cons_succ]
  refine cF9_29 (fun K hK => ?_)
  rw [if_pos (by rfl)]
  unfold qF9_26
  go_simp
  refine (ofI_tab (Ld_18.out.below hHeld.bel) HE.out N8.out (by omega)).mono ?_
  rintro e w94 ⟨A94, c94, rfl, L94, bq⟩
  have L94h := Lib.hid L94
  clear L94
  refine Shut.out hK _ _ ?_ (fun hHeld => ?_)
  · exact hHeld.below bq
  clear hK K
  try simp only [Act.put, List.setIfInBounds_toArray, List.set_cons_zero, List.set_cons_succ]
  refine cF9_30 (fun K hK => ?_)
  rw [if_pos (by rfl)]
  unfold qF9_30
  go_simp
  refine (ofS_tab (Ld_18.out.below hHeld.bel) HE.out N8.out (by omega)).mono ?_
  rintro e w95 ⟨A95, c95, rfl, L95, bq⟩
  have L95h := Lib.hid L95
  have L94i := Lib.hid (L94h.out.below bq)
  clear L95
  refine Shut.out hK _ _ ?_ (fun hHeld => ?_)
  · exact hHeld.below bq
  clear hK K
  try simp only [Act.put, List.setIfInBounds_toArray, List.set_cons_zero, List.set_cons_succ]
  refine cF9_31 (fun K hK => ?_)
  rw [if_pos (by rfl)]
  unfold qF9_31
  go_simp
  refine (same_tab L94i.out L95h.out).mono ?_
  rintro e w96 ⟨rfl, bq⟩
  refine Shut.out hK _ _ ?_ (fun hHeld => ?_)
  · exact hHeld.below bq
  clear hK K
  try simp only [Act.put, List.setIfInBounds_toArray, List.set_cons_zero, List.set_cons_succ]
  refine tF9_32 (.bool false) (fun _ _ _ h => h) (Or.inl ⟨by rfl, fun W hSw => ?_⟩) hHeld ?_
  · skip
    unfold qF9_32
    go_simp
  try simp only [Act.put, List.setIfInBounds_toArray, List.set_cons_zero, List.set_cons_succ]
  refine tF9_33 (.bool false) (fun _ _ _ h => h) (Or.inl ⟨by rfl, fun W hSw => ?_⟩) hHeld ?_
  · skip
    unfold qF9_33
    go_simp
  try simp only [Act.put, List.setIfInBounds_toArray, List.set_cons_zero, List.set_cons_succ]
  refine tF9_34 (.bool false) (fun _ _ _ h => h) (Or.inl ⟨by rfl, fun W hSw => ?_⟩) hHeld ?_
  · skip
    unfold qF9_34
    go_simp
  try simp only [Act.put, List.setIfInBounds_toArray, List.set_cons_zero, List.set_cons_succ]
  refine tF9_35 (.agg #[.int .i64 u0, .int .i64 u1, .int .i64 u2, .int .i64 u3]) (fun _ _ _ h => h) (Or.inl ⟨by rfl, fun W hSw => ?_⟩) hHeld ?_
  · skip
    unfold qF9_35
    obtain ⟨c0, c1, c2, c3⟩ := hSw.q
    go_simp
  try simp only [Act.put, List.setIfInBounds_toArray, List.set_cons_zero, List.set_cons_succ]
  refine tF9_36 (.agg #[.int .i64 v0, .int .i64 v1, .int .i64 v2, .int .i64 v3]) (fun _ _ _ h => h) (Or.inl ⟨by rfl, fun W hSw => ?_⟩) hHeld ?_
  · skip
    unfold qF9_36
    obtain ⟨c0, c1, c2, c3⟩ := hSw.r
    go_simp
  try simp only [Act.put, List.setIfInBounds_toArray, List.set_cons_zero, List.set_cons_succ]
  refine tF9_37 (.agg #[.int .i64 u0, .int .i64 u1, .int .i64 u2, .int .i64 u3]) (fun _ _ _ h => h) (Or.inl ⟨by rfl, fun W hSw => ?_⟩) hHeld ?_
  · skip
    unfold qF9_38
    obtain ⟨c0, c1, c2, c3⟩ := hSw.q
    go_simp
  try simp only [Act.put, List.setIfInBounds_toArray, List.set_cons_zero, List.set_cons_succ]
  refine tF9_38 (.agg #[.int .i64 v0, .int .i64 v1, .int .i64 v2, .int .i64 v3]) (fun _ _ _ h => h) (Or.inl ⟨by rfl, fun W hSw => ?_⟩) hHeld ?_
  · skip
    unfold qF9_39
    obtain ⟨c0, c1, c2, c3⟩ := hSw.r
    go_simp
  try simp only [Act.put, List.setIfInBounds_toArray, List.set_cons_zero, List.set_cons_succ]
  refine cF9_39 (fun K hK => ?_)
  rw [if_pos (by rfl)]
  unfold qF9_37
  go_simp
  refine (EI.out _).mono ?_
  rintro e w97 ⟨rfl, bq⟩
  refine Shut.out hK _ _ ?_ (fun hHeld => ?_)
  · exact hHeld.below bq
  clear hK K
  try simp only [Act.put, List.setIfInBounds_toArray, List.set_cons_zero, List.set_cons_succ]
  refine cF9_40 (fun K hK => ?_)
  rw [if_pos (by rfl)]
  unfold qF9_40
  go_simp
  refine (ES.out _).mono ?_
  rintro e w98 ⟨rfl, bq⟩
  refine Shut.out hK _ _ ?_ (fun hHeld => ?_)
  · exact hHeld.below bq
  clear hK K
  try simp only [Act.put, List.setIfInBounds_toArray, List.set_cons_zero, List.set_cons_succ]
  refine tF9_41 (.bool false) (fun _ _ _ h => h) (Or.inl ⟨by rfl, fun W hSw => ?_⟩) hHeld ?_
  · skip
    unfold qF9_41
    go_simp
  try simp only [Act.put, List.setIfInBounds_toArray, List.set_cons_zero, List.set_cons_succ]
  refine tF9_42 (.bool false) (fun _ _ _ h => h) (Or.inl ⟨by rfl, fun W hSw => ?_⟩) hHeld ?_
  · skip
    unfold qF9_42
    go_simp
  try simp only [Act.put, List.setIfInBounds_toArray, List.set_cons_zero, List.set_cons_succ]
  refine wpAnyH_done (by kernel_rfl) ?_ _
  have b19 := hHeld.bel
  obtain ⟨w19, hw19⟩ : ∃ z, z = w98 := ⟨_, rfl⟩
  subst hw19
  clear hHeld M0 EI ES L91h L94h L94i L95h
  clear HQ N5 HE N8 HH LB
  clear By_18 Bu_18 Bv_18 Lq_18 Lp_18 Ld_18
  have B19 := Lib.hid (below_chain B18.out b19)
  have Lz_19 := Lib.hid (Lz_18.out.below b19)
  clear Lz_18
  have Bx_19 := Lib.hid (Bx_18.out.below b19)
  clear Bx_18
  have Lo_19 := Lib.hid (Lo_18.out.below b19)
  clear Lo_18
  have La_19 := Lib.hid (La_18.out.below b19)
  clear La_18
  clear b19 B18
  obtain ⟨kp, hkp⟩ : ∃ b, remB kd = b := ⟨_, rfl⟩
  have KP := Lib.hid hkp
  clear hkp
  go_wp2_with fail
  refine (specRem_is KP.out _).mono ?_
  rintro e w20 ⟨rfl, b20⟩
  have B20 := Lib.hid (below_chain B19.out b20)
  have Lz_20 := Lib.hid (Lz_19.out.below b20)
  clear Lz_19
  have Bx_20 := Lib.hid (Bx_19.out.below b20)
  clear Bx_19
  have Lo_20 := Lib.hid (Lo_19.out.below b20)
  clear Lo_19
  have La_20 := Lib.hid (La_19.out.below b20)
  clear La_19
  clear b20 B19
  obtain ⟨l2, lb2, hlb2⟩ : ∃ l b, leastC us x0 x1 x2 = (l, b) := ⟨_, _, rfl⟩
  have LB2 := Lib.hid hlb2
  clear hlb2
  have k0 := Bx_20.out.c0
  have k1 := Bx_20.out.c1
  have k2 := Bx_20.out.c2
  have k3 := Bx_20.out.c3
  go_wp2_with fail
  refine (leastI_tab Lo_20.out LB2.out).mono ?_
  rintro e w21 ⟨rfl, b21⟩
  clear k0 k1 k2 k3
  have B21 := Lib.hid (below_chain B20.out b21)
  have Lz_21 := Lib.hid (Lz_20.out.below b21)
  clear Lz_20
  have Bx_21 := Lib.hid (Bx_20.out.below b21)
  clear Bx_20
  have Lo_21 := Lib.hid (Lo_20.out.below b21)
  clear Lo_20
  have La_21 := Lib.hid (La_20.out.below b21)
  clear La_20
  clear b21 B20
  have PN := Lib.hid (fun W => putI_tab (x0 := 0) (x1 := 0) (x2 := 0) (x3 := 0) (m := 1) (us := [(0, 0, 0, 0)]) (nil_tab W) put_nil rfl (by omega))
  cases kp with
  | false =>
    cases ok with
    | true =>
      have OU := Lib.hid (show okCes us = true by have h := rec_ok (kd := kd) (x0, x1, x2, x3) OK.out; rw [RE.out] at h; exact h)
      go_wp2_with fail
      refine (okS_tab Lz_21.out OK.out).mono ?_
      rintro e w22 ⟨rfl, b22⟩
      have B22 := Lib.hid (below_chain B21.out b22)
      have Lz_22 := Lib.hid (Lz_21.out.below b22)
      clear Lz_21
      have Bx_22 := Lib.hid (Bx_21.out.below b22)
      clear Bx_21
      have Lo_22 := Lib.hid (Lo_21.out.below b22)
      clear Lo_21
      have La_22 := Lib.hid (La_21.out.below b22)
      clear La_21
      clear b22 B21
      go_wp2_with fail
      refine (okS_tab Lo_22.out OU.out).mono ?_
      rintro e w23 ⟨rfl, b23⟩
      have B23 := Lib.hid (below_chain B22.out b23)
      have Lz_23 := Lib.hid (Lz_22.out.below b23)
      clear Lz_22
      have Bx_23 := Lib.hid (Bx_22.out.below b23)
      clear Bx_22
      have Lo_23 := Lib.hid (Lo_22.out.below b23)
      clear Lo_22
      have La_23 := Lib.hid (La_22.out.below b23)
      clear La_22
      clear b23 B22
      go_wp2_with fail
      refine (PN.out _).mono ?_
      rintro e w24 ⟨A24, c24, rfl, L24, b24⟩
      have B24 := Lib.hid (below_chain B23.out b24)
      have Lz_24 := Lib.hid (Lz_23.out.below b24)
      clear Lz_23
      have Bx_24 := Lib.hid (Bx_23.out.below b24)
      clear Bx_23
      have Lo_24 := Lib.hid (Lo_23.out.below b24)
      clear Lo_23
      have La_24 := Lib.hid (La_23.out.below b24)
      clear La_23
      clear b24 B23
      clear L24
      go_wp2
      go_ret
      exact ⟨rfl, B24.out⟩
    | false =>
      go_wp2_with fail
      refine (okS_tab Lz_21.out OK.out).mono ?_
      rintro e w22 ⟨rfl, b22⟩
      have B22 := Lib.hid (below_chain B21.out b22)
      have Lz_22 := Lib.hid (Lz_21.out.below b22)
      clear Lz_21
      have Bx_22 := Lib.hid (Bx_21.out.below b22)
      clear Bx_21
      have Lo_22 := Lib.hid (Lo_21.out.below b22)
      clear Lo_21
      have La_22 := Lib.hid (La_21.out.below b22)
      clear La_21
      clear b22 B21
      go_wp2_with fail
      refine (PN.out _).mono ?_
      rintro e w23 ⟨A23, c23, rfl, L23, b23⟩
      have B23 := Lib.hid (below_chain B22.out b23)
      have Lz_23 := Lib.hid (Lz_22.out.below b23)
      clear Lz_22
      have Bx_23 := Lib.hid (Bx_22.out.below b23)
      clear Bx_22
      have Lo_23 := Lib.hid (Lo_22.out.below b23)
      clear Lo_22
      have La_23 := Lib.hid (La_22.out.below b23)
      clear La_22
      clear b23 B22
      clear L23
      go_wp2
      go_ret
      exact ⟨rfl, B23.out⟩
  | true =>
    have hle : lb2 = true ∧ l2 ≤ x3 := by
      have h := rec_least (kd := kd) zs (x0, x1, x2, x3) KP.out
      rw [RE.out] at h
      simp only [LB2.out] at h
      exact h
    obtain ⟨rfl, hle⟩ := hle
    have hag : us2 = us ∧ on2 = false := by
      have h := rec_again (kd := kd) zs (x0, x1, x2, x3) KP.out
      rw [RE.out] at h
      simp only [RE2.out, Prod.mk.injEq] at h
      exact h
    obtain ⟨hag1, rfl⟩ := hag
    obtain rfl : us = us2 := hag1.symm
    obtain rfl : n2 = n3 := N2.out.symm.trans N3.out
    have dle : decide (l2 ≤ x3) = true := decide_eq_true hle
    clear hle
    have k0 := Bx_21.out.c0
    have k1 := Bx_21.out.c1
    have k2 := Bx_21.out.c2
    have k3 := Bx_21.out.c3
    go_wp2_with fail
    refine (same_tab La_21.out Lo_21.out).mono ?_
    rintro e w22 ⟨rfl, b22⟩
    clear k0 k1 k2 k3
    have B22 := Lib.hid (below_chain B21.out b22)
    have Lz_22 := Lib.hid (Lz_21.out.below b22)
    clear Lz_21
    have Bx_22 := Lib.hid (Bx_21.out.below b22)
    clear Bx_21
    have Lo_22 := Lib.hid (Lo_21.out.below b22)
    clear Lo_21
    have La_22 := Lib.hid (La_21.out.below b22)
    clear La_21
    clear b22 B21
    have k0 := Bx_22.out.c0
    have k1 := Bx_22.out.c1
    have k2 := Bx_22.out.c2
    have k3 := Bx_22.out.c3
    cases ok with
    | true =>
      have OU := Lib.hid (show okCes us = true by have h := rec_ok (kd := kd) (x0, x1, x2, x3) OK.out; rw [RE.out] at h; exact h)
      go_wp2_with fail
      refine (okS_tab Lz_22.out OK.out).mono ?_
      rintro e w23 ⟨rfl, b23⟩
      have B23 := Lib.hid (below_chain B22.out b23)
      have Lz_23 := Lib.hid (Lz_22.out.below b23)
      clear Lz_22
      have Bx_23 := Lib.hid (Bx_22.out.below b23)
      clear Bx_22
      have Lo_23 := Lib.hid (Lo_22.out.below b23)
      clear Lo_22
      have La_23 := Lib.hid (La_22.out.below b23)
      clear La_22
      clear b23 B22
      go_wp2_with fail
      refine (okS_tab Lo_23.out OU.out).mono ?_
      rintro e w24 ⟨rfl, b24⟩
      have B24 := Lib.hid (below_chain B23.out b24)
      have Lz_24 := Lib.hid (Lz_23.out.below b24)
      clear Lz_23
      have Bx_24 := Lib.hid (Bx_23.out.below b24)
      clear Bx_23
      have Lo_24 := Lib.hid (Lo_23.out.below b24)
      clear Lo_23
      have La_24 := Lib.hid (La_23.out.below b24)
      clear La_23
      clear b24 B23
      go_wp2_with fail
      refine (PN.out _).mono ?_
      rintro e w25 ⟨A25, c25, rfl, L25, b25⟩
      have B25 := Lib.hid (below_chain B24.out b25)
      have Lz_25 := Lib.hid (Lz_24.out.below b25)
      clear Lz_24
      have Bx_25 := Lib.hid (Bx_24.out.below b25)
      clear Bx_24
      have Lo_25 := Lib.hid (Lo_24.out.below b25)
      clear Lo_24
      have La_25 := Lib.hid (La_24.out.below b25)
      clear La_24
      clear b25 B24
      clear L25
      go_wp2
      go_ret
      exact ⟨rfl, B25.out⟩
    | false =>
      go_wp2_with fail
      refine (okS_tab Lz_22.out OK.out).mono ?_
      rintro e w23 ⟨rfl, b23⟩
      have B23 := Lib.hid (below_chain B22.out b23)
      have Lz_23 := Lib.hid (Lz_22.out.below b23)
      clear Lz_22
      have Bx_23 := Lib.hid (Bx_22.out.below b23)
      clear Bx_22
      have Lo_23 := Lib.hid (Lo_22.out.below b23)
      clear Lo_22
      have La_23 := Lib.hid (La_22.out.below b23)
      clear La_22
      clear b23 B22
      go_wp2_with fail
      refine (PN.out _).mono ?_
      rintro e w24 ⟨A24, c24, rfl, L24, b24⟩
      have B24 := Lib.hid (below_chain B23.out b24)
      have Lz_24 := Lib.hid (Lz_23.out.below b24)
      clear Lz_23
      have Bx_24 := Lib.hid (Bx_23.out.below b24)
      clear Bx_23
      have Lo_24 := Lib.hid (Lo_23.out.below b24)
      clear Lo_23
      have La_24 := Lib.hid (La_23.out.below b24)
      clear La_23
      clear b24 B23
      clear L24
      go_wp2
      go_ret
      exact ⟨rfl, B24.out⟩
end Go.Proofs.Ytlmjmhdmhpkkkaa.fnMemory
