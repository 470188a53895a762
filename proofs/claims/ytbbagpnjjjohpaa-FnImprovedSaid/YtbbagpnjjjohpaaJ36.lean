/-
  spec.l07Node.
-/
import Derived.Test.YtbbagpnjjjohpaaJ32
import Derived.Test.YtbbagpnjjjohpaaJ35
import Derived.Deep.AppendLies
import Derived.Deep.CutBlock
import Derived.Deep.DeepCutAuto
import Derived.WalkArith

namespace Go.Proofs.Ytbbagpnjjjohpaa.hexes
open Go.RowKit

/-- How a drawn node ends; at most m successors. -/
def NdEnd (m : Nat) (w : World) (c : Nat) (A : Option Addr) (len cap : Nat) (e : Ending) (w' : World) : Prop :=
  ∃ (k a bb : Int) (A1 : Option Addr) (n c1 : Nat) (zs : List Int), K64 k ∧ K64 a ∧ K64 bb ∧ (∀ z ∈ zs, K64 z) ∧ n ≤ m ∧ zs.length = n ∧ e = .returned (.agg #[.int .i64 k, .int .i64 a, .int .i64 bb, .slice A1 n c1]) ∧ w'.ownsRow w.heap.size 3 1 (.slice A1 n c1) n (isCells zs) ∧ Cursor w' c A len cap ∧ w.grownBy w' (some c)

def NdMid (b : World) (c : Nat) (A : Option Addr) (len cap r x : Nat) (k : Int) (wx : World) : Prop := ∃ a bb : Int, K64 a ∧ K64 bb ∧ NdSt b wx c A len cap r x k a bb none 0 0 []
def NdRound (b : World) (c : Nat) (A : Option Addr) (len cap r x : Nat) (k a bb : Int) (i : Value) (wx : World) : Prop := ∃ (j : Nat) (A1 : Option Addr) (c1 : Nat) (zs : List Int), i = .int .i64 (j : Int) ∧ j ≤ 2 ∧ zs.length = j ∧ (∀ z ∈ zs, K64 z) ∧ NdSt b wx c A len cap r x k a bb A1 j c1 zs

set_option maxRecDepth 100000 in
set_option maxHeartbeats 8000000 in
theorem node_draw (w : World) (c : Nat) (A : Option Addr) (len cap : Nat) (hlen : len ≤ 2097152) (hcur : Cursor w c A len cap) :
    Calls Try.prog 109 #[.pointer (some ⟨c, 0, none⟩)] w (NdEnd 2 w c A len cap) := by
  obtain ⟨i0, hi, hz0, hz1, hz2⟩ := info_parts isinfo
  have hc := hcur.lt
  have HC := Lib.hid hcur
  clear hcur
  go_enter Try.func109, Try.ntmps109
  go_wp2_with fail
  generalize hW : w.alloc _ = W
  have bW : Below w.heap.size w W := by rw [← hW]; exact (Below.refl _ _).alloc (Nat.le_refl _) _
  have r0 : Blk W w.heap.size 46 #[.int .i64 0, .int .i64 0, .int .i64 0, .slice none 0 0] := by rw [← hW]; exact Blk.new _ _ _
  refine (below_any 8 (by omega) (by omega) W c A len cap hlen (HC.out.belowD bW)).mono ?_
  rintro e w1 ⟨k0, hk0, rfl, hc1, g1⟩
  have C1 := Lib.hid hc1
  have G1 := Lib.hid (grown_trans (row := some c) (grown_below (grown_refl w (some c)) bW) g1)
  have R1 := Lib.hid (r0.grown g1 (by simp; omega))
  have z1 : w.heap.size < w1.heap.size := R1.out.lt
  clear hc1 g1 r0 bW hW
  obtain ⟨k, hk⟩ : ∃ k : Int, 1 + (k0 : Int) = k := ⟨_, rfl⟩
  have kb : 1 ≤ k ∧ k ≤ 8 := by omega
  have mk : IntKind.i64.wrap k = k := IntWalk.i64_in _ (by omega)
  go_upto_region 2 with fail
  generalize hU : w1.alloc _ = U
  have bU : Below w1.heap.size w1 U := by rw [← hU]; exact (Below.refl _ _).alloc (Nat.le_refl _) _
  have S0 := Lib.hid (show NdSt w U c A len cap w.heap.size w1.heap.size k 0 0 none 0 0 [] from ⟨HC.out, Nat.le_refl _, G1.out.size, by omega, C1.out.belowD bU, grown_below G1.out bU, R1.out.below bU, by rw [← hU]; exact Blk.new _ _ _, World.ownsRow_nil U w.heap.size _ _⟩)
  clear bU hU C1 G1 R1 hk
  have x0 : U.cell? ⟨w1.heap.size, 0, none⟩ = some (.int .i64 k) := by rw [S0.out.kx.cell]; rfl
  go_upto_block 0 with fail
  clear x0
  go_cut [3] (fun t wx => t = .pointer (some ⟨w1.heap.size, 0, none⟩) ∧ NdMid w c A len cap w.heap.size w1.heap.size k wx)
  case first =>
    by_cases h2 : k = 2
    · subst h2
      go_wp2_with fail
      generalize hV : U.alloc _ = V
      have bV : Below U.heap.size U V := by rw [← hV]; exact (Below.refl _ _).alloc (Nat.le_refl _) _
      have P := (show Blk V U.heap.size 3 (([0, 1, 3, 10, 999] : List Int).map fun n => Value.int .i64 n).toArray by rw [← hV]; exact Blk.new _ _ _)
      have SV := Lib.hid (S0.out.fresh bV)
      have hcu := S0.out.cur.lt
      refine (pickInt_any V c U.heap.size A len cap 5 [0, 1, 3, 10, 999] rfl (by omega) (by omega) hlen SV.out.cur (by omega) P).mono ?_
      rintro e w2 ⟨v, hv, rfl, hc2, g2⟩
      have S2 := Lib.hid (SV.out.draw hc2 g2)
      have WV := Lib.hid (show K64 v by
        simp only [List.mem_cons, List.not_mem_nil, or_false] at hv
        unfold K64
        omega)
      clear hc2 g2 bV P hV hv SV hcu
      have y1 : w2.cell? ⟨w1.heap.size, 1, none⟩ = some (.int .i64 0) := by rw [S2.out.kx.cell]; rfl
      have yf1 := S2.out.kx.frozen 1
      go_wp2_with fail
      go_meet
      exact ⟨rfl, v, 0, WV.out, by unfold K64; omega, S2.out.put1 v⟩
    by_cases h3 : k = 3
    · subst h3
      clear h2
      go_wp2_with fail
      refine (below_any 4 (by omega) (by omega) U c A len cap hlen S0.out.cur).mono ?_
      rintro e w2 ⟨y, hy, rfl, hc2, g2⟩
      have S2 := Lib.hid (S0.out.draw hc2 g2)
      obtain ⟨m, hm⟩ : ∃ m : Nat, 1 + (y : Int) = (m : Int) := ⟨1 + y, by omega⟩
      have mb : 1 ≤ m ∧ m ≤ 4 := by omega
      have mw : IntKind.i64.wrap (m : Int) = (m : Int) := IntWalk.i64_in _ (by omega)
      clear hc2 g2
      have y1 : w2.cell? ⟨w1.heap.size, 1, none⟩ = some (.int .i64 0) := by rw [S2.out.kx.cell]; rfl
      have yf1 := S2.out.kx.frozen 1
      go_wp2_with fail
      clear y1 yf1
      generalize hV : w2.setCell _ _ = V
      have S3 := Lib.hid (show NdSt w V c A len cap w.heap.size w1.heap.size 3 (m : Int) 0 none 0 0 [] by rw [← hV]; exact S2.out.put1 _)
      clear hV hm S2
      refine (below_any m (by omega) (by omega) V c A len cap hlen S3.out.cur).mono ?_
      rintro e w3 ⟨z, hz, rfl, hc3, g3⟩
      have S4 := Lib.hid (S3.out.draw hc3 g3)
      clear hc3 g3
      have y2 : w3.cell? ⟨w1.heap.size, 2, none⟩ = some (.int .i64 0) := by rw [S4.out.kx.cell]; rfl
      have yf2 := S4.out.kx.frozen 2
      go_wp2_with fail
      go_meet
      exact ⟨rfl, m, z, by unfold K64; omega, by unfold K64; omega, S4.out.put2 z⟩
    by_cases h4 : k = 4
    · subst h4
      clear h2 h3
      go_wp2_with fail
      generalize hV : U.alloc _ = V
      have bV : Below U.heap.size U V := by rw [← hV]; exact (Below.refl _ _).alloc (Nat.le_refl _) _
      have P := (show Blk V U.heap.size 3 (([0, 1, 2, 3, 50, 99] : List Int).map fun n => Value.int .i64 n).toArray by rw [← hV]; exact Blk.new _ _ _)
      have SV := Lib.hid (S0.out.fresh bV)
      have hcu := S0.out.cur.lt
      refine (pickInt_any V c U.heap.size A len cap 6 [0, 1, 2, 3, 50, 99] rfl (by omega) (by omega) hlen SV.out.cur (by omega) P).mono ?_
      rintro e w2 ⟨v, hv, rfl, hc2, g2⟩
      have S2 := Lib.hid (SV.out.draw hc2 g2)
      have WV := Lib.hid (show K64 v by
        simp only [List.mem_cons, List.not_mem_nil, or_false] at hv
        unfold K64
        omega)
      clear hc2 g2 bV P hV hv SV hcu
      have y1 : w2.cell? ⟨w1.heap.size, 1, none⟩ = some (.int .i64 0) := by rw [S2.out.kx.cell]; rfl
      have yf1 := S2.out.kx.frozen 1
      go_wp2_with fail
      go_meet
      exact ⟨rfl, v, 0, WV.out, by unfold K64; omega, S2.out.put1 v⟩
    have d2 : (k == 2) = false := by simpa using h2
    have d3 : (k == 3) = false := by simpa using h3
    have d4 : (k == 4) = false := by simpa using h4
    clear h2 h3 h4
    go_wp2_with fail
    go_meet
    exact ⟨rfl, 0, 0, by unfold K64; omega, by unfold K64; omega, S0.out⟩
  case rest =>
  obtain ⟨rfl, a, bb, ja, jb, hS⟩ := hcut
  have S1 := Lib.hid hS
  have JA := Lib.hid ja
  have JB := Lib.hid jb
  clear hS ja jb S0 U
  obtain ⟨V, hV⟩ : ∃ z, z = wc := ⟨_, rfl⟩
  subst hV
  have x0 : V.cell? ⟨w1.heap.size, 0, none⟩ = some (.int .i64 k) := by rw [S1.out.kx.cell]; rfl
  by_cases h8 : k = 8
  · have d8 : (k != 8) = false := by simpa using h8
    clear h8
    have x1 : V.cell? ⟨w1.heap.size, 1, none⟩ = some (.int .i64 a) := by rw [S1.out.kx.cell]; rfl
    have x2 : V.cell? ⟨w1.heap.size, 2, none⟩ = some (.int .i64 bb) := by rw [S1.out.kx.cell]; rfl
    have x3 : V.cell? ⟨w1.heap.size, 3, none⟩ = some (.slice none 0 0) := by rw [S1.out.kx.cell]; rfl
    have y0 : V.cell? ⟨w.heap.size, 0, none⟩ = some (.int .i64 0) := by rw [S1.out.kr.cell]; rfl
    have yf0 := S1.out.kr.frozen 0
    have y1 : V.cell? ⟨w.heap.size, 1, none⟩ = some (.int .i64 0) := by rw [S1.out.kr.cell]; rfl
    have yf1 := S1.out.kr.frozen 1
    have y2 : V.cell? ⟨w.heap.size, 2, none⟩ = some (.int .i64 0) := by rw [S1.out.kr.cell]; rfl
    have yf2 := S1.out.kr.frozen 2
    have y3 : V.cell? ⟨w.heap.size, 3, none⟩ = some (.slice none 0 0) := by rw [S1.out.kr.cell]; rfl
    have yf3 := S1.out.kr.frozen 3
    go_wp2_with fail
    generalize hWf : ((((V.setCell _ _).setCell _ _).setCell _ _).setCell _ _) = Wf
    obtain ⟨kf, of, cf, gf⟩ := S1.out.fin hWf
    have e0 : Wf.cell? ⟨w.heap.size, 0, none⟩ = some (.int .i64 k) := by rw [kf.cell]; rfl
    have e1 : Wf.cell? ⟨w.heap.size, 1, none⟩ = some (.int .i64 a) := by rw [kf.cell]; rfl
    have e2 : Wf.cell? ⟨w.heap.size, 2, none⟩ = some (.int .i64 bb) := by rw [kf.cell]; rfl
    have e3 : Wf.cell? ⟨w.heap.size, 3, none⟩ = some (.slice none 0 0) := by rw [kf.cell]; rfl
    exact bodyPost_ret (v := .agg #[.int .i64 k, .int .i64 a, .int .i64 bb, .slice none 0 0]) (by simp [results, Try.results109, go_sem, e0, e1, e2, e3]) rfl ⟨k, a, bb, none, 0, 0, [], by unfold K64; omega, JA.out, JB.out, (fun z hz => by cases hz), by omega, rfl, rfl, of, cf, gf⟩
  · have d8 : (k != 8) = true := by simpa using h8
    clear h8
    go_wp2
    clear x0
    go_loopw [4] (fun i wx => NdRound w c A len cap w.heap.size w1.heap.size k a bb i wx) (fun i _ => 3 - (intOf i).toNat)
    case atStart => exact ⟨0, none, 0, [], rfl, by omega, rfl, (fun z hz => by cases hz), S1.out⟩
    case round =>
      obtain ⟨j, A1, c1, zs, rfl, hj, hl, hz, hS⟩ := hrel
      have S2 := Lib.hid hS
      have HL := Lib.hid hl
      have HZ := Lib.hid hz
      clear hS hl hz S1
      go_wp2_with fail
      refine (below_any 3 (by omega) (by omega) wr c A len cap hlen S2.out.cur).mono ?_
      rintro e w2 ⟨y, hy, rfl, hc2, g2⟩
      have S3 := Lib.hid (S2.out.draw hc2 g2)
      clear hc2 g2 S2
      by_cases hjy : j < y
      · skip
        obtain ⟨q1, hq1⟩ : ∃ q1 : Int, (j : Int) * 2 = q1 := ⟨_, rfl⟩
        obtain ⟨q2, hq2⟩ : ∃ q2 : Int, 1 + q1 = q2 := ⟨_, rfl⟩
        have mq1 : IntKind.i64.wrap q1 = q1 := IntWalk.i64_in _ (by omega)
        have mq2 : IntKind.i64.wrap q2 = q2 := IntWalk.i64_in _ (by omega)
        have qb : 1 ≤ q2 ∧ q2 ≤ 5 := by omega
        go_wp2_with fail
        obtain ⟨w3, hw3⟩ : ∃ z, w2.drew = z := ⟨_, rfl⟩
        have S4 := Lib.hid (show NdSt w w3 c A len cap w.heap.size w1.heap.size k a bb A1 j c1 zs by rw [← hw3]; exact S3.out.drew)
        refine wp_region_held_drew (S := fun _ => True) (by kernel_rfl) ?_ (fun hHeld => ?_)
        · exact trivial
        change wpAnyH _ _ opsN14 _ _ 12 (#[false, false, false, false, false, false, false, false, false, false, false, false] : Array Bool) _ _
        rw [hw3]
        clear hw3 S3
        refine regY tN14_e_0 (.pointer (some ⟨w1.heap.size, 3, none⟩)) (fun W hSw => by unfold qN14_0; go_simp) hHeld ?_
        try simp only [pt, List.set]
        refine regY tN14_0_2 (.int .i64 (j : Int)) (fun W hSw => by unfold qN14_2; go_simp) hHeld ?_
        try simp only [pt, List.set]
        refine regY tN14_02_3 (.int .i64 q1) (fun W hSw => by unfold qN14_3; go_simp) hHeld ?_
        try simp only [pt, List.set]
        refine regY tN14_023_4 (.int .i64 q2) (fun W hSw => by unfold qN14_4; go_simp) hHeld ?_
        try simp only [pt, List.set]
        refine regY tN14_0234_5 (.pointer (some ⟨c, 0, none⟩)) (fun W hSw => by unfold qN14_5; go_simp) hHeld ?_
        try simp only [pt, List.set]
        refine cN14_02345_16 (fun K hK => ?_) (fun K hK => ?_)
        · rw [if_pos (by rfl)]
          unfold qN14_1
          have l3 : w3.cell? ⟨w1.heap.size, 3, none⟩ = some (.slice A1 j c1) := by rw [S4.out.kx.cell]; rfl
          go_simp
          clear l3
          refine Shut.out hK _ _ ?_ (fun hHeld => ?_)
          · exact trivial
          clear hK K
          try simp only [pt, List.set]
          refine cN14_012345_6 (fun K hK => ?_)
          rw [if_pos (by rfl)]
          unfold qN14_6
          go_simp
          refine (below_any 2 (by omega) (by omega) w3 c A len cap hlen S4.out.cur).mono ?_
          rintro e v1 ⟨y2, hy2, rfl, hcn, gn⟩
          have T1 := Lib.hid (S4.out.draw hcn gn)
          obtain ⟨p, hp⟩ : ∃ p : Int, q2 + (y2 : Int) = p := ⟨_, rfl⟩
          have pb : 1 ≤ p ∧ p ≤ 6 := by omega
          have mp : IntKind.i64.wrap p = p := IntWalk.i64_in _ (by omega)
          clear hcn gn
          refine Shut.out hK _ _ ?_ (fun hHeld => ?_)
          · exact trivial
          clear hK K
          try simp only [pt, List.set]
          refine regY tN14_0123456_7 (.int .i64 p) (fun W hSw => by unfold qN14_7; go_simp) hHeld ?_
          try simp only [pt, List.set]
          refine cN14_01234567_8 (fun K hK => ?_)
          rw [if_pos (by rfl)]
          unfold qN14_8
          go_simp
          generalize hV : World.alloc _ _ = v2
          have hbv : Below v1.heap.size v1 v2 := by rw [← hV]; exact (Below.refl _ _).alloc (Nat.le_refl _) _
          have NB := Lib.hid (show Blk v2 v1.heap.size 3 #[.int .i64 p] by rw [← hV]; exact Blk.new _ _ _)
          have T2 := Lib.hid (T1.out.fresh hbv)
          clear hbv hV
          refine Shut.out hK _ _ ?_ (fun hHeld => ?_)
          · exact trivial
          clear hK K
          try simp only [pt, List.set]
          refine cN14_012345678_9 (fun K hK => ?_)
          refine step_append_lies _ (by rfl) _ _ 44 (by rfl) w.heap.size 3 i0 (.int .i64 0) 1 8 Try.underlying44 hi hz0 hz1 hz2 rfl (by decide) _ (j) _ (by rfl) T2.out.row ⟨v1.heap.size, 0, none⟩ 1 1 [.int .i64 p] (by rfl) rfl (World.news_of_block NB.out) (by simp [Value.oneCell']) (by decide) (by unfold maxLen; omega) (by omega) T2.out.gr.size _ rfl ?_
          intro g4 cap4 v3 OA GA _ _
          have OA := Lib.hid OA
          have GA := Lib.hid GA
          refine Shut.out hK _ _ ?_ (fun hHeld => ?_)
          · exact trivial
          clear hK K
          simp only [qN14_9, Act.put, List.setIfInBounds_toArray, List.set_cons_zero, List.set_cons_succ]
          refine regY tN14_0123456789_10 (.pointer (some ⟨w1.heap.size, 3, none⟩)) (fun W hSw => by unfold qN14_10; go_simp) hHeld ?_
          try simp only [pt, List.set]
          refine cN14_0123456789_10__11 (fun K hK => ?_)
          rw [if_pos (by rfl)]
          unfold qN14_11
          obtain ⟨A2, c2, he, SN⟩ := T2.out.app OA.out GA.out
          simp only [Value.slice.injEq, true_and] at he
          obtain ⟨rfl, rfl⟩ := he
          have kxo := T2.out.kx.grown GA.out (Ne.symm (own_type T2.out.row T2.out.kx (by decide)))
          have l3 : v3.cell? ⟨w1.heap.size, 3, none⟩ = some (.slice A1 j c1) := by rw [kxo.cell]; rfl
          have lf3 := kxo.frozen 3
          go_simp
          generalize hV : v3.setCell _ _ = v4 at SN ⊢
          have T4 := Lib.hid SN
          clear l3 lf3 kxo hV SN OA GA NB
          refine Shut.out hK _ _ ?_ (fun hHeld => ?_)
          · exact trivial
          clear hK K
          try simp only [pn]
          refine wpAnyH_done (by kernel_rfl) ?_ _
          clear hHeld
          have HZ2 := Lib.hid (show ∀ z ∈ zs ++ [p], K64 z from fun z hz => by
            rcases List.mem_append.1 hz with h | h
            · exact HZ.out z h
            · obtain rfl : z = p := by simpa using h
              unfold K64; omega)
          have HL2 := Lib.hid (show (zs ++ [p]).length = j + 1 by simp [HL.out])
          clear hq1 hq2 hp
          go_wp2
          go_roundw
          case rel => exact ⟨j + 1, some ⟨g4, 0, none⟩, cap4, zs ++ [p], by go_num, by omega, HL2.out, HZ2.out, T4.out⟩
          case measure => simp [intOf]; omega
        · rw [if_pos (by rfl)]
          unfold qN14_6
          go_simp
          refine (below_any 2 (by omega) (by omega) w3 c A len cap hlen S4.out.cur).mono ?_
          rintro e v1 ⟨y2, hy2, rfl, hcn, gn⟩
          have T1 := Lib.hid (S4.out.draw hcn gn)
          obtain ⟨p, hp⟩ : ∃ p : Int, q2 + (y2 : Int) = p := ⟨_, rfl⟩
          have pb : 1 ≤ p ∧ p ≤ 6 := by omega
          have mp : IntKind.i64.wrap p = p := IntWalk.i64_in _ (by omega)
          clear hcn gn
          refine Shut.out hK _ _ ?_ (fun hHeld => ?_)
          · exact trivial
          clear hK K
          try simp only [pt, List.set]
          refine regY tN14_023456_7 (.int .i64 p) (fun W hSw => by unfold qN14_7; go_simp) hHeld ?_
          try simp only [pt, List.set]
          refine cN14_0234567_18 (fun K hK => ?_) (fun K hK => ?_)
          · rw [if_pos (by rfl)]
            unfold qN14_1
            have l3 : v1.cell? ⟨w1.heap.size, 3, none⟩ = some (.slice A1 j c1) := by rw [T1.out.kx.cell]; rfl
            go_simp
            clear l3
            refine Shut.out hK _ _ ?_ (fun hHeld => ?_)
            · exact trivial
            clear hK K
            try simp only [pt, List.set]
            refine cN14_01234567_8 (fun K hK => ?_)
            rw [if_pos (by rfl)]
            unfold qN14_8
            go_simp
            generalize hV : World.alloc _ _ = v2
            have hbv : Below v1.heap.size v1 v2 := by rw [← hV]; exact (Below.refl _ _).alloc (Nat.le_refl _) _
            have NB := Lib.hid (show Blk v2 v1.heap.size 3 #[.int .i64 p] by rw [← hV]; exact Blk.new _ _ _)
            have T2 := Lib.hid (T1.out.fresh hbv)
            clear hbv hV
            refine Shut.out hK _ _ ?_ (fun hHeld => ?_)
            · exact trivial
            clear hK K
            try simp only [pt, List.set]
            refine cN14_012345678_9 (fun K hK => ?_)
            refine step_append_lies _ (by rfl) _ _ 44 (by rfl) w.heap.size 3 i0 (.int .i64 0) 1 8 Try.underlying44 hi hz0 hz1 hz2 rfl (by decide) _ (j) _ (by rfl) T2.out.row ⟨v1.heap.size, 0, none⟩ 1 1 [.int .i64 p] (by rfl) rfl (World.news_of_block NB.out) (by simp [Value.oneCell']) (by decide) (by unfold maxLen; omega) (by omega) T2.out.gr.size _ rfl ?_
            intro g4 cap4 v3 OA GA _ _
            have OA := Lib.hid OA
            have GA := Lib.hid GA
            refine Shut.out hK _ _ ?_ (fun hHeld => ?_)
            · exact trivial
            clear hK K
            simp only [qN14_9, Act.put, List.setIfInBounds_toArray, List.set_cons_zero, List.set_cons_succ]
            refine regY tN14_0123456789_10 (.pointer (some ⟨w1.heap.size, 3, none⟩)) (fun W hSw => by unfold qN14_10; go_simp) hHeld ?_
            try simp only [pt, List.set]
            refine cN14_0123456789_10__11 (fun K hK => ?_)
            rw [if_pos (by rfl)]
            unfold qN14_11
            obtain ⟨A2, c2, he, SN⟩ := T2.out.app OA.out GA.out
            simp only [Value.slice.injEq, true_and] at he
            obtain ⟨rfl, rfl⟩ := he
            have kxo := T2.out.kx.grown GA.out (Ne.symm (own_type T2.out.row T2.out.kx (by decide)))
            have l3 : v3.cell? ⟨w1.heap.size, 3, none⟩ = some (.slice A1 j c1) := by rw [kxo.cell]; rfl
            have lf3 := kxo.frozen 3
            go_simp
            generalize hV : v3.setCell _ _ = v4 at SN ⊢
            have T4 := Lib.hid SN
            clear l3 lf3 kxo hV SN OA GA NB
            refine Shut.out hK _ _ ?_ (fun hHeld => ?_)
            · exact trivial
            clear hK K
            try simp only [pn]
            refine wpAnyH_done (by kernel_rfl) ?_ _
            clear hHeld
            have HZ2 := Lib.hid (show ∀ z ∈ zs ++ [p], K64 z from fun z hz => by
              rcases List.mem_append.1 hz with h | h
              · exact HZ.out z h
              · obtain rfl : z = p := by simpa using h
                unfold K64; omega)
            have HL2 := Lib.hid (show (zs ++ [p]).length = j + 1 by simp [HL.out])
            clear hq1 hq2 hp
            go_wp2
            go_roundw
            case rel => exact ⟨j + 1, some ⟨g4, 0, none⟩, cap4, zs ++ [p], by go_num, by omega, HL2.out, HZ2.out, T4.out⟩
            case measure => simp [intOf]; omega
          · rw [if_pos (by rfl)]
            unfold qN14_8
            go_simp
            generalize hV : World.alloc _ _ = v2
            have hbv : Below v1.heap.size v1 v2 := by rw [← hV]; exact (Below.refl _ _).alloc (Nat.le_refl _) _
            have NB := Lib.hid (show Blk v2 v1.heap.size 3 #[.int .i64 p] by rw [← hV]; exact Blk.new _ _ _)
            have T2 := Lib.hid (T1.out.fresh hbv)
            clear hbv hV
            refine Shut.out hK _ _ ?_ (fun hHeld => ?_)
            · exact trivial
            clear hK K
            try simp only [pt, List.set]
            refine cN14_02345678_1 (fun K hK => ?_)
            rw [if_pos (by rfl)]
            unfold qN14_1
            have l3 : v2.cell? ⟨w1.heap.size, 3, none⟩ = some (.slice A1 j c1) := by rw [T2.out.kx.cell]; rfl
            go_simp
            clear l3
            refine Shut.out hK _ _ ?_ (fun hHeld => ?_)
            · exact trivial
            clear hK K
            try simp only [pt, List.set]
            refine cN14_012345678_9 (fun K hK => ?_)
            refine step_append_lies _ (by rfl) _ _ 44 (by rfl) w.heap.size 3 i0 (.int .i64 0) 1 8 Try.underlying44 hi hz0 hz1 hz2 rfl (by decide) _ (j) _ (by rfl) T2.out.row ⟨v1.heap.size, 0, none⟩ 1 1 [.int .i64 p] (by rfl) rfl (World.news_of_block NB.out) (by simp [Value.oneCell']) (by decide) (by unfold maxLen; omega) (by omega) T2.out.gr.size _ rfl ?_
            intro g4 cap4 v3 OA GA _ _
            have OA := Lib.hid OA
            have GA := Lib.hid GA
            refine Shut.out hK _ _ ?_ (fun hHeld => ?_)
            · exact trivial
            clear hK K
            simp only [qN14_9, Act.put, List.setIfInBounds_toArray, List.set_cons_zero, List.set_cons_succ]
            refine regY tN14_0123456789_10 (.pointer (some ⟨w1.heap.size, 3, none⟩)) (fun W hSw => by unfold qN14_10; go_simp) hHeld ?_
            try simp only [pt, List.set]
            refine cN14_0123456789_10__11 (fun K hK => ?_)
            rw [if_pos (by rfl)]
            unfold qN14_11
            obtain ⟨A2, c2, he, SN⟩ := T2.out.app OA.out GA.out
            simp only [Value.slice.injEq, true_and] at he
            obtain ⟨rfl, rfl⟩ := he
            have kxo := T2.out.kx.grown GA.out (Ne.symm (own_type T2.out.row T2.out.kx (by decide)))
            have l3 : v3.cell? ⟨w1.heap.size, 3, none⟩ = some (.slice A1 j c1) := by rw [kxo.cell]; rfl
            have lf3 := kxo.frozen 3
            go_simp
            generalize hV : v3.setCell _ _ = v4 at SN ⊢
            have T4 := Lib.hid SN
            clear l3 lf3 kxo hV SN OA GA NB
            refine Shut.out hK _ _ ?_ (fun hHeld => ?_)
            · exact trivial
            clear hK K
            try simp only [pn]
            refine wpAnyH_done (by kernel_rfl) ?_ _
            clear hHeld
            have HZ2 := Lib.hid (show ∀ z ∈ zs ++ [p], K64 z from fun z hz => by
              rcases List.mem_append.1 hz with h | h
              · exact HZ.out z h
              · obtain rfl : z = p := by simpa using h
                unfold K64; omega)
            have HL2 := Lib.hid (show (zs ++ [p]).length = j + 1 by simp [HL.out])
            clear hq1 hq2 hp
            go_wp2
            go_roundw
            case rel => exact ⟨j + 1, some ⟨g4, 0, none⟩, cap4, zs ++ [p], by go_num, by omega, HL2.out, HZ2.out, T4.out⟩
            case measure => simp [intOf]; omega
      · skip
        have x0 : w2.cell? ⟨w1.heap.size, 0, none⟩ = some (.int .i64 k) := by rw [S3.out.kx.cell]; rfl
        have x1 : w2.cell? ⟨w1.heap.size, 1, none⟩ = some (.int .i64 a) := by rw [S3.out.kx.cell]; rfl
        have x2 : w2.cell? ⟨w1.heap.size, 2, none⟩ = some (.int .i64 bb) := by rw [S3.out.kx.cell]; rfl
        have x3 : w2.cell? ⟨w1.heap.size, 3, none⟩ = some (.slice A1 j c1) := by rw [S3.out.kx.cell]; rfl
        have y0 : w2.cell? ⟨w.heap.size, 0, none⟩ = some (.int .i64 0) := by rw [S3.out.kr.cell]; rfl
        have yf0 := S3.out.kr.frozen 0
        have y1 : w2.cell? ⟨w.heap.size, 1, none⟩ = some (.int .i64 0) := by rw [S3.out.kr.cell]; rfl
        have yf1 := S3.out.kr.frozen 1
        have y2 : w2.cell? ⟨w.heap.size, 2, none⟩ = some (.int .i64 0) := by rw [S3.out.kr.cell]; rfl
        have yf2 := S3.out.kr.frozen 2
        have y3 : w2.cell? ⟨w.heap.size, 3, none⟩ = some (.slice none 0 0) := by rw [S3.out.kr.cell]; rfl
        have yf3 := S3.out.kr.frozen 3
        go_wp2_with fail
        generalize hWf : ((((w2.setCell _ _).setCell _ _).setCell _ _).setCell _ _) = Wf
        obtain ⟨kf, of, cf, gf⟩ := S3.out.fin hWf
        have e0 : Wf.cell? ⟨w.heap.size, 0, none⟩ = some (.int .i64 k) := by rw [kf.cell]; rfl
        have e1 : Wf.cell? ⟨w.heap.size, 1, none⟩ = some (.int .i64 a) := by rw [kf.cell]; rfl
        have e2 : Wf.cell? ⟨w.heap.size, 2, none⟩ = some (.int .i64 bb) := by rw [kf.cell]; rfl
        have e3 : Wf.cell? ⟨w.heap.size, 3, none⟩ = some (.slice A1 j c1) := by rw [kf.cell]; rfl
        exact bodyPost_ret (v := .agg #[.int .i64 k, .int .i64 a, .int .i64 bb, .slice A1 j c1]) (by simp [results, Try.results109, go_sem, e0, e1, e2, e3]) rfl ⟨k, a, bb, A1, j, c1, zs, by unfold K64; omega, JA.out, JB.out, HZ.out, by omega, HL.out, rfl, of, cf, gf⟩

end Go.Proofs.Ytbbagpnjjjohpaa.hexes

