/-
  What FnGraphs does behind its draws.
-/
import Derived.Test.YtjplkoglibagkaaJ26
import Derived.Test.YtjplkoglibagkaaJ29
import Derived.Test.YtjplkoglibagkaaJ30
import Derived.Test.YtjplkoglibagkaaJ31
import Derived.Test.YtjplkoglibagkaaJ47
import Derived.Deep.RegionHeld3
import Derived.Deep.DeepCutAuto
import Derived.WalkArith

namespace Go.Proofs.Ytjplkoglibagkaa.fnGraphs
open Go.RowKit Go.Proofs.Ytjplkoglibagkaa.hexes

theorem row_drew {w : World} {lo hi e size n c : Nat} {A : Option Addr} {xs : List Value} (h : Row w lo hi e size A n c xs) : Row w.drew lo hi e size A n c xs := h.below ((Below.refl _ _).drew)

/-- The law's own graph as it lies in memory. -/
theorem gs0_nds {w : World} {g1 g2 g3 g : Nat} (k1 : Blk w g1 3 #[.int .i64 1]) (k2 : Blk w g2 3 #[.int .i64 2]) (k3 : Blk w g3 3 #[.int .i64 1])
    (k : Blk w g 37 #[.int .i64 1, .int .i64 0, .int .i64 0, .slice (some ⟨g1, 0, none⟩) 1 1, .int .i64 5, .int .i64 0, .int .i64 0, .slice (some ⟨g2, 0, none⟩) 1 1, .int .i64 7, .int .i64 0, .int .i64 0, .slice (some ⟨g3, 0, none⟩) 1 1]) : Nds w (some ⟨g, 0, none⟩) gs0 := fun _ => by
  have one : ∀ (q : Nat) (z : Int), Blk w q 3 #[.int .i64 z] → Ints w (some ⟨q, 0, none⟩) [z] := fun q z hq _ => ⟨q, 0, rfl, hq.lt, fun j hj => by
    obtain rfl : j = 0 := by simpa using hj
    rw [hq.cell]; rfl⟩
  refine ⟨g, 0, rfl, k.lt, fun j hj => ?_⟩
  have hj3 : j = 0 ∨ j = 1 ∨ j = 2 := by simp [gs0] at hj; omega
  rcases hj3 with rfl | rfl | rfl
  · exact ⟨(1, 0, 0, some ⟨g1, 0, none⟩, 1, 1), ⟨rfl, rfl, rfl, rfl, Nat.le_refl _, one _ _ k1, fun h => by cases h⟩, by rw [k.cell]; rfl, by rw [k.cell]; rfl, by rw [k.cell]; rfl, by rw [k.cell]; rfl⟩
  · exact ⟨(5, 0, 0, some ⟨g2, 0, none⟩, 1, 1), ⟨rfl, rfl, rfl, rfl, Nat.le_refl _, one _ _ k2, fun h => by cases h⟩, by rw [k.cell]; rfl, by rw [k.cell]; rfl, by rw [k.cell]; rfl, by rw [k.cell]; rfl⟩
  · exact ⟨(7, 0, 0, some ⟨g3, 0, none⟩, 1, 1), ⟨rfl, rfl, rfl, rfl, Nat.le_refl _, one _ _ k3, fun h => by cases h⟩, by rw [k.cell]; rfl, by rw [k.cell]; rfl, by rw [k.cell]; rfl, by rw [k.cell]; rfl⟩

def restOf (n : Nat) : Code → Option Code
  | .seq (.region id _ _) b => if id = n then some b else restOf n b
  | .seq a b => match restOf n a with
    | some c => some c
    | none => restOf n b
  | .block _ c => restOf n c
  | .scope c => restOf n c
  | .loop c => restOf n c
  | .cond _ a b => match restOf n a with
    | some c => some c
    | none => restOf n b
  | _ => none
noncomputable def rest14 : Code := (Try.f3.body.bind (restOf 14)).getD .skip

set_option maxRecDepth 1000000 in
set_option maxHeartbeats 16000000 in
theorem rest {K : Act → World → Prop} {Q' : Exit → Act → World → Prop} (w V : World) (g3 : Nat) (A1 : Option Addr) (n1 c1 : Nat) (wk1 cp1 : Int) (gs1 : List Nd) (ok : Bool) (s0 s1 s2 s5 s6 s7 s8 s9 s10 s11 s12 s13 s14 s15 s16 s17 s18 s19 s20 s21 s22 s23 s24 s25 s26 s27 s28 s29 s30 s31 s32 s33 s34 s35 s36 s37 s38 s39 s40 s41 s42 s43 s44 s45 s46 s47 s48 s49 s50 s51 s52 s53 s54 s55 s56 s57 s58 s59 s60 s61 s62 s63 s64 s65 s66 s67 s68 s69 s70 s71 s72 s73 s74 s75 s76 s77 s78 s79 s80 s81 s82 s83 s84 s85 s86 s87 s88 s89 s90 s91 s92 s93 s94 s95 s96 s97 s98 s99 s100 s101 s102 s103 s104 s105 s106 s107 s108 s109 s110 s111 s112 s113 s114 s115 s116 s117 s118 s119 s120 s121 s122 s123 s124 s125 s126 s127 s128 s129 s130 s131 s132 s133 s134 s135 s136 s137 s138 s139 s140 s141 s142 s143 s144 s145 s146 s147 s148 s149 s150 s151 s152 s153 s154 s155 s156 s157 s158 s159 s160 s161 s162 s163 s164 s165 s166 s167 s168 s169 s170 s171 s172 s173 s174 s175 s176 s177 s178 s179 s180 s181 s182 s183 s184 s185 s186 s187 s188 s189 s190 s191 s192 s193 s194 s195 s196 s197 s198 s199 s200 s201 : Value)
    (le1 : n1 ≤ 9) (hL1 : gs1.length = n1) (ou1 : ∀ x ∈ gs1, x.2.2.2.length ≤ 1048576) (hok : okGr gs1 dec1 wk1 cp1 = ok) (hG : GrGot V A1 n1 gs1) (hx : Blk V g3 26 #[.slice A1 n1 c1, .int .i64 wk1, .int .i64 cp1]) (hB : Below w.heap.size w V)
    (hQ : Q' = bodyPost Try.prog Try.f3 fun e w' => e = .returned (.bool true) ∧ Below w.heap.size w w')
    (hK : ∀ (a : Act) (w : World), Code.wp Try.prog rest14 Q' a w → K a w) :
    Code.wp Try.prog (.region 14 #[{ dst := some 16, op := Op.assign (Operand.const (Value.bool false)), type := 4, pos := "laws.go:392", after := #[], guard := none }] false) (Exit.then K Q') ⟨#[s0, s1, s2, .pointer (some ⟨g3, 0, none⟩), .bool ok, s5, s6, s7, s8, s9, s10, s11, s12, s13, s14, s15, s16, s17, s18, s19, s20, s21, s22, s23, s24, s25, s26, s27, s28, s29, s30, s31, s32, s33, s34, s35, s36, s37, s38, s39, s40, s41, s42, s43, s44, s45, s46, s47, s48, s49, s50, s51, s52, s53, s54, s55, s56, s57, s58, s59, s60, s61, s62, s63, s64, s65, s66, s67, s68, s69, s70, s71, s72, s73, s74, s75, s76, s77, s78, s79, s80, s81, s82, s83, s84, s85, s86, s87, s88, s89, s90, s91, s92, s93, s94, s95, s96, s97, s98, s99, s100, s101, s102, s103, s104, s105, s106, s107, s108, s109, s110, s111, s112, s113, s114, s115, s116, s117, s118, s119, s120, s121, s122, s123, s124, s125, s126, s127, s128, s129, s130, s131, s132, s133, s134, s135, s136, s137, s138, s139, s140, s141, s142, s143, s144, s145, s146, s147, s148, s149, s150, s151, s152, s153, s154, s155, s156, s157, s158, s159, s160, s161, s162, s163, s164, s165, s166, s167, s168, s169, s170, s171, s172, s173, s174, s175, s176, s177, s178, s179, s180, s181, s182, s183, s184, s185, s186, s187, s188, s189, s190, s191, s192, s193, s194, s195, s196, s197, s198, s199, s200, s201], []⟩ V := by
  have L1 := Lib.hid hL1
  have OK := Lib.hid hok
  have G1_0 := Lib.hid hG
  have x3_0 := Lib.hid hx
  have B0 := Lib.hid hB
  have lm1 : n1 ≤ 1048576 := by omega
  subst hQ
  conv at hK => enter [a, w, 1, 2]; whnf
  clear hL1 hok hG hx hB
  cases ok with
  | false =>
    have LPF := Lib.hid (show loopG gs1 wk1 cp1 = false from loop_bad OK.out)
    go_wp2
    go_loopw [16, 17] (fun bk k wr => bk = .bool false ∧ k = .int .i64 0 ∧ Below V.heap.size V wr) (fun _ _ _ => 0)
    case atStart => exact ⟨rfl, rfl, Below.refl _ _⟩
    case round =>
      obtain ⟨rfl, rfl, hb⟩ := hrel
      have BR := Lib.hid (below_chain B0.out hb)
      have XR := Lib.hid (x3_0.out.below hb)
      have GR := Lib.hid (G1_0.out.below hb)
      clear hb
      have z0 : wr.cell? ⟨g3, 0, none⟩ = some (.slice A1 n1 c1) := by rw [XR.out.cell]; rfl
      have z1 : wr.cell? ⟨g3, 1, none⟩ = some (.int .i64 wk1) := by rw [XR.out.cell]; rfl
      have z2 : wr.cell? ⟨g3, 2, none⟩ = some (.int .i64 cp1) := by rw [XR.out.cell]; rfl
      obtain ⟨U1, hU1⟩ : ∃ z, wr.alloc (.cells #[.int .i64 1] 3) = z := ⟨_, rfl⟩
      obtain ⟨U2, hU2⟩ : ∃ z, U1.alloc (.cells #[.int .i64 2] 3) = z := ⟨_, rfl⟩
      obtain ⟨U3, hU3⟩ : ∃ z, U2.alloc (.cells #[.int .i64 1] 3) = z := ⟨_, rfl⟩
      obtain ⟨U4, hU4⟩ : ∃ z, U3.alloc (.cells #[.int .i64 1, .int .i64 0, .int .i64 0, .slice (some ⟨wr.heap.size, 0, none⟩) 1 1, .int .i64 5, .int .i64 0, .int .i64 0, .slice (some ⟨U1.heap.size, 0, none⟩) 1 1, .int .i64 7, .int .i64 0, .int .i64 0, .slice (some ⟨U2.heap.size, 0, none⟩) 1 1] 37) = z := ⟨_, rfl⟩
      obtain ⟨U5, hU5⟩ : ∃ z, U4.alloc (.cells #[.slice (some ⟨U3.heap.size, 0, none⟩) 3 3, .int .i64 1, .int .i64 1] 26) = z := ⟨_, rfl⟩
      have bU1 : Below wr.heap.size wr U1 := by rw [← hU1]; exact (Below.refl _ _).alloc (Nat.le_refl _) _
      have bU2 : Below U1.heap.size U1 U2 := by rw [← hU2]; exact (Below.refl _ _).alloc (Nat.le_refl _) _
      have bU3 : Below U2.heap.size U2 U3 := by rw [← hU3]; exact (Below.refl _ _).alloc (Nat.le_refl _) _
      have bU4 : Below U3.heap.size U3 U4 := by rw [← hU4]; exact (Below.refl _ _).alloc (Nat.le_refl _) _
      have bU5 : Below U4.heap.size U4 U5 := by rw [← hU5]; exact (Below.refl _ _).alloc (Nat.le_refl _) _
      have k1 : Blk U1 wr.heap.size 3 #[.int .i64 1] := by rw [← hU1]; exact Blk.new _ _ _
      have k2 : Blk U2 U1.heap.size 3 #[.int .i64 2] := by rw [← hU2]; exact Blk.new _ _ _
      have k3 : Blk U3 U2.heap.size 3 #[.int .i64 1] := by rw [← hU3]; exact Blk.new _ _ _
      have k4 : Blk U4 U3.heap.size 37 #[.int .i64 1, .int .i64 0, .int .i64 0, .slice (some ⟨wr.heap.size, 0, none⟩) 1 1, .int .i64 5, .int .i64 0, .int .i64 0, .slice (some ⟨U1.heap.size, 0, none⟩) 1 1, .int .i64 7, .int .i64 0, .int .i64 0, .slice (some ⟨U2.heap.size, 0, none⟩) 1 1] := by rw [← hU4]; exact Blk.new _ _ _
      have k5 : Blk U5 U4.heap.size 26 #[.slice (some ⟨U3.heap.size, 0, none⟩) 3 3, .int .i64 1, .int .i64 1] := by rw [← hU5]; exact Blk.new _ _ _
      have L0 := Lib.hid (gs0_nds (((k1.below bU2).below bU3).below bU4 |>.below bU5) ((k2.below bU3).below bU4 |>.below bU5) (k3.below bU4 |>.below bU5) (k4.below bU5))
      have B5 := Lib.hid (below_chain BR.out (below_chain (below_chain (below_chain (below_chain bU1 bU2) bU3) bU4) bU5))
      have X5 := Lib.hid ((((XR.out.below bU1).below bU2).below bU3).below bU4 |>.below bU5)
      have G5 := Lib.hid (((((GR.out.below bU1).below bU2).below bU3).below bU4).below bU5)
      have K5 := Lib.hid k5
      have hso : ∀ x ∈ gs0, x.2.2.2.length ≤ 1048576 := by intro x hx; simp [gs0] at hx; rcases hx with rfl | rfl | rfl <;> simp
      clear k1 k2 k3 k4 k5 bU1 bU2 bU3 bU4 bU5
      have x0 : U5.cell? ⟨g3, 0, none⟩ = some (.slice A1 n1 c1) := by rw [X5.out.cell]; rfl
      have x1 : U5.cell? ⟨g3, 1, none⟩ = some (.int .i64 wk1) := by rw [X5.out.cell]; rfl
      have x2 : U5.cell? ⟨g3, 2, none⟩ = some (.int .i64 cp1) := by rw [X5.out.cell]; rfl
      go_wp2_with fail
      clear z0 z1 z2 x0 x1 x2 hU1 hU2 hU3 hU4 hU5
      refine (implLoop_is LPF.out L1.out ou1 lm1 A1 c1 _ G5.out.nds).mono ?_
      rintro e w20 ⟨rfl, hb⟩
      have B6 := Lib.hid (below_chain B5.out hb)
      have L6 := Lib.hid (L0.out.below hb)
      have K6 := Lib.hid (K5.out.below hb)
      clear hb
      have y0 : w20.cell? ⟨U4.heap.size, 0, none⟩ = some (.slice (some ⟨U3.heap.size, 0, none⟩) 3 3) := by rw [K6.out.cell]; rfl
      have y1 : w20.cell? ⟨U4.heap.size, 1, none⟩ = some (.int .i64 1) := by rw [K6.out.cell]; rfl
      have y2 : w20.cell? ⟨U4.heap.size, 2, none⟩ = some (.int .i64 1) := by rw [K6.out.cell]; rfl
      go_wp2_with fail
      clear y0 y1 y2
      refine (implLoop_is gs0_loop (n := 3) rfl hso (by omega) _ 3 _ L6.out).mono ?_
      rintro e w21 ⟨rfl, hb⟩
      have B7 := Lib.hid (below_chain B6.out hb)
      have L7 := Lib.hid (L6.out.below hb)
      have K7 := Lib.hid (K6.out.below hb)
      clear hb
      have y0 : w21.cell? ⟨U4.heap.size, 0, none⟩ = some (.slice (some ⟨U3.heap.size, 0, none⟩) 3 3) := by rw [K7.out.cell]; rfl
      have y1 : w21.cell? ⟨U4.heap.size, 1, none⟩ = some (.int .i64 1) := by rw [K7.out.cell]; rfl
      have y2 : w21.cell? ⟨U4.heap.size, 2, none⟩ = some (.int .i64 1) := by rw [K7.out.cell]; rfl
      go_wp2_with fail
      clear y0 y1 y2
      refine (implReach_is gs0_no (n := 3) rfl hso (by omega) _ 3 _ L7.out).mono ?_
      rintro e w22 ⟨rfl, hb⟩
      have B8 := Lib.hid (below_chain B7.out hb)
      clear hb
      go_wp2
      go_ret
      exact ⟨rfl, B8.out⟩
  | true =>
    go_wp2
    go_loopw [16, 17] (fun bk k wr => ∃ j : Nat, j ≤ n1 ∧ k = .int .i64 (j : Int) ∧ bk = .bool (backsTo gs1 j) ∧ Below V.heap.size V wr) (fun _ k _ => n1 - (intOf k).toNat)
    case atStart => exact ⟨0, Nat.zero_le _, rfl, by rw [backsTo_zero], Below.refl _ _⟩
    case round =>
      obtain ⟨j, hj, rfl, rfl, hb⟩ := hrel
      obtain ⟨wo, hwo⟩ : ∃ z, z = wr := ⟨_, rfl⟩
      subst hwo
      have BR := Lib.hid (below_chain B0.out hb)
      have B9R := Lib.hid hb
      have XR := Lib.hid (x3_0.out.below hb)
      have GR := Lib.hid (G1_0.out.below hb)
      clear hb
      obtain ⟨bv, hbv⟩ : ∃ q, backsTo gs1 j = q := ⟨_, rfl⟩
      have BV := Lib.hid hbv
      rw [hbv]
      clear hbv
      by_cases hlt : j < n1
      · skip
        have lj : j < gs1.length := by rw [L1.out]; exact hlt
        obtain ⟨b, off, kd, a, bb, zs, A2, m1, c2, rfl, hx, hz, _, _, e0, e1, e2, e3⟩ := GR.out.nds.at lj
        have BS := Lib.hid (show backsTo gs1 (j + 1) = (bv || (kd == 7 && decide (0 < m1))) by rw [backsTo_succ, BV.out, kindAt_of rfl lj, outsAt_of rfl lj, hx, ← hz])
        have i0 : (0 : Int) ≤ (j : Int) := by omega
        have i1 : (j : Int) < (n1 : Int) := by omega
        obtain ⟨r, hr⟩ : ∃ r, reachG gs1 wk1 cp1 (j : Int) (j : Int) = r := ⟨_, rfl⟩
        have RR := Lib.hid hr
        have ER := Lib.hid (implReach_is hr L1.out ou1 lm1 (some ⟨b, off, none⟩) c1 wo GR.out.nds)
        clear hx hz hr lj BV e1 e2
        have x0 : wo.cell? ⟨g3, 0, none⟩ = some (.slice (some ⟨b, off, none⟩) n1 c1) := by rw [XR.out.cell]; rfl
        have x1 : wo.cell? ⟨g3, 1, none⟩ = some (.int .i64 wk1) := by rw [XR.out.cell]; rfl
        have x2 : wo.cell? ⟨g3, 2, none⟩ = some (.int .i64 cp1) := by rw [XR.out.cell]; rfl
        obtain ⟨bq, hbq⟩ : ∃ q, ((kd == 7) && decide (0 < m1)) = q := ⟨_, rfl⟩
        obtain ⟨nb, hnb⟩ : ∃ q, (bv || bq) = q := ⟨_, rfl⟩
        have BN := Lib.hid (show backsTo gs1 (j + 1) = nb by rw [BS.out, hbq, hnb])
        have BQ := Lib.hid hbq
        have NB := Lib.hid hnb
        clear BS hbq hnb
        go_upto_region 18 with fail
        go_cut [129] (fun t wx => t = .bool bq ∧ wx = wo)
        case first =>
          by_cases k7 : kd = 7
          · subst k7
            by_cases hm0 : 0 < m1
            · have hd8 : decide (0 < m1) = true := decide_eq_true hm0
              have hq : bq = true := by rw [← BQ.out, hd8]; rfl
              clear hm0
              go_wp2
              go_meet
              exact ⟨by rw [hq], rfl⟩
            · have hd8 : decide (0 < m1) = false := decide_eq_false hm0
              have hq : bq = false := by rw [← BQ.out, hd8]; rfl
              clear hm0
              go_wp2
              go_meet
              exact ⟨by rw [hq], rfl⟩
          · have h7 : (kd == 7) = false := by simpa using k7
            have hq : bq = false := by rw [← BQ.out, h7]; rfl
            clear k7
            go_wp2
            go_meet
            exact ⟨by rw [hq], rfl⟩
        case rest =>
        obtain ⟨rfl, hwc⟩ := hcut
        rw [hwc]
        clear hwc wc e3 e0
        go_upto_if 129 with fail
        go_cut [16] (fun t wx => t = .bool nb ∧ wx = wo)
        case first =>
          cases bq with
          | true =>
            have hq : nb = true := by rw [← NB.out]; simp
            go_wp2
            go_meet
            exact ⟨by rw [hq], rfl⟩
          | false =>
            have hq : bv = nb := by rw [← NB.out]; simp
            go_wp2
            go_meet
            exact ⟨by rw [hq], rfl⟩
        case rest =>
        obtain ⟨rfl, hwc⟩ := hcut
        rw [hwc]
        clear hwc wc BQ NB
        cases r with
        | false =>
          go_wp2_with fail
          refine ER.out.mono ?_
          rintro e w12 ⟨rfl, hb⟩
          have B12 := Lib.hid (below_chain B9R.out hb)
          clear hb x0 x1 x2
          go_wp2
          go_roundw
          case rel => exact ⟨j + 1, by omega, by go_num, by rw [BN.out], B12.out⟩
          case measure => simp [intOf]; omega
        | true =>
          have GA := Lib.hid (show gateTo gs1 wk1 cp1 j n1 = true by rw [← L1.out]; exact gate_on RR.out)
          go_wp2_with fail
          refine ER.out.mono ?_
          rintro e w12 ⟨rfl, hb⟩
          have B12 := Lib.hid (below_chain B9R.out hb)
          have X12 := Lib.hid (XR.out.below hb)
          have G12 := Lib.hid (GR.out.below hb)
          clear hb x0 x1 x2 ER
          go_wp2
          go_loopw [18, 19] (fun gt q wr => ∃ i : Nat, i ≤ n1 ∧ q = .int .i64 (i : Int) ∧ gt = .bool (gateTo gs1 wk1 cp1 j i) ∧ Below w12.heap.size w12 wr) (fun _ q _ => n1 - (intOf q).toNat)
          case atStart => exact ⟨0, Nat.zero_le _, rfl, by rw [gateTo_zero], Below.refl _ _⟩
          case round =>
            obtain ⟨i, hi, rfl, rfl, hb⟩ := hrel
            have B13 := Lib.hid hb
            have XI := Lib.hid (X12.out.below hb)
            have GI := Lib.hid (G12.out.below hb)
            clear hb
            obtain ⟨gv, hgv⟩ : ∃ q, gateTo gs1 wk1 cp1 j i = q := ⟨_, rfl⟩
            have GV := Lib.hid hgv
            rw [hgv]
            clear hgv
            have x0 : wr.cell? ⟨g3, 0, none⟩ = some (.slice (some ⟨b, off, none⟩) n1 c1) := by rw [XI.out.cell]; rfl
            have x1 : wr.cell? ⟨g3, 1, none⟩ = some (.int .i64 wk1) := by rw [XI.out.cell]; rfl
            have x2 : wr.cell? ⟨g3, 2, none⟩ = some (.int .i64 cp1) := by rw [XI.out.cell]; rfl
            by_cases hli : i < n1
            · skip
              have li : i < gs1.length := by rw [L1.out]; exact hli
              have q0 : (0 : Int) ≤ (i : Int) := by omega
              have q1 : (i : Int) < (n1 : Int) := by omega
              cases gv with
              | true =>
                have GN := Lib.hid (show gateTo gs1 wk1 cp1 j (i + 1) = true by rw [gateTo_succ, GV.out]; rfl)
                clear li
                go_wp2
                go_roundw
                case rel => exact ⟨i + 1, by omega, by go_num, by rw [GN.out], B13.out⟩
                case measure => simp [intOf]; omega
              | false =>
                obtain ⟨b2, off2, ki, a2, bb2, zs2, A3, m3, c3, hA, hx, _, _, _, s0, _⟩ := GI.out.nds.at li
                simp only [Option.some.injEq, Addr.mk.injEq, and_true] at hA
                obtain ⟨rfl, rfl⟩ := hA
                have GS := Lib.hid (show gateTo gs1 wk1 cp1 j (i + 1) = ((ki == 5 || ki == 6) && ((i == j) || (reachG gs1 wk1 cp1 (j : Int) (i : Int) && reachG gs1 wk1 cp1 (i : Int) (j : Int)))) by rw [gateTo_succ, GV.out, kindAt_of rfl li, hx]; rfl)
                clear hx li
                by_cases k5 : (ki == 5) = false ∧ (ki == 6) = false
                · skip
                  have g5 := k5.1
                  have g6 := k5.2
                  have GN := Lib.hid (show gateTo gs1 wk1 cp1 j (i + 1) = false by rw [GS.out, g5, g6]; rfl)
                  clear k5
                  go_wp2
                  go_roundw
                  case rel => exact ⟨i + 1, by omega, by go_num, by rw [GN.out], B13.out⟩
                  case measure => simp [intOf]; omega
                · skip
                  have k56 : ((ki == 5) = true) ∨ ((ki == 5) = false ∧ (ki == 6) = true) := by revert k5; cases (ki == 5) <;> cases (ki == 6) <;> simp
                  have GT := Lib.hid (show gateTo gs1 wk1 cp1 j (i + 1) = ((i == j) || (reachG gs1 wk1 cp1 (j : Int) (i : Int) && reachG gs1 wk1 cp1 (i : Int) (j : Int))) by rw [GS.out]; rcases k56 with h | ⟨_, h⟩ <;> simp [h])
                  clear k5
                  by_cases hij : i = j
                  · skip
                    subst hij
                    have GN := Lib.hid (show gateTo gs1 wk1 cp1 i (i + 1) = true by rw [GT.out]; simp)
                    have hee : ((i : Int) == (i : Int)) = true := by simp
                    rcases k56 with g5 | ⟨g5, g6⟩
                    all_goals
                      go_wp2
                      go_roundw
                      case rel => exact ⟨i + 1, by omega, by go_num, by rw [GN.out], B13.out⟩
                      case measure => simp [intOf]; omega
                  · skip
                    have hne : ((i : Int) == (j : Int)) = false := by simp; omega
                    have hne2 : (i == j) = false := by simpa using hij
                    obtain ⟨v1, hv1⟩ : ∃ r, reachG gs1 wk1 cp1 (j : Int) (i : Int) = r := ⟨_, rfl⟩
                    obtain ⟨v2, hv2⟩ : ∃ r, reachG gs1 wk1 cp1 (i : Int) (j : Int) = r := ⟨_, rfl⟩
                    have GU := Lib.hid (show gateTo gs1 wk1 cp1 j (i + 1) = (v1 && v2) by rw [GT.out, hne2, hv1, hv2]; rfl)
                    have S1 := Lib.hid (specReach_is hv1 L1.out ou1 lm1 (some ⟨b, off, none⟩) c1 wr GI.out.nds)
                    have S2 := Lib.hid (fun W hW => specReach_is hv2 L1.out ou1 lm1 (some ⟨b, off, none⟩) c1 W hW)
                    clear hij hv1 hv2
                    cases v1 with
                    | false =>
                      have GN := Lib.hid (show gateTo gs1 wk1 cp1 j (i + 1) = false by rw [GU.out]; rfl)
                      rcases k56 with g5 | ⟨g5, g6⟩
                      all_goals
                        go_wp2_with fail
                        refine S1.out.mono ?_
                        rintro e w14 ⟨rfl, hb⟩
                        have B14 := Lib.hid (below_chain B13.out hb)
                        clear hb s0 x0 x1 x2
                        go_wp2
                        go_roundw
                        case rel => exact ⟨i + 1, by omega, by go_num, by rw [GN.out], B14.out⟩
                        case measure => simp [intOf]; omega
                    | true =>
                      have GN := Lib.hid (show gateTo gs1 wk1 cp1 j (i + 1) = v2 by rw [GU.out]; rfl)
                      rcases k56 with g5 | ⟨g5, g6⟩
                      all_goals
                        go_wp2_with fail
                        refine S1.out.mono ?_
                        rintro e w14 ⟨rfl, hb⟩
                        have B14 := Lib.hid (below_chain B13.out hb)
                        have X14 := Lib.hid (XI.out.below hb)
                        have G14 := Lib.hid (GI.out.below hb)
                        clear hb s0 x0 x1 x2
                        have x0 : w14.cell? ⟨g3, 0, none⟩ = some (.slice (some ⟨b, off, none⟩) n1 c1) := by rw [X14.out.cell]; rfl
                        have x1 : w14.cell? ⟨g3, 1, none⟩ = some (.int .i64 wk1) := by rw [X14.out.cell]; rfl
                        have x2 : w14.cell? ⟨g3, 2, none⟩ = some (.int .i64 cp1) := by rw [X14.out.cell]; rfl
                        go_wp2_with fail
                        refine (S2.out _ G14.out.nds).mono ?_
                        rintro e w15 ⟨rfl, hb⟩
                        have B15x := Lib.hid (below_chain B14.out hb)
                        clear hb x0 x1 x2
                        go_wp2
                        go_roundw
                        case rel => exact ⟨i + 1, by omega, by go_num, by rw [GN.out], B15x.out⟩
                        case measure => simp [intOf]; omega
            · skip
              obtain rfl : i = n1 := by omega
              have hgt : gv = true := by rw [← GV.out]; exact GA.out
              subst hgt
              have BB := Lib.hid (below_chain B12.out B13.out)
              go_wp2
              go_roundw
              case rel => exact ⟨j + 1, by omega, by go_num, by rw [BN.out], BB.out⟩
              case measure => simp [intOf]; omega
      · skip
        obtain rfl : j = n1 := by omega
        cases bv with
        | false =>
          have LPF := Lib.hid (show loopG gs1 wk1 cp1 = false by
            cases h : loopG gs1 wk1 cp1 with
            | false => rfl
            | true => have := backs_of h; rw [L1.out, BV.out] at this; cases this)
          have z0 : wo.cell? ⟨g3, 0, none⟩ = some (.slice A1 j c1) := by rw [XR.out.cell]; rfl
          have z1 : wo.cell? ⟨g3, 1, none⟩ = some (.int .i64 wk1) := by rw [XR.out.cell]; rfl
          have z2 : wo.cell? ⟨g3, 2, none⟩ = some (.int .i64 cp1) := by rw [XR.out.cell]; rfl
          obtain ⟨U1, hU1⟩ : ∃ z, wo.alloc (.cells #[.int .i64 1] 3) = z := ⟨_, rfl⟩
          obtain ⟨U2, hU2⟩ : ∃ z, U1.alloc (.cells #[.int .i64 2] 3) = z := ⟨_, rfl⟩
          obtain ⟨U3, hU3⟩ : ∃ z, U2.alloc (.cells #[.int .i64 1] 3) = z := ⟨_, rfl⟩
          obtain ⟨U4, hU4⟩ : ∃ z, U3.alloc (.cells #[.int .i64 1, .int .i64 0, .int .i64 0, .slice (some ⟨wo.heap.size, 0, none⟩) 1 1, .int .i64 5, .int .i64 0, .int .i64 0, .slice (some ⟨U1.heap.size, 0, none⟩) 1 1, .int .i64 7, .int .i64 0, .int .i64 0, .slice (some ⟨U2.heap.size, 0, none⟩) 1 1] 37) = z := ⟨_, rfl⟩
          obtain ⟨U5, hU5⟩ : ∃ z, U4.alloc (.cells #[.slice (some ⟨U3.heap.size, 0, none⟩) 3 3, .int .i64 1, .int .i64 1] 26) = z := ⟨_, rfl⟩
          have bU1 : Below wo.heap.size wo U1 := by rw [← hU1]; exact (Below.refl _ _).alloc (Nat.le_refl _) _
          have bU2 : Below U1.heap.size U1 U2 := by rw [← hU2]; exact (Below.refl _ _).alloc (Nat.le_refl _) _
          have bU3 : Below U2.heap.size U2 U3 := by rw [← hU3]; exact (Below.refl _ _).alloc (Nat.le_refl _) _
          have bU4 : Below U3.heap.size U3 U4 := by rw [← hU4]; exact (Below.refl _ _).alloc (Nat.le_refl _) _
          have bU5 : Below U4.heap.size U4 U5 := by rw [← hU5]; exact (Below.refl _ _).alloc (Nat.le_refl _) _
          have k1 : Blk U1 wo.heap.size 3 #[.int .i64 1] := by rw [← hU1]; exact Blk.new _ _ _
          have k2 : Blk U2 U1.heap.size 3 #[.int .i64 2] := by rw [← hU2]; exact Blk.new _ _ _
          have k3 : Blk U3 U2.heap.size 3 #[.int .i64 1] := by rw [← hU3]; exact Blk.new _ _ _
          have k4 : Blk U4 U3.heap.size 37 #[.int .i64 1, .int .i64 0, .int .i64 0, .slice (some ⟨wo.heap.size, 0, none⟩) 1 1, .int .i64 5, .int .i64 0, .int .i64 0, .slice (some ⟨U1.heap.size, 0, none⟩) 1 1, .int .i64 7, .int .i64 0, .int .i64 0, .slice (some ⟨U2.heap.size, 0, none⟩) 1 1] := by rw [← hU4]; exact Blk.new _ _ _
          have k5 : Blk U5 U4.heap.size 26 #[.slice (some ⟨U3.heap.size, 0, none⟩) 3 3, .int .i64 1, .int .i64 1] := by rw [← hU5]; exact Blk.new _ _ _
          have L0 := Lib.hid (gs0_nds (((k1.below bU2).below bU3).below bU4 |>.below bU5) ((k2.below bU3).below bU4 |>.below bU5) (k3.below bU4 |>.below bU5) (k4.below bU5))
          have B5 := Lib.hid (below_chain BR.out (below_chain (below_chain (below_chain (below_chain bU1 bU2) bU3) bU4) bU5))
          have X5 := Lib.hid ((((XR.out.below bU1).below bU2).below bU3).below bU4 |>.below bU5)
          have G5 := Lib.hid (((((GR.out.below bU1).below bU2).below bU3).below bU4).below bU5)
          have K5 := Lib.hid k5
          have hso : ∀ x ∈ gs0, x.2.2.2.length ≤ 1048576 := by intro x hx; simp [gs0] at hx; rcases hx with rfl | rfl | rfl <;> simp
          clear k1 k2 k3 k4 k5 bU1 bU2 bU3 bU4 bU5
          have x0 : U5.cell? ⟨g3, 0, none⟩ = some (.slice A1 j c1) := by rw [X5.out.cell]; rfl
          have x1 : U5.cell? ⟨g3, 1, none⟩ = some (.int .i64 wk1) := by rw [X5.out.cell]; rfl
          have x2 : U5.cell? ⟨g3, 2, none⟩ = some (.int .i64 cp1) := by rw [X5.out.cell]; rfl
          go_wp2_with fail
          clear z0 z1 z2 x0 x1 x2 hU1 hU2 hU3 hU4 hU5
          refine (implLoop_is LPF.out L1.out ou1 lm1 A1 c1 _ G5.out.nds).mono ?_
          rintro e w20 ⟨rfl, hb⟩
          have B6 := Lib.hid (below_chain B5.out hb)
          have L6 := Lib.hid (L0.out.below hb)
          have K6 := Lib.hid (K5.out.below hb)
          clear hb
          have y0 : w20.cell? ⟨U4.heap.size, 0, none⟩ = some (.slice (some ⟨U3.heap.size, 0, none⟩) 3 3) := by rw [K6.out.cell]; rfl
          have y1 : w20.cell? ⟨U4.heap.size, 1, none⟩ = some (.int .i64 1) := by rw [K6.out.cell]; rfl
          have y2 : w20.cell? ⟨U4.heap.size, 2, none⟩ = some (.int .i64 1) := by rw [K6.out.cell]; rfl
          go_wp2_with fail
          clear y0 y1 y2
          refine (implLoop_is gs0_loop (n := 3) rfl hso (by omega) _ 3 _ L6.out).mono ?_
          rintro e w21 ⟨rfl, hb⟩
          have B7 := Lib.hid (below_chain B6.out hb)
          have L7 := Lib.hid (L6.out.below hb)
          have K7 := Lib.hid (K6.out.below hb)
          clear hb
          have y0 : w21.cell? ⟨U4.heap.size, 0, none⟩ = some (.slice (some ⟨U3.heap.size, 0, none⟩) 3 3) := by rw [K7.out.cell]; rfl
          have y1 : w21.cell? ⟨U4.heap.size, 1, none⟩ = some (.int .i64 1) := by rw [K7.out.cell]; rfl
          have y2 : w21.cell? ⟨U4.heap.size, 2, none⟩ = some (.int .i64 1) := by rw [K7.out.cell]; rfl
          go_wp2_with fail
          clear y0 y1 y2
          refine (implReach_is gs0_no (n := 3) rfl hso (by omega) _ 3 _ L7.out).mono ?_
          rintro e w22 ⟨rfl, hb⟩
          have B8 := Lib.hid (below_chain B7.out hb)
          clear hb
          go_wp2
          go_ret
          exact ⟨rfl, B8.out⟩
        | true =>
          have z0 : wo.cell? ⟨g3, 0, none⟩ = some (.slice A1 j c1) := by rw [XR.out.cell]; rfl
          have z1 : wo.cell? ⟨g3, 1, none⟩ = some (.int .i64 wk1) := by rw [XR.out.cell]; rfl
          have z2 : wo.cell? ⟨g3, 2, none⟩ = some (.int .i64 cp1) := by rw [XR.out.cell]; rfl
          obtain ⟨U1, hU1⟩ : ∃ z, wo.alloc (.cells #[.int .i64 1] 3) = z := ⟨_, rfl⟩
          obtain ⟨U2, hU2⟩ : ∃ z, U1.alloc (.cells #[.int .i64 2] 3) = z := ⟨_, rfl⟩
          obtain ⟨U3, hU3⟩ : ∃ z, U2.alloc (.cells #[.int .i64 1] 3) = z := ⟨_, rfl⟩
          obtain ⟨U4, hU4⟩ : ∃ z, U3.alloc (.cells #[.int .i64 1, .int .i64 0, .int .i64 0, .slice (some ⟨wo.heap.size, 0, none⟩) 1 1, .int .i64 5, .int .i64 0, .int .i64 0, .slice (some ⟨U1.heap.size, 0, none⟩) 1 1, .int .i64 7, .int .i64 0, .int .i64 0, .slice (some ⟨U2.heap.size, 0, none⟩) 1 1] 37) = z := ⟨_, rfl⟩
          obtain ⟨U5, hU5⟩ : ∃ z, U4.alloc (.cells #[.slice (some ⟨U3.heap.size, 0, none⟩) 3 3, .int .i64 1, .int .i64 1] 26) = z := ⟨_, rfl⟩
          have bU1 : Below wo.heap.size wo U1 := by rw [← hU1]; exact (Below.refl _ _).alloc (Nat.le_refl _) _
          have bU2 : Below U1.heap.size U1 U2 := by rw [← hU2]; exact (Below.refl _ _).alloc (Nat.le_refl _) _
          have bU3 : Below U2.heap.size U2 U3 := by rw [← hU3]; exact (Below.refl _ _).alloc (Nat.le_refl _) _
          have bU4 : Below U3.heap.size U3 U4 := by rw [← hU4]; exact (Below.refl _ _).alloc (Nat.le_refl _) _
          have bU5 : Below U4.heap.size U4 U5 := by rw [← hU5]; exact (Below.refl _ _).alloc (Nat.le_refl _) _
          have k1 : Blk U1 wo.heap.size 3 #[.int .i64 1] := by rw [← hU1]; exact Blk.new _ _ _
          have k2 : Blk U2 U1.heap.size 3 #[.int .i64 2] := by rw [← hU2]; exact Blk.new _ _ _
          have k3 : Blk U3 U2.heap.size 3 #[.int .i64 1] := by rw [← hU3]; exact Blk.new _ _ _
          have k4 : Blk U4 U3.heap.size 37 #[.int .i64 1, .int .i64 0, .int .i64 0, .slice (some ⟨wo.heap.size, 0, none⟩) 1 1, .int .i64 5, .int .i64 0, .int .i64 0, .slice (some ⟨U1.heap.size, 0, none⟩) 1 1, .int .i64 7, .int .i64 0, .int .i64 0, .slice (some ⟨U2.heap.size, 0, none⟩) 1 1] := by rw [← hU4]; exact Blk.new _ _ _
          have k5 : Blk U5 U4.heap.size 26 #[.slice (some ⟨U3.heap.size, 0, none⟩) 3 3, .int .i64 1, .int .i64 1] := by rw [← hU5]; exact Blk.new _ _ _
          have L0 := Lib.hid (gs0_nds (((k1.below bU2).below bU3).below bU4 |>.below bU5) ((k2.below bU3).below bU4 |>.below bU5) (k3.below bU4 |>.below bU5) (k4.below bU5))
          have B5 := Lib.hid (below_chain BR.out (below_chain (below_chain (below_chain (below_chain bU1 bU2) bU3) bU4) bU5))
          have X5 := Lib.hid ((((XR.out.below bU1).below bU2).below bU3).below bU4 |>.below bU5)
          have G5 := Lib.hid (((((GR.out.below bU1).below bU2).below bU3).below bU4).below bU5)
          have K5 := Lib.hid k5
          have hso : ∀ x ∈ gs0, x.2.2.2.length ≤ 1048576 := by intro x hx; simp [gs0] at hx; rcases hx with rfl | rfl | rfl <;> simp
          clear k1 k2 k3 k4 k5 bU1 bU2 bU3 bU4 bU5
          have B6 := B5
          have L6 := L0
          have K6 := K5
          have y0 : U5.cell? ⟨U4.heap.size, 0, none⟩ = some (.slice (some ⟨U3.heap.size, 0, none⟩) 3 3) := by rw [K6.out.cell]; rfl
          have y1 : U5.cell? ⟨U4.heap.size, 1, none⟩ = some (.int .i64 1) := by rw [K6.out.cell]; rfl
          have y2 : U5.cell? ⟨U4.heap.size, 2, none⟩ = some (.int .i64 1) := by rw [K6.out.cell]; rfl
          go_wp2_with fail
          clear z0 z1 z2 hU1 hU2 hU3 hU4 hU5
          clear y0 y1 y2
          refine (implLoop_is gs0_loop (n := 3) rfl hso (by omega) _ 3 _ L6.out).mono ?_
          rintro e w21 ⟨rfl, hb⟩
          have B7 := Lib.hid (below_chain B6.out hb)
          have L7 := Lib.hid (L6.out.below hb)
          have K7 := Lib.hid (K6.out.below hb)
          clear hb
          have y0 : w21.cell? ⟨U4.heap.size, 0, none⟩ = some (.slice (some ⟨U3.heap.size, 0, none⟩) 3 3) := by rw [K7.out.cell]; rfl
          have y1 : w21.cell? ⟨U4.heap.size, 1, none⟩ = some (.int .i64 1) := by rw [K7.out.cell]; rfl
          have y2 : w21.cell? ⟨U4.heap.size, 2, none⟩ = some (.int .i64 1) := by rw [K7.out.cell]; rfl
          go_wp2_with fail
          clear y0 y1 y2
          refine (implReach_is gs0_no (n := 3) rfl hso (by omega) _ 3 _ L7.out).mono ?_
          rintro e w22 ⟨rfl, hb⟩
          have B8 := Lib.hid (below_chain B7.out hb)
          clear hb
          go_wp2
          go_ret
          exact ⟨rfl, B8.out⟩
end Go.Proofs.Ytjplkoglibagkaa.fnGraphs

