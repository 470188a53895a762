/-
  What FnFixed does behind its draws.
  A statement of laws.FnFixed: its operations, and a theorem a step.
-/
import Derived.Test.YtbbagpnjjjohpaaK8
import Derived.Test.YtbbagpnjjjohpaaK30
import Derived.Test.YtbbagpnjjjohpaaK17
import Derived.Test.YtbbagpnjjjohpaaK32
import Derived.Test.YtbbagpnjjjohpaaK33
import Derived.Test.YtbbagpnjjjohpaaK16
import Derived.Test.YtbbagpnjjjohpaaK4
import Derived.Deep.RegionHeld3
import Derived.Deep.DeepCutAuto
import Derived.WalkArith
import Derived.Test.YtbbagpnjjjohpaaK10

namespace Go.Proofs.Ytbbagpnjjjohpaa.fnFixed
open Go.RowKit Go.Proofs.Ytbbagpnjjjohpaa.hexes

def restOf (n : Nat) : Code → Option Code
  | .seq (.region id _ _) b => if id = n then some b else restOf n b
  | .seq a b => match restOf n a with
    | some c => some c
    | none => restOf n b
  | .block _ c => restOf n c
  | .scope c => restOf n c
  | .loop c => restOf n c
  | .cond _ a b => match restOf n a with
    | some c => some c
    | none => restOf n b
  | _ => none
noncomputable def rest14 : Code := (Try.f3.body.bind (restOf 14)).getD .skip

set_option maxRecDepth 1000000 in
set_option maxHeartbeats 16000000 in
theorem rest {K : Act → World → Prop} {Q' : Exit → Act → World → Prop} (w V : World) (a0 : Option Addr) (len0 cap0 : Nat) (g3 : Nat) (A : Option Addr) (n c : Nat) (wk cp : Int) (gs : List Nd) (ep : Int) (A5 : Option Addr) (m5 c5 : Nat) (rs : List Rc) (A6 : Option Addr) (mq c6 : Nat) (q : List Ce) (s1 s2 s7 s8 s9 s10 s11 s12 s13 s14 s15 s16 s17 s18 s19 s20 s21 s22 s23 s24 s25 s26 s27 s28 s29 s30 s31 s32 s33 s34 s35 s36 s37 s38 s39 s40 s41 s42 s43 s44 s45 s46 s47 s48 s49 s50 s51 s52 s53 s54 s55 s56 s57 s58 s59 s60 s61 s62 s63 s64 s65 s66 s67 s68 s69 s70 s71 s72 s73 s74 s75 s76 s77 s78 s79 s80 s81 s82 s83 s84 s85 s86 s87 s88 s89 s90 s91 s92 s93 s94 s95 s96 s97 s98 s99 s100 s101 s102 s103 s104 s105 s106 s107 s108 s109 s110 s111 s112 s113 s114 s115 s116 s117 s118 s119 s120 s121 s122 s123 s124 s125 s126 s127 s128 s129 s130 s131 s132 s133 s134 s135 s136 s137 s138 s139 s140 s141 s142 s143 s144 s145 s146 s147 s148 s149 s150 s151 s152 s153 s154 s155 s156 s157 s158 s159 s160 s161 s162 s163 s164 s165 s166 s167 s168 s169 s170 s171 s172 s173 s174 s175 s176 s177 s178 s179 s180 s181 s182 s183 s184 s185 s186 s187 s188 s189 s190 s191 s192 s193 s194 s195 : Value)
    (hn : n ≤ 1048576) (hl : gs.length = n) (ho : ∀ x ∈ gs, x.2.2.2.length ≤ 1048576) (hm5 : m5 ≤ 7) (hl5 : rs.length = m5) (hq : FixTo gs wk cp [] (startL ep rs) q) (hmq : q.length = mq) (hql : mq ≤ 800000) (hD : Nds V A gs) (hg : Blk V g3 26 #[.slice A n c, .int .i64 wk, .int .i64 cp]) (hP : Rcs V A5 rs) (hX : Ces V A6 q) (hB : Below w.heap.size w V)
    (hQ : Q' = bodyPost Try.prog Try.f3 fun e w' => e = .returned (.bool true) ∧ Below w.heap.size w w')
    (hK : ∀ (a : Act) (w : World), Code.wp Try.prog rest14 Q' a w → K a w) :
    Code.wp Try.prog (.region 14 #[{ dst := some 120, op := Op.buildSlice 44 1 #[(0, Operand.const (Value.int IntKind.i64 1))], type := 44, pos := "laws.go:484", after := #[], guard := none }, { dst := some 121, op := Op.build 46 #[(0, Operand.const (Value.int IntKind.i64 1)), (3, Operand.tmp 120)], type := 46, pos := "laws.go:484", after := #[{ on := 0, ground := Ground.data }], guard := none }, { dst := some 122, op := Op.build 46 #[(0, Operand.const (Value.int IntKind.i64 8))], type := 46, pos := "laws.go:484", after := #[], guard := none }, { dst := some 123, op := Op.buildSlice 24 2 #[(0, Operand.tmp 121), (1, Operand.tmp 122)], type := 24, pos := "laws.go:484", after := #[{ on := 1, ground := Ground.data }, { on := 2, ground := Ground.data }], guard := none }, { dst := some 124, op := Op.build 26 #[(0, Operand.tmp 123), (1, Operand.const (Value.int IntKind.i64 1)), (2, Operand.const (Value.int IntKind.i64 1))], type := 26, pos := "laws.go:484", after := #[{ on := 3, ground := Ground.data }], guard := none }, { dst := some 18, op := Op.alloc 26, type := 0, pos := "laws.go:484", after := #[], guard := none }, { dst := none, op := Op.store 26 (Operand.tmp 18) (Operand.tmp 124), type := 0, pos := "laws.go:484", after := #[{ on := 5, ground := Ground.data }, { on := 4, ground := Ground.data }, { on := 0, ground := Ground.phase }, { on := 1, ground := Ground.phase }, { on := 2, ground := Ground.phase }, { on := 3, ground := Ground.phase }, { on := 4, ground := Ground.phase }, { on := 5, ground := Ground.phase }], guard := none }] false) (Exit.then K Q') ⟨#[.slice a0 len0 cap0, s1, s2, .pointer (some ⟨g3, 0, none⟩), .int .i64 ep, .slice A5 m5 c5, .slice A6 mq c6, s7, s8, s9, s10, s11, s12, s13, s14, s15, s16, s17, s18, s19, s20, s21, s22, s23, s24, s25, s26, s27, s28, s29, s30, s31, s32, s33, s34, s35, s36, s37, s38, s39, s40, s41, s42, s43, s44, s45, s46, s47, s48, s49, s50, s51, s52, s53, s54, s55, s56, s57, s58, s59, s60, s61, s62, s63, s64, s65, s66, s67, s68, s69, s70, s71, s72, s73, s74, s75, s76, s77, s78, s79, s80, s81, s82, s83, s84, s85, s86, s87, s88, s89, s90, s91, s92, s93, s94, s95, s96, s97, s98, s99, s100, s101, s102, s103, s104, s105, s106, s107, s108, s109, s110, s111, s112, s113, s114, s115, s116, s117, s118, s119, s120, s121, s122, s123, s124, s125, s126, s127, s128, s129, s130, s131, s132, s133, s134, s135, s136, s137, s138, s139, s140, s141, s142, s143, s144, s145, s146, s147, s148, s149, s150, s151, s152, s153, s154, s155, s156, s157, s158, s159, s160, s161, s162, s163, s164, s165, s166, s167, s168, s169, s170, s171, s172, s173, s174, s175, s176, s177, s178, s179, s180, s181, s182, s183, s184, s185, s186, s187, s188, s189, s190, s191, s192, s193, s194, s195], []⟩ V := by
  have L := Lib.hid hl
  have OU := Lib.hid ho
  have L5 := Lib.hid hl5
  have FX := Lib.hid hq
  have MQ := Lib.hid hmq
  have D_1 := Lib.hid hD
  have P_1 := Lib.hid hP
  have X_1 := Lib.hid hX
  have g3_1 := Lib.hid hg
  have B1 := Lib.hid hB
  subst hQ
  conv at hK => enter [a, w, 1, 2]; whnf
  clear hl ho hl5 hq hmq hD hP hX hg hB
  obtain ⟨U1, hU1⟩ : ∃ z, V.alloc (.cells #[.int .i64 1] 3) = z := ⟨_, rfl⟩
  obtain ⟨U2, hU2⟩ : ∃ z, U1.alloc (.cells #[.int .i64 1, .int .i64 0, .int .i64 0, .slice (some ⟨V.heap.size, 0, none⟩) 1 1, .int .i64 8, .int .i64 0, .int .i64 0, .slice none 0 0] 46) = z := ⟨_, rfl⟩
  obtain ⟨U3, hU3⟩ : ∃ z, U2.alloc (.cells #[.slice (some ⟨U1.heap.size, 0, none⟩) 2 2, .int .i64 1, .int .i64 1] 26) = z := ⟨_, rfl⟩
  have bU1 : Below V.heap.size V U1 := by rw [← hU1]; exact (Below.refl _ _).alloc (Nat.le_refl _) _
  have bU2 : Below U1.heap.size U1 U2 := by rw [← hU2]; exact (Below.refl _ _).alloc (Nat.le_refl _) _
  have bU3 : Below U2.heap.size U2 U3 := by rw [← hU3]; exact (Below.refl _ _).alloc (Nat.le_refl _) _
  have k1 : Blk U1 V.heap.size 3 #[.int .i64 1] := by rw [← hU1]; exact Blk.new _ _ _
  have k2 : Blk U2 U1.heap.size 46 #[.int .i64 1, .int .i64 0, .int .i64 0, .slice (some ⟨V.heap.size, 0, none⟩) 1 1, .int .i64 8, .int .i64 0, .int .i64 0, .slice none 0 0] := by rw [← hU2]; exact Blk.new _ _ _
  have k3 : Blk U3 U2.heap.size 26 #[.slice (some ⟨U1.heap.size, 0, none⟩) 2 2, .int .i64 1, .int .i64 1] := by rw [← hU3]; exact Blk.new _ _ _
  have T0 := Lib.hid (two2_nds ((k1.below bU2).below bU3) (k2.below bU3))
  have K3 := Lib.hid k3
  have hb : Below V.heap.size V U3 := below_chain (below_chain bU1 bU2) bU3
  clear k1 k2 k3 bU1 bU2 bU3
  have sz2 := hb.size
  have B2 := Lib.hid (below_chain B1.out hb)
  have D_2 := Lib.hid (D_1.out.below hb)
  have P_2 := Lib.hid (P_1.out.below hb)
  have X_2 := Lib.hid (X_1.out.below hb)
  have g3_2 := Lib.hid (g3_1.out.below hb)
  clear hb B1 D_1 P_1 X_1 g3_1
  have T_2 := T0
  have g18_2 := K3
  clear T0 K3
  obtain ⟨gk, hgk⟩ : ∃ q, okGr gs dec1 wk cp = q := ⟨_, rfl⟩
  have HGK := Lib.hid hgk
  clear hgk
  have xg30 : U3.cell? ⟨g3, 0, none⟩ = some (.slice A n c) := by rw [g3_2.out.cell]; rfl
  have xg31 : U3.cell? ⟨g3, 1, none⟩ = some (.int .i64 wk) := by rw [g3_2.out.cell]; rfl
  have xg32 : U3.cell? ⟨g3, 2, none⟩ = some (.int .i64 cp) := by rw [g3_2.out.cell]; rfl
  go_wp2_with fail
  clear hU1 hU2 hU3 xg30 xg31 xg32
  refine (specGrOk_any gs wk cp A n c L.out OU.out hn HGK.out _ D_2.out).mono ?_
  rintro e w1 ⟨rfl, hb⟩
  have sz3 := hb.size
  have B3 := Lib.hid (below_chain B2.out hb)
  have D_3 := Lib.hid (D_2.out.below hb)
  have P_3 := Lib.hid (P_2.out.below hb)
  have X_3 := Lib.hid (X_2.out.below hb)
  have T_3 := Lib.hid (T_2.out.below hb)
  have g3_3 := Lib.hid (g3_2.out.below hb)
  have g18_3 := Lib.hid (g18_2.out.below hb)
  clear hb B2 D_2 P_2 X_2 T_2 g3_2 g18_2
  cases gk with
  | false =>
    obtain rfl : q = [] := fix_none HGK.out FX.out
    obtain rfl : mq = 0 := by rw [← MQ.out]; rfl
    clear FX MQ P_3 X_3 D_3 g3_3
    have xg180 : w1.cell? ⟨U2.heap.size, 0, none⟩ = some (.slice (some ⟨U1.heap.size, 0, none⟩) 2 2) := by rw [g18_3.out.cell]; rfl
    have xg181 : w1.cell? ⟨U2.heap.size, 1, none⟩ = some (.int .i64 1) := by rw [g18_3.out.cell]; rfl
    have xg182 : w1.cell? ⟨U2.heap.size, 2, none⟩ = some (.int .i64 1) := by rw [g18_3.out.cell]; rfl
    obtain ⟨U4, hU4⟩ : ∃ z, w1.alloc (.cells #[.int .i64 0, .int .i64 0, .int .i64 0, .int .i64 5, .int .i64 0] 51) = z := ⟨_, rfl⟩
    have hb : Below w1.heap.size w1 U4 := by rw [← hU4]; exact (Below.refl _ _).alloc (Nat.le_refl _) _
    have NR := Lib.hid (show Rcs U4 (some ⟨w1.heap.size, 0, none⟩) [(0, (0, 0), 5, 0)] by rw [← hU4]; exact rc_new _ _ _ _ _ _)
    have sz4 := hb.size
    have B4 := Lib.hid (below_chain B3.out hb)
    have T_4 := Lib.hid (T_3.out.below hb)
    have g18_4 := Lib.hid (g18_3.out.below hb)
    clear hb B3 T_3 g18_3
    go_wp2_with fail
    clear xg180 xg181 xg182 hU4
    refine (implRes_any [(1, 0, 0, [1]), (8, 0, 0, [])] 1 1 (some ⟨U1.heap.size, 0, none⟩) 2 2 rfl (by decide) (by omega) 0 [(0, (0, 0), 5, 0)] (some ⟨w1.heap.size, 0, none⟩) 1 1 rfl (by omega) two_fix (by decide) _ T_4.out NR.out).mono ?_
    rintro e w9 hE
    obtain ⟨A9, c9, rfl, r9, hb⟩ := hE.rows two_outs (m := 1) rfl
    clear hE r9 NR
    have sz5 := hb.size
    have B5 := Lib.hid (below_chain B4.out hb)
    have T_5 := Lib.hid (T_4.out.below hb)
    have g18_5 := Lib.hid (g18_4.out.below hb)
    clear hb B4 T_4 g18_4
    go_wp2
    go_ret
    exact ⟨rfl, B5.out⟩
  | true =>
    obtain ⟨hcl, hnw⟩ := fix_good HGK.out FX.out (start_ok HGK.out)
    have CL := Lib.hid hcl
    have NW := Lib.hid hnw
    clear hcl hnw FX
    obtain ⟨V9, hW⟩ : ∃ z, (w1.alloc (.cells #[] 38)) = z := ⟨_, rfl⟩
    have hb : Below w1.heap.size w1 V9 := by rw [← hW]; exact ((Below.refl _ _).alloc (by first | (simp; done) | (simp; omega) | omega) _)
    have az : V9.heap.size = w1.heap.size + 1 := by rw [← hW]; simp
    have NE := Lib.hid (show Blk V9 (w1.heap.size) 38 #[] by rw [← hW]; exact (Blk.new _ _ _))
    have AZV9 := Lib.hid az
    clear az
    have sz4 := hb.size
    have B4 := Lib.hid (below_chain B3.out hb)
    have D_4 := Lib.hid (D_3.out.below hb)
    have P_4 := Lib.hid (P_3.out.below hb)
    have X_4 := Lib.hid (X_3.out.below hb)
    have T_4 := Lib.hid (T_3.out.below hb)
    have g3_4 := Lib.hid (g3_3.out.below hb)
    have g18_4 := Lib.hid (g18_3.out.below hb)
    clear hb B3 D_3 P_3 X_3 T_3 g3_3 g18_3
    have E_4 := NE
    clear NE
    have ltE : w1.heap.size < V9.heap.size := E_4.out.lt
    have L0 := Lib.hid (show InSt V9 V9 (some ⟨w1.heap.size, 0, none⟩) 0 0 [] from ⟨Wce.empty _ _ _ _, Below.refl _ _⟩)
    clear E_4
    go_wp2_with fail
    clear hW
    go_loopw [19, 20] (fun v i wr => ∃ (j : Nat) (AL : Option Addr) (m cL : Nat) (out : List Ce), j ≤ m5 ∧ i = .int .i64 (j : Int) ∧ v = .slice AL m cL ∧ m ≤ j ∧ startL ep (rs.take j) = out ∧ InSt V9 wr AL m cL out) (fun _ i _ => m5 - (intOf i).toNat)
    case atStart => exact ⟨0, _, 0, 0, [], Nat.zero_le _, rfl, rfl, Nat.le_refl _, rfl, L0.out⟩
    case round =>
      clear L0
      obtain ⟨j, AL, m, cL, out, hj, rfl, rfl, hmj, hout, hS⟩ := hrel
      have SR := Lib.hid hS
      have HU := Lib.hid hout
      clear hS hout
      by_cases hlt : j < m5
      · skip
        have lj : j < rs.length := by rw [L5.out]; exact hlt
        obtain ⟨b2, o2, p0, p1, p2, p3, p4, rfl, hz, f0, f1, f2, f3, f4⟩ := P_4.out.at lj
        have i0 : (0 : Int) ≤ (j : Int) := by omega
        have i1 : (j : Int) < (m5 : Int) := by omega
        obtain ⟨rk, hrk⟩ : ∃ b, okRc (p0, (p1, p2), p3, p4) = b := ⟨_, rfl⟩
        have ST := Lib.hid (show startL ep (rs.take (j + 1)) = out ++ (if (decide (p1 = ep) && rk) = true then [(0, ep, p3, p4)] else []) by rw [start_step lj, HU.out, hz]; unfold startB; rw [hrk])
        have HRK := Lib.hid hrk
        have FV := Lib.hid (show FxRec V9 b2 (o2 + j * 5) p3 p4 V9 from ⟨f3, f4, Below.refl _ _⟩)
        have x0 := below_keep SR.out.bel f0
        have x1 := below_keep SR.out.bel f1
        have x2 := below_keep SR.out.bel f2
        have x3 := below_keep SR.out.bel f3
        have x4 := below_keep SR.out.bel f4
        clear hz hrk lj f0 f1 f2 f3 f4 HU CL NW X_4 D_4 T_4 P_4 g3_4 g18_4 MQ HGK OU L
        by_cases he : p1 = ep
        · skip
          have de : (p1 == ep) = true := by simpa using he
          have ST1 := Lib.hid (show startL ep (rs.take (j + 1)) = out ++ (if rk = true then [(0, ep, p3, p4)] else []) by rw [ST.out]; simp [he])
          have HE := Lib.hid he
          clear ST he
          go_wp2_with fail
          clear x0 x1 x2 x3 x4 de
          refine (specRcOkX_is HRK.out _).mono ?_
          rintro e w7 ⟨rfl, hb⟩
          have S7 := Lib.hid (SR.out.fresh hb)
          clear hb SR
          cases rk with
          | false =>
            have ST2 := Lib.hid (show startL ep (rs.take (j + 1)) = out by rw [ST1.out]; simp)
            clear ST1 HRK FV HE
            go_wp2
            go_roundw
            case rel => exact ⟨j + 1, AL, m, cL, out, by omega, by go_num, rfl, by omega, ST2.out, S7.out⟩
            case measure => simp [intOf]; omega
          | true =>
            have ST2 := Lib.hid (show startL ep (rs.take (j + 1)) = out ++ [(0, ep, p3, p4)] by rw [ST1.out]; simp)
            have h0 : 0 ≤ ep := by have h := okRc_ep HRK.out; rwa [HE.out] at h
            have d0 : decide (0 ≤ ep) = true := decide_eq_true h0
            have d1 : decide (ep ≥ 0) = true := d0
            clear h0 ST1 HRK HE
            go_wp2_with fail
            obtain ⟨V8, hV⟩ : ∃ v, w7.drew = v := ⟨_, rfl⟩
            have S8 := Lib.hid (show InSt V9 V8 AL m cL out by rw [← hV]; exact S7.out.fresh ((Below.refl _ _).drew))
            have HV := Lib.hid (show FxRec V9 b2 (o2 + j * 5) p3 p4 V8 from FV.out.of S8.out.bel)
            clear S7
            refine wp_region_held_drew (S := FxRec V9 b2 (o2 + j * 5) p3 p4) (by kernel_rfl) ?_ (fun hHeld => ?_)
            · skip
              rw [hV]; exact HV.out
            change wpAnyH _ _ opsF22X _ _ 16 (LF22X 0) _ _
            rw [hV] at hHeld ⊢
            clear hV HV
            refine regY tF22X_0 (.slice AL m cL) (fun W hSw => by unfold qF22X_0; go_simp) hHeld ?_
            try simp only [pt, List.set]
            refine regY tF22X_1 (.int .i64 ep) (fun W hSw => by unfold qF22X_1; go_simp) hHeld ?_
            try simp only [pt, List.set]
            refine regY tF22X_2 (.slice (some ⟨b2, o2, none⟩) m5 c5) (fun W hSw => by unfold qF22X_2; go_simp) hHeld ?_
            try simp only [pt, List.set]
            refine regY tF22X_3 (.int .i64 (j : Int)) (fun W hSw => by unfold qF22X_3; go_simp) hHeld ?_
            try simp only [pt, List.set]
            refine regY tF22X_4 (.pointer (some ⟨b2, o2 + j * 5, none⟩)) (fun W hSw => by unfold qF22X_4; go_simp) hHeld ?_
            try simp only [pt, List.set]
            refine regY tF22X_5 (.pointer (some ⟨b2, o2 + j * 5 + 3, none⟩)) (fun W hSw => by unfold qF22X_5; go_simp) hHeld ?_
            try simp only [pt, List.set]
            refine regY tF22X_6 (.int .i64 p3) (fun W hSw => by unfold qF22X_6; obtain ⟨c3, c4, _⟩ := hSw; go_simp) hHeld ?_
            try simp only [pt, List.set]
            refine regY tF22X_7 (.slice (some ⟨b2, o2, none⟩) m5 c5) (fun W hSw => by unfold qF22X_7; go_simp) hHeld ?_
            try simp only [pt, List.set]
            refine regY tF22X_8 (.int .i64 (j : Int)) (fun W hSw => by unfold qF22X_8; go_simp) hHeld ?_
            try simp only [pt, List.set]
            refine regY tF22X_9 (.pointer (some ⟨b2, o2 + j * 5, none⟩)) (fun W hSw => by unfold qF22X_9; go_simp) hHeld ?_
            try simp only [pt, List.set]
            refine regY tF22X_10 (.pointer (some ⟨b2, o2 + j * 5 + 4, none⟩)) (fun W hSw => by unfold qF22X_10; go_simp) hHeld ?_
            try simp only [pt, List.set]
            refine regY tF22X_11 (.int .i64 p4) (fun W hSw => by unfold qF22X_11; obtain ⟨c3, c4, _⟩ := hSw; go_simp) hHeld ?_
            try simp only [pt, List.set]
            refine regY tF22X_12 (.agg #[.int .i64 0, .int .i64 ep, .int .i64 p3, .int .i64 p4]) (fun W hSw => by unfold qF22X_12; go_simp) hHeld ?_
            try simp only [pt, List.set]
            refine cF22X_13 (fun K hK => ?_)
            rw [if_pos (by rfl)]
            unfold qF22X_13
            go_simp
            obtain ⟨g, hg⟩ : ∃ g, g = V8.heap.size := ⟨_, rfl⟩
            rw [← hg]
            generalize hU : World.alloc _ _ = U
            have bU : Below V8.heap.size V8 U := by rw [← hU]; exact (Below.refl _ _).alloc (Nat.le_refl _) _
            have NU := Lib.hid (show Ces U (some ⟨g, 0, none⟩) [(0, ep, p3, p4)] by rw [← hU, hg]; exact ce_new _ _ _ _ _)
            have SU := Lib.hid (S8.out.fresh bU)
            have HU := hHeld.below bU
            clear hU hg bU
            refine Shut.out hK _ _ ?_ (fun hHeld => ?_)
            · exact HU
            clear hK K
            try simp only [pt, List.set]
            refine cF22X_14 (fun K hK => ?_)
            refine step_append_wce rfl (.tmp 165) (.tmp 178) (by rfl) (by rfl) SU.out.l (some ⟨g, 0, none⟩) 1 1 [(0, ep, p3, p4)] (by rfl) (fun h => by cases h) rfl NU.out (by omega) SU.out.bel.size ?_
            intro AN cN w9 own gr ha
            have S9 := Lib.hid (show InSt V9 w9 AN (m + 1) cN (out ++ [(0, ep, p3, p4)]) from ⟨own, gr.bel SU.out.bel (Nat.le_refl _)⟩)
            have H9 := FV.out.of S9.out.bel
            clear own gr ha
            refine Shut.out hK _ _ ?_ (fun hHeld => ?_)
            · exact H9
            rw [show qF22X_14.dst = some 179 from rfl]
            clear hK K
            try simp only [pt, List.set]
            refine regY tF22X_15 (.slice AN (m + 1) cN) (fun W hSw => by unfold qF22X_15; go_simp) hHeld ?_
            try simp only [pt, List.set]
            refine wpAnyH_done (by kernel_rfl) ?_ _
            clear hHeld SU NU S8 FV
            go_wp2
            go_roundw
            case rel => exact ⟨j + 1, AN, m + 1, cN, _, by omega, by go_num, rfl, by omega, ST2.out, S9.out⟩
            case measure => simp [intOf]; omega
        · skip
          have de : (p1 == ep) = false := by simpa using he
          have ST2 := Lib.hid (show startL ep (rs.take (j + 1)) = out by rw [ST.out]; simp [he])
          clear ST he HRK FV
          go_wp2
          go_roundw
          case rel => exact ⟨j + 1, AL, m, cL, out, by omega, by go_num, rfl, by omega, ST2.out, SR.out⟩
          case measure => simp [intOf]; omega
      · skip
        obtain rfl : j = m5 := by omega
        have HE := Lib.hid (show startL ep rs = out by rw [← HU.out, List.take_of_length_le (Nat.le_of_eq L5.out)])
        have NW2 := Lib.hid (show nwC q out = true by rw [← HE.out]; exact NW.out)
        have dl : decide (j < j) = false := by simp
        have lo := SR.out.l.1
        have hb := SR.out.bel
        clear hlt HE NW HU
        have sz5 := hb.size
        have B5 := Lib.hid (below_chain B4.out hb)
        have D_5 := Lib.hid (D_4.out.below hb)
        have P_5 := Lib.hid (P_4.out.below hb)
        have X_5 := Lib.hid (X_4.out.below hb)
        have T_5 := Lib.hid (T_4.out.below hb)
        have g3_5 := Lib.hid (g3_4.out.below hb)
        have g18_5 := Lib.hid (g18_4.out.below hb)
        clear hb B4 D_4 P_4 X_4 T_4 g3_4 g18_4
        have S_5 := Lib.hid SR.out.l.ce
        have LO := Lib.hid lo
        clear SR lo
        have xg30 : wr.cell? ⟨g3, 0, none⟩ = some (.slice A n c) := by rw [g3_5.out.cell]; rfl
        have xg31 : wr.cell? ⟨g3, 1, none⟩ = some (.int .i64 wk) := by rw [g3_5.out.cell]; rfl
        have xg32 : wr.cell? ⟨g3, 2, none⟩ = some (.int .i64 cp) := by rw [g3_5.out.cell]; rfl
        go_wp2_with fail
        clear xg30 xg31 xg32
        refine (implClosed_is CL.out L.out OU.out hn MQ.out (by omega) _ D_5.out X_5.out).mono ?_
        rintro e w5 ⟨rfl, hb⟩
        have sz6 := hb.size
        have B6 := Lib.hid (below_chain B5.out hb)
        have D_6 := Lib.hid (D_5.out.below hb)
        have P_6 := Lib.hid (P_5.out.below hb)
        have X_6 := Lib.hid (X_5.out.below hb)
        have T_6 := Lib.hid (T_5.out.below hb)
        have S_6 := Lib.hid (S_5.out.below hb)
        have g3_6 := Lib.hid (g3_5.out.below hb)
        have g18_6 := Lib.hid (g18_5.out.below hb)
        clear hb B5 D_5 P_5 X_5 T_5 S_5 g3_5 g18_5
        go_wp2_with fail
        refine (implNw_is NW2.out MQ.out (by omega) LO.out (by omega) _ X_6.out S_6.out).mono ?_
        rintro e w6 ⟨rfl, hb⟩
        have sz7 := hb.size
        have B7 := Lib.hid (below_chain B6.out hb)
        have D_7 := Lib.hid (D_6.out.below hb)
        have P_7 := Lib.hid (P_6.out.below hb)
        have X_7 := Lib.hid (X_6.out.below hb)
        have T_7 := Lib.hid (T_6.out.below hb)
        have S_7 := Lib.hid (S_6.out.below hb)
        have g3_7 := Lib.hid (g3_6.out.below hb)
        have g18_7 := Lib.hid (g18_6.out.below hb)
        clear hb B6 D_6 P_6 X_6 T_6 S_6 g3_6 g18_6
        clear P_7 X_7 D_7 g3_7 S_7
        have xg180 : w6.cell? ⟨U2.heap.size, 0, none⟩ = some (.slice (some ⟨U1.heap.size, 0, none⟩) 2 2) := by rw [g18_7.out.cell]; rfl
        have xg181 : w6.cell? ⟨U2.heap.size, 1, none⟩ = some (.int .i64 1) := by rw [g18_7.out.cell]; rfl
        have xg182 : w6.cell? ⟨U2.heap.size, 2, none⟩ = some (.int .i64 1) := by rw [g18_7.out.cell]; rfl
        obtain ⟨U4, hU4⟩ : ∃ z, w6.alloc (.cells #[.int .i64 0, .int .i64 0, .int .i64 0, .int .i64 5, .int .i64 0] 51) = z := ⟨_, rfl⟩
        have hb : Below w6.heap.size w6 U4 := by rw [← hU4]; exact (Below.refl _ _).alloc (Nat.le_refl _) _
        have NR := Lib.hid (show Rcs U4 (some ⟨w6.heap.size, 0, none⟩) [(0, (0, 0), 5, 0)] by rw [← hU4]; exact rc_new _ _ _ _ _ _)
        have sz8 := hb.size
        have B8 := Lib.hid (below_chain B7.out hb)
        have T_8 := Lib.hid (T_7.out.below hb)
        have g18_8 := Lib.hid (g18_7.out.below hb)
        clear hb B7 T_7 g18_7
        go_wp2_with fail
        clear xg180 xg181 xg182 hU4
        refine (implRes_any [(1, 0, 0, [1]), (8, 0, 0, [])] 1 1 (some ⟨U1.heap.size, 0, none⟩) 2 2 rfl (by decide) (by omega) 0 [(0, (0, 0), 5, 0)] (some ⟨w6.heap.size, 0, none⟩) 1 1 rfl (by omega) two_fix (by decide) _ T_8.out NR.out).mono ?_
        rintro e w9 hE
        obtain ⟨A9, c9, rfl, r9, hb⟩ := hE.rows two_outs (m := 1) rfl
        clear hE r9 NR
        have sz9 := hb.size
        have B9 := Lib.hid (below_chain B8.out hb)
        have T_9 := Lib.hid (T_8.out.below hb)
        have g18_9 := Lib.hid (g18_8.out.below hb)
        clear hb B8 T_8 g18_8
        go_wp2
        go_ret
        exact ⟨rfl, B9.out⟩
end Go.Proofs.Ytbbagpnjjjohpaa.fnFixed

namespace Go.Proofs.Ytbbagpnjjjohpaa.hexes
open Go.RowKit

def findF5X (n : Nat) : Code → Option Code
  | .region id ops d => if id = n then some (.region id ops d) else none
  | .seq a b => match findF5X n a with
    | some c => some c
    | none => findF5X n b
  | .block _ c => findF5X n c
  | .scope c => findF5X n c
  | .loop c => findF5X n c
  | .cond _ a b => match findF5X n a with
    | some c => some c
    | none => findF5X n b
  | _ => none
def opsOfF5X : Option Code → Array Oper
  | some (.region _ ops _) => ops
  | _ => #[]
noncomputable def opsF5X : Array Oper := opsOfF5X (Try.f3.body.bind (findF5X 5))
def schF5X : List Nat := [0, 1, 2, 3, 4, 5, 6, 7, 8, 9, 10, 12, 13, 14, 11, 15, 16, 17, 18]
def LF5X (k : Nat) : Array Bool := ((List.range 19).map fun i => (schF5X.take k).contains i).toArray
theorem noselF5X : Region.noSelect opsF5X = true := by kernel_rfl
def qF5X_0 : Oper := { dst := some 33, op := Op.move (Operand.tmp 6), type := 30, pos := "laws.go:473", after := #[], guard := none }
theorem hF5X_0 : opsF5X[0]? = some qF5X_0 := by kernel_rfl
theorem lF5X_0 : (LF5X 0).setIfInBounds 0 true = LF5X 1 := by kernel_rfl
theorem tF5X_0 : RegT Try.prog opsF5X qF5X_0 (some 33) 18 (LF5X 0) (LF5X 1) := regT hF5X_0 rfl noselF5X (by kernel_rfl) (by kernel_rfl) lF5X_0
def qF5X_1 : Oper := { dst := some 34, op := Op.load 26 (Operand.tmp 3), type := 26, pos := "laws.go:473", after := #[], guard := none }
theorem hF5X_1 : opsF5X[1]? = some qF5X_1 := by kernel_rfl
theorem lF5X_1 : (LF5X 1).setIfInBounds 1 true = LF5X 2 := by kernel_rfl
theorem tF5X_1 : RegT Try.prog opsF5X qF5X_1 (some 34) 17 (LF5X 1) (LF5X 2) := regT hF5X_1 rfl noselF5X (by kernel_rfl) (by kernel_rfl) lF5X_1
def qF5X_2 : Oper := { dst := some 35, op := Op.move (Operand.tmp 4), type := 3, pos := "laws.go:473", after := #[], guard := none }
theorem hF5X_2 : opsF5X[2]? = some qF5X_2 := by kernel_rfl
theorem lF5X_2 : (LF5X 2).setIfInBounds 2 true = LF5X 3 := by kernel_rfl
theorem tF5X_2 : RegT Try.prog opsF5X qF5X_2 (some 35) 16 (LF5X 2) (LF5X 3) := regT hF5X_2 rfl noselF5X (by kernel_rfl) (by kernel_rfl) lF5X_2
def qF5X_3 : Oper := { dst := some 36, op := Op.move (Operand.tmp 5), type := 27, pos := "laws.go:473", after := #[], guard := none }
theorem hF5X_3 : opsF5X[3]? = some qF5X_3 := by kernel_rfl
theorem lF5X_3 : (LF5X 3).setIfInBounds 3 true = LF5X 4 := by kernel_rfl
theorem tF5X_3 : RegT Try.prog opsF5X qF5X_3 (some 36) 15 (LF5X 3) (LF5X 4) := regT hF5X_3 rfl noselF5X (by kernel_rfl) (by kernel_rfl) lF5X_3
def qF5X_4 : Oper := { dst := some 37, op := Op.call { callee := Callee.value (Operand.func 15), args := #[Operand.tmp 34, Operand.tmp 35, Operand.tmp 36], argTypes := #[26, 3, 27] }, type := 30, pos := "laws.go:473", after := #[{ on := 1, ground := Ground.data }, { on := 2, ground := Ground.data }, { on := 3, ground := Ground.data }], guard := none }
theorem hF5X_4 : opsF5X[4]? = some qF5X_4 := by kernel_rfl
theorem lF5X_4 : (LF5X 4).setIfInBounds 4 true = LF5X 5 := by kernel_rfl
theorem cF5X_4 : RegC Try.prog opsF5X qF5X_4 (some 37) 14 (LF5X 4) (LF5X 5) := regC hF5X_4 rfl (by kernel_rfl) lF5X_4
def qF5X_5 : Oper := { dst := some 38, op := Op.call { callee := Callee.value (Operand.func 14), args := #[Operand.tmp 33, Operand.tmp 37], argTypes := #[30, 30] }, type := 4, pos := "laws.go:473", after := #[{ on := 0, ground := Ground.data }, { on := 4, ground := Ground.data }, { on := 4, ground := Ground.chain }], guard := none }
theorem hF5X_5 : opsF5X[5]? = some qF5X_5 := by kernel_rfl
theorem lF5X_5 : (LF5X 5).setIfInBounds 5 true = LF5X 6 := by kernel_rfl
theorem cF5X_5 : RegC Try.prog opsF5X qF5X_5 (some 38) 13 (LF5X 5) (LF5X 6) := regC hF5X_5 rfl (by kernel_rfl) lF5X_5
def qF5X_6 : Oper := { dst := some 39, op := Op.unOp UnOp.not 4 (Operand.tmp 38), type := 4, pos := "laws.go:473", after := #[{ on := 5, ground := Ground.data }], guard := none }
theorem hF5X_6 : opsF5X[6]? = some qF5X_6 := by kernel_rfl
theorem lF5X_6 : (LF5X 6).setIfInBounds 6 true = LF5X 7 := by kernel_rfl
theorem tF5X_6 : RegT Try.prog opsF5X qF5X_6 (some 39) 12 (LF5X 6) (LF5X 7) := regT hF5X_6 rfl noselF5X (by kernel_rfl) (by kernel_rfl) lF5X_6
def qF5X_7 : Oper := { dst := some 40, op := Op.move (Operand.tmp 39), type := 4, pos := "laws.go:473", after := #[{ on := 6, ground := Ground.data }, { on := 5, ground := Ground.chain }], guard := none }
theorem hF5X_7 : opsF5X[7]? = some qF5X_7 := by kernel_rfl
theorem lF5X_7 : (LF5X 7).setIfInBounds 7 true = LF5X 8 := by kernel_rfl
theorem tF5X_7 : RegT Try.prog opsF5X qF5X_7 (some 40) 11 (LF5X 7) (LF5X 8) := regT hF5X_7 rfl noselF5X (by kernel_rfl) (by kernel_rfl) lF5X_7
def qF5X_8 : Oper := { dst := some 41, op := Op.load 26 (Operand.tmp 3), type := 26, pos := "laws.go:473", after := #[{ on := 7, ground := Ground.guard }], guard := some (7, false) }
theorem hF5X_8 : opsF5X[8]? = some qF5X_8 := by kernel_rfl
theorem lF5X_8 : (LF5X 8).setIfInBounds 8 true = LF5X 9 := by kernel_rfl
theorem tF5X_8 : RegT Try.prog opsF5X qF5X_8 (some 41) 10 (LF5X 8) (LF5X 9) := regT hF5X_8 rfl noselF5X (by kernel_rfl) (by kernel_rfl) lF5X_8
def qF5X_9 : Oper := { dst := some 42, op := Op.move (Operand.tmp 4), type := 3, pos := "laws.go:473", after := #[{ on := 7, ground := Ground.guard }], guard := some (7, false) }
theorem hF5X_9 : opsF5X[9]? = some qF5X_9 := by kernel_rfl
theorem lF5X_9 : (LF5X 9).setIfInBounds 9 true = LF5X 10 := by kernel_rfl
theorem tF5X_9 : RegT Try.prog opsF5X qF5X_9 (some 42) 9 (LF5X 9) (LF5X 10) := regT hF5X_9 rfl noselF5X (by kernel_rfl) (by kernel_rfl) lF5X_9
def qF5X_10 : Oper := { dst := some 43, op := Op.move (Operand.tmp 5), type := 27, pos := "laws.go:473", after := #[{ on := 7, ground := Ground.guard }], guard := some (7, false) }
theorem hF5X_10 : opsF5X[10]? = some qF5X_10 := by kernel_rfl
theorem lF5X_10 : (LF5X 10).setIfInBounds 10 true = LF5X 11 := by kernel_rfl
theorem tF5X_10 : RegT Try.prog opsF5X qF5X_10 (some 43) 8 (LF5X 10) (LF5X 11) := regT hF5X_10 rfl noselF5X (by kernel_rfl) (by kernel_rfl) lF5X_10
def qF5X_12 : Oper := { dst := some 45, op := Op.load 26 (Operand.tmp 3), type := 26, pos := "laws.go:473", after := #[{ on := 7, ground := Ground.guard }], guard := some (7, false) }
theorem hF5X_12 : opsF5X[12]? = some qF5X_12 := by kernel_rfl
theorem lF5X_11 : (LF5X 11).setIfInBounds 12 true = LF5X 12 := by kernel_rfl
theorem tF5X_11 : RegT Try.prog opsF5X qF5X_12 (some 45) 7 (LF5X 11) (LF5X 12) := regT hF5X_12 rfl noselF5X (by kernel_rfl) (by kernel_rfl) lF5X_11
def qF5X_13 : Oper := { dst := some 46, op := Op.move (Operand.tmp 4), type := 3, pos := "laws.go:473", after := #[{ on := 7, ground := Ground.guard }], guard := some (7, false) }
theorem hF5X_13 : opsF5X[13]? = some qF5X_13 := by kernel_rfl
theorem lF5X_12 : (LF5X 12).setIfInBounds 13 true = LF5X 13 := by kernel_rfl
theorem tF5X_12 : RegT Try.prog opsF5X qF5X_13 (some 46) 6 (LF5X 12) (LF5X 13) := regT hF5X_13 rfl noselF5X (by kernel_rfl) (by kernel_rfl) lF5X_12
def qF5X_14 : Oper := { dst := some 47, op := Op.move (Operand.tmp 5), type := 27, pos := "laws.go:473", after := #[{ on := 7, ground := Ground.guard }], guard := some (7, false) }
theorem hF5X_14 : opsF5X[14]? = some qF5X_14 := by kernel_rfl
theorem lF5X_13 : (LF5X 13).setIfInBounds 14 true = LF5X 14 := by kernel_rfl
theorem tF5X_13 : RegT Try.prog opsF5X qF5X_14 (some 47) 5 (LF5X 13) (LF5X 14) := regT hF5X_14 rfl noselF5X (by kernel_rfl) (by kernel_rfl) lF5X_13
def qF5X_11 : Oper := { dst := some 44, op := Op.call { callee := Callee.value (Operand.func 16), args := #[Operand.tmp 41, Operand.tmp 42, Operand.tmp 43], argTypes := #[26, 3, 27] }, type := 30, pos := "laws.go:473", after := #[{ on := 8, ground := Ground.data }, { on := 9, ground := Ground.data }, { on := 10, ground := Ground.data }, { on := 7, ground := Ground.chain }, { on := 7, ground := Ground.guard }], guard := some (7, false) }
theorem hF5X_11 : opsF5X[11]? = some qF5X_11 := by kernel_rfl
theorem lF5X_14 : (LF5X 14).setIfInBounds 11 true = LF5X 15 := by kernel_rfl
theorem cF5X_14 : RegC Try.prog opsF5X qF5X_11 (some 44) 4 (LF5X 14) (LF5X 15) := regC hF5X_11 rfl (by kernel_rfl) lF5X_14
def qF5X_15 : Oper := { dst := some 48, op := Op.call { callee := Callee.value (Operand.func 17), args := #[Operand.tmp 45, Operand.tmp 46, Operand.tmp 47], argTypes := #[26, 3, 27] }, type := 30, pos := "laws.go:473", after := #[{ on := 12, ground := Ground.data }, { on := 13, ground := Ground.data }, { on := 14, ground := Ground.data }, { on := 11, ground := Ground.chain }, { on := 7, ground := Ground.guard }], guard := some (7, false) }
theorem hF5X_15 : opsF5X[15]? = some qF5X_15 := by kernel_rfl
theorem lF5X_15 : (LF5X 15).setIfInBounds 15 true = LF5X 16 := by kernel_rfl
theorem cF5X_15 : RegC Try.prog opsF5X qF5X_15 (some 48) 3 (LF5X 15) (LF5X 16) := regC hF5X_15 rfl (by kernel_rfl) lF5X_15
def qF5X_16 : Oper := { dst := some 49, op := Op.call { callee := Callee.value (Operand.func 14), args := #[Operand.tmp 44, Operand.tmp 48], argTypes := #[30, 30] }, type := 4, pos := "laws.go:473", after := #[{ on := 11, ground := Ground.data }, { on := 15, ground := Ground.data }, { on := 15, ground := Ground.chain }, { on := 7, ground := Ground.guard }], guard := some (7, false) }
theorem hF5X_16 : opsF5X[16]? = some qF5X_16 := by kernel_rfl
theorem lF5X_16 : (LF5X 16).setIfInBounds 16 true = LF5X 17 := by kernel_rfl
theorem cF5X_16 : RegC Try.prog opsF5X qF5X_16 (some 49) 2 (LF5X 16) (LF5X 17) := regC hF5X_16 rfl (by kernel_rfl) lF5X_16
def qF5X_17 : Oper := { dst := some 50, op := Op.unOp UnOp.not 4 (Operand.tmp 49), type := 4, pos := "laws.go:473", after := #[{ on := 16, ground := Ground.data }, { on := 7, ground := Ground.guard }], guard := some (7, false) }
theorem hF5X_17 : opsF5X[17]? = some qF5X_17 := by kernel_rfl
theorem lF5X_17 : (LF5X 17).setIfInBounds 17 true = LF5X 18 := by kernel_rfl
theorem tF5X_17 : RegT Try.prog opsF5X qF5X_17 (some 50) 1 (LF5X 17) (LF5X 18) := regT hF5X_17 rfl noselF5X (by kernel_rfl) (by kernel_rfl) lF5X_17
def qF5X_18 : Oper := { dst := some 51, op := Op.pick (Operand.tmp 40) (Operand.const (Value.bool true)) (Operand.tmp 50), type := 4, pos := "laws.go:473", after := #[{ on := 7, ground := Ground.data }, { on := 17, ground := Ground.data }], guard := none }
theorem hF5X_18 : opsF5X[18]? = some qF5X_18 := by kernel_rfl
theorem lF5X_18 : (LF5X 18).setIfInBounds 18 true = LF5X 19 := by kernel_rfl
theorem tF5X_18 : RegT Try.prog opsF5X qF5X_18 (some 51) 0 (LF5X 18) (LF5X 19) := regT hF5X_18 rfl noselF5X (by kernel_rfl) (by kernel_rfl) lF5X_18
end Go.Proofs.Ytbbagpnjjjohpaa.hexes

