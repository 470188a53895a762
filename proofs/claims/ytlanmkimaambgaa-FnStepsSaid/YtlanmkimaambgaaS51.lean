/-
  What FnSteps does behind its first draw.
-/
import Derived.Test.YtlanmkimaambgaaS26
import Derived.Test.YtlanmkimaambgaaS30
import Derived.Test.YtlanmkimaambgaaS31
import Derived.Test.YtlanmkimaambgaaS33
import Derived.Test.YtlanmkimaambgaaS35
import Derived.Test.YtlanmkimaambgaaS48
import Derived.Test.YtlanmkimaambgaaS50
import Derived.Test.YtlanmkimaambgaaS47
import Derived.Test.YtlanmkimaambgaaS4
import Derived.Deep.RegionHeld3
import Derived.Deep.DeepCutAuto
import Derived.WalkArith

namespace Go.Proofs.Ytlanmkimaambgaa.fnSteps
open Go.RowKit Go.Proofs.Ytlanmkimaambgaa.hexes

/-- The graph's variable and the record's. -/
structure StepsH (V : World) (gb : Nat) (A : Option Addr) (n c : Nat) (wk cp : Int) (rb : Nat) (r0 r1 r2 r3 r4 : Int) (w : World) : Prop where
  g0 : w.cell? ⟨gb, 0, none⟩ = some (.slice A n c)
  g1 : w.cell? ⟨gb, 1, none⟩ = some (.int .i64 wk)
  g2 : w.cell? ⟨gb, 2, none⟩ = some (.int .i64 cp)
  r0 : w.cell? ⟨rb, 0, none⟩ = some (.int .i64 r0)
  r1 : w.cell? ⟨rb, 1, none⟩ = some (.int .i64 r1)
  r2 : w.cell? ⟨rb, 2, none⟩ = some (.int .i64 r2)
  r3 : w.cell? ⟨rb, 3, none⟩ = some (.int .i64 r3)
  r4 : w.cell? ⟨rb, 4, none⟩ = some (.int .i64 r4)
  bel : Below V.heap.size V w
theorem StepsH.below {V : World} {gb : Nat} {A : Option Addr} {n c : Nat} {wk cp : Int} {rb : Nat} {r0 r1 r2 r3 r4 : Int} {w w' : World} (h : StepsH V gb A n c wk cp rb r0 r1 r2 r3 r4 w) (hb : Below w.heap.size w w') : StepsH V gb A n c wk cp rb r0 r1 r2 r3 r4 w' :=
  ⟨below_keep hb h.g0, below_keep hb h.g1, below_keep hb h.g2, below_keep hb h.r0, below_keep hb h.r1, below_keep hb h.r2, below_keep hb h.r3, below_keep hb h.r4, below_chain h.bel hb⟩
/-- The record's variable and one record of the answer. -/
structure StepsO (V : World) (rb : Nat) (r1 r2 : Int) (b o : Nat) (p0 p1 p2 p3 p4 : Int) (w : World) : Prop where
  r1 : w.cell? ⟨rb, 1, none⟩ = some (.int .i64 r1)
  r2 : w.cell? ⟨rb, 2, none⟩ = some (.int .i64 r2)
  p0 : w.cell? ⟨b, o, none⟩ = some (.int .i64 p0)
  p1 : w.cell? ⟨b, o + 1, none⟩ = some (.int .i64 p1)
  p2 : w.cell? ⟨b, o + 2, none⟩ = some (.int .i64 p2)
  p3 : w.cell? ⟨b, o + 3, none⟩ = some (.int .i64 p3)
  p4 : w.cell? ⟨b, o + 4, none⟩ = some (.int .i64 p4)
  bel : Below V.heap.size V w
theorem StepsO.below {V : World} {rb : Nat} {r1 r2 : Int} {b o : Nat} {p0 p1 p2 p3 p4 : Int} {w w' : World} (h : StepsO V rb r1 r2 b o p0 p1 p2 p3 p4 w) (hb : Below w.heap.size w w') : StepsO V rb r1 r2 b o p0 p1 p2 p3 p4 w' :=
  ⟨below_keep hb h.r1, below_keep hb h.r2, below_keep hb h.p0, below_keep hb h.p1, below_keep hb h.p2, below_keep hb h.p3, below_keep hb h.p4, below_chain h.bel hb⟩
theorem capI_is {gs : List Nd} {wk cp : Int} {A : Option Addr} {n c : Nat} {r0 r1 r2 r3 r4 : Int} {q : Bool} (hq : capG gs wk cp (r0, (r1, r2), r3, r4) = q) (hl : gs.length = n) (ho : ∀ x ∈ gs, x.2.2.2.length ≤ 1048576) (hn : n ≤ 1048576) (w : World) (h : Nds w A gs) :
    Calls Try.prog 12 #[.agg #[.slice A n c, .int .i64 wk, .int .i64 cp], .agg #[.int .i64 r0, .int .i64 r1, .int .i64 r2, .int .i64 r3, .int .i64 r4]] w fun e w' => e = .returned (.bool q) ∧ Below w.heap.size w w' := by
  subst hq; exact implCap_any gs wk cp A n c hl ho hn r0 r1 r2 r3 r4 w h
theorem capS_is {gs : List Nd} {wk cp : Int} {A : Option Addr} {n c : Nat} {r0 r1 r2 r3 r4 : Int} {q : Bool} (hq : capG gs wk cp (r0, (r1, r2), r3, r4) = q) (hl : gs.length = n) (ho : ∀ x ∈ gs, x.2.2.2.length ≤ 1048576) (hn : n ≤ 1048576) (w : World) (h : Nds w A gs) :
    Calls Try.prog 13 #[.agg #[.slice A n c, .int .i64 wk, .int .i64 cp], .agg #[.int .i64 r0, .int .i64 r1, .int .i64 r2, .int .i64 r3, .int .i64 r4]] w fun e w' => e = .returned (.bool q) ∧ Below w.heap.size w w' := by
  subst hq; exact specCap_any gs wk cp A n c hl ho hn r0 r1 r2 r3 r4 w h
theorem sameCe_is {w : World} {A A' : Option Addr} {n c c' : Nat} {zs : List Ce} (hz : zs.length = n) (hn : n ≤ 4194304) (h : Ces w A zs) (h' : Ces w A' zs) : Calls Try.prog 10 #[.slice A n c, .slice A' n c'] w fun e w' => e = .returned (.bool true) ∧ Below w.heap.size w w' := by
  have := ceSame_any n n zs zs hz hz A A' c c' w h h' hn
  rwa [decide_eq_true (rfl : zs = zs)] at this
/-- The law's own graph as it lies in memory. -/
theorem two_nds {w : World} {g1 g : Nat} (k1 : Blk w g1 3 #[.int .i64 1]) (k : Blk w g 42 #[.int .i64 1, .int .i64 0, .int .i64 0, .slice (some ⟨g1, 0, none⟩) 1 1, .int .i64 8, .int .i64 0, .int .i64 0, .slice none 0 0]) : Nds w (some ⟨g, 0, none⟩) [(1, 0, 0, [1]), (8, 0, 0, [])] := by
  refine fun _ => ⟨g, 0, rfl, k.lt, fun j hj => ?_⟩
  have hj3 : j = 0 ∨ j = 1 := by simp at hj; omega
  rcases hj3 with rfl | rfl
  · exact ⟨(1, 0, 0, some ⟨g1, 0, none⟩, 1, 1), ⟨rfl, rfl, rfl, rfl, Nat.le_refl _, fun _ => ⟨g1, 0, rfl, k1.lt, fun j hj => by
      obtain rfl : j = 0 := by simpa using hj
      rw [k1.cell]; rfl⟩, fun h => by cases h⟩, by rw [k.cell]; rfl, by rw [k.cell]; rfl, by rw [k.cell]; rfl, by rw [k.cell]; rfl⟩
  · exact ⟨(8, 0, 0, none, 0, 0), ⟨rfl, rfl, rfl, rfl, Nat.le_refl _, fun h => absurd h (by simp), fun _ => rfl⟩, by rw [k.cell]; rfl, by rw [k.cell]; rfl, by rw [k.cell]; rfl, by rw [k.cell]; rfl⟩

def restOf (n : Nat) : Code → Option Code
  | .seq (.region id _ _) b => if id = n then some b else restOf n b
  | .seq a b => match restOf n a with
    | some c => some c
    | none => restOf n b
  | .block _ c => restOf n c
  | .scope c => restOf n c
  | .loop c => restOf n c
  | .cond _ a b => match restOf n a with
    | some c => some c
    | none => restOf n b
  | _ => none
noncomputable def rest16 : Code := (Try.f3.body.bind (restOf 16)).getD .skip

set_option maxRecDepth 1000000 in
set_option maxHeartbeats 16000000 in
theorem rest {K : Act → World → Prop} {Q' : Exit → Act → World → Prop} (w V : World) (a0 : Option Addr) (len0 cap0 : Nat) (g3 r5 : Nat) (A : Option Addr) (n c : Nat) (wk cp : Int) (gs : List Nd) (r0 r1 r2 r3 r4 : Int) (A21 : Option Addr) (m4 c21 : Nat) (kq : Bool) (s1 s2 s4 s6 s8 s9 s10 s11 s12 s13 s14 s15 s16 s17 s18 s19 s20 s21 s22 s23 s24 s25 s26 s27 s28 s29 s30 s31 s32 s33 s34 s35 s36 s37 s38 s39 s40 s41 s42 s43 s44 s45 s46 s47 s48 s49 s50 s51 s52 s53 s54 s55 s56 s57 s58 s59 s60 s61 s62 s63 s64 s65 s66 s67 s68 s69 s70 s71 s72 s73 s74 s75 s76 s77 s78 s79 s80 s81 s82 s83 s84 s85 s86 s87 s88 s89 s90 s91 s92 s93 s94 s95 s96 s97 s98 s99 s100 s101 s102 s103 s104 s105 s106 s107 s108 s109 s110 s111 s112 s113 s114 s115 s116 s117 s118 s119 s120 s121 s122 s123 s124 s125 s126 s127 s128 s129 s130 s131 s132 s133 s134 s135 s136 s137 s138 s139 s140 s141 s142 s143 s144 s145 s146 s147 s148 s149 s150 s151 s152 s153 s154 s155 s156 s157 s158 s159 s160 s161 s162 s163 s164 s165 s166 s167 s168 s169 s170 s171 s172 s173 s174 s175 s176 s177 s178 s179 s180 s181 s182 s183 s184 s185 : Value)
    (hlen : len0 ≤ 2097152) (hcame : Came w a0 len0) (hn : n ≤ 1048576) (hl : gs.length = n) (ho : ∀ x ∈ gs, x.2.2.2.length ≤ 1048576) (hkq : capG gs wk cp (r0, (r1, r2), r3, r4) = kq) (hk0 : kq = true → m4 = 0) (hD : Nds V A gs) (hg : Blk V g3 26 #[.slice A n c, .int .i64 wk, .int .i64 cp]) (hr : Blk V r5 31 #[.int .i64 r0, .int .i64 r1, .int .i64 r2, .int .i64 r3, .int .i64 r4]) (hB : Below w.heap.size w V)
    (hQ : Q' = bodyPost Try.prog Try.f3 fun e w' => e = .returned (.bool true) ∧ Below w.heap.size w w')
    (hK : ∀ (a : Act) (w : World), Code.wp Try.prog rest16 Q' a w → K a w) :
    Code.wp Try.prog (.region 16 #[{ dst := some 114, op := Op.move (Operand.tmp 0), type := 22, pos := "laws.go:458", after := #[], guard := none }, { dst := some 115, op := Op.call { callee := Callee.value (Operand.func 15), args := #[Operand.tmp 114], argTypes := #[22] }, type := 44, pos := "laws.go:458", after := #[{ on := 0, ground := Ground.data }], guard := none }, { dst := some 113, op := Op.move (Operand.tmp 115), type := 44, pos := "laws.go:458", after := #[{ on := 1, ground := Ground.data }], guard := none }, { dst := some 116, op := Op.extract (Operand.tmp 113) 0, type := 26, pos := "laws.go:458", after := #[{ on := 2, ground := Ground.data }], guard := none }, { dst := some 117, op := Op.extract (Operand.tmp 113) 1, type := 27, pos := "laws.go:458", after := #[{ on := 2, ground := Ground.data }, { on := 8, ground := Ground.gcOnly Departure.lateStores }], guard := none }, { dst := some 118, op := Op.extract (Operand.tmp 113) 2, type := 34, pos := "laws.go:458", after := #[{ on := 2, ground := Ground.data }, { on := 9, ground := Ground.gcOnly Departure.lateStores }], guard := none }, { dst := some 119, op := Op.extract (Operand.tmp 113) 3, type := 3, pos := "laws.go:458", after := #[{ on := 2, ground := Ground.data }, { on := 10, ground := Ground.gcOnly Departure.lateStores }], guard := none }, { dst := some 14, op := Op.alloc 26, type := 0, pos := "laws.go:458", after := #[], guard := none }, { dst := none, op := Op.store 26 (Operand.tmp 14) (Operand.tmp 116), type := 0, pos := "laws.go:458", after := #[{ on := 7, ground := Ground.data }, { on := 3, ground := Ground.data }, { on := 1, ground := Ground.chain }, { on := 0, ground := Ground.phase }, { on := 1, ground := Ground.phase }, { on := 2, ground := Ground.phase }, { on := 3, ground := Ground.phase }, { on := 4, ground := Ground.textOnly Departure.lateStores }, { on := 5, ground := Ground.textOnly Departure.lateStores }, { on := 6, ground := Ground.textOnly Departure.lateStores }, { on := 7, ground := Ground.phase }], guard := none }, { dst := some 15, op := Op.assign (Operand.tmp 117), type := 27, pos := "laws.go:458", after := #[{ on := 4, ground := Ground.data }, { on := 8, ground := Ground.chain }, { on := 0, ground := Ground.phase }, { on := 1, ground := Ground.phase }, { on := 2, ground := Ground.phase }, { on := 3, ground := Ground.phase }, { on := 4, ground := Ground.phase }, { on := 5, ground := Ground.textOnly Departure.lateStores }, { on := 6, ground := Ground.textOnly Departure.lateStores }, { on := 7, ground := Ground.phase }, { on := 8, ground := Ground.phase }], guard := none }, { dst := some 16, op := Op.assign (Operand.tmp 118), type := 34, pos := "laws.go:458", after := #[{ on := 5, ground := Ground.data }, { on := 9, ground := Ground.chain }, { on := 0, ground := Ground.phase }, { on := 1, ground := Ground.phase }, { on := 2, ground := Ground.phase }, { on := 3, ground := Ground.phase }, { on := 4, ground := Ground.phase }, { on := 5, ground := Ground.phase }, { on := 6, ground := Ground.textOnly Departure.lateStores }, { on := 7, ground := Ground.phase }, { on := 8, ground := Ground.phase }, { on := 9, ground := Ground.phase }], guard := none }, { dst := some 17, op := Op.assign (Operand.tmp 119), type := 3, pos := "laws.go:458", after := #[{ on := 6, ground := Ground.data }, { on := 10, ground := Ground.chain }, { on := 0, ground := Ground.phase }, { on := 1, ground := Ground.phase }, { on := 2, ground := Ground.phase }, { on := 3, ground := Ground.phase }, { on := 4, ground := Ground.phase }, { on := 5, ground := Ground.phase }, { on := 6, ground := Ground.phase }, { on := 7, ground := Ground.phase }, { on := 8, ground := Ground.phase }, { on := 9, ground := Ground.phase }, { on := 10, ground := Ground.phase }], guard := none }] false) (Exit.then K Q') ⟨#[.slice a0 len0 cap0, s1, s2, .pointer (some ⟨g3, 0, none⟩), s4, .pointer (some ⟨r5, 0, none⟩), s6, .slice A21 m4 c21, s8, s9, s10, s11, s12, s13, s14, s15, s16, s17, s18, s19, s20, s21, s22, s23, s24, s25, s26, s27, s28, s29, s30, s31, s32, s33, s34, s35, s36, s37, s38, s39, s40, s41, s42, s43, s44, s45, s46, s47, s48, s49, s50, s51, s52, s53, s54, s55, s56, s57, s58, s59, s60, s61, s62, s63, s64, s65, s66, s67, s68, s69, s70, s71, s72, s73, s74, s75, s76, s77, s78, s79, s80, s81, s82, s83, s84, s85, s86, s87, s88, s89, s90, s91, s92, s93, s94, s95, s96, s97, s98, s99, s100, s101, s102, s103, s104, s105, s106, s107, s108, s109, s110, s111, s112, s113, s114, s115, s116, s117, s118, s119, s120, s121, s122, s123, s124, s125, s126, s127, s128, s129, s130, s131, s132, s133, s134, s135, s136, s137, s138, s139, s140, s141, s142, s143, s144, s145, s146, s147, s148, s149, s150, s151, s152, s153, s154, s155, s156, s157, s158, s159, s160, s161, s162, s163, s164, s165, s166, s167, s168, s169, s170, s171, s172, s173, s174, s175, s176, s177, s178, s179, s180, s181, s182, s183, s184, s185], []⟩ V := by
  have HC := Lib.hid hcame
  have L := Lib.hid hl
  have OU := Lib.hid ho
  have KQ := Lib.hid hkq
  have K0 := Lib.hid hk0
  have D_0 := Lib.hid hD
  have g3_0 := Lib.hid hg
  have r5_0 := Lib.hid hr
  have B0 := Lib.hid hB
  subst hQ
  conv at hK => enter [a, w, 1, 2]; whnf
  clear hcame hl ho hkq hk0 hD hg hr hB
  have B1 := B0
  have D_1 := D_0
  have g3_1 := g3_0
  have r5_1 := r5_0
  clear B0 D_0 g3_0 r5_0
  go_wp2_with fail
  refine (drawAll_any _ a0 len0 cap0 hlen (HC.out.below B1.out)).mono ?_
  rintro e w1 ⟨A1, n1, c1, wk1, cp1, gs1, A3, m3, c3, cs, A4, m1, c4, rs, mo, hn9, hl1, ho1, hm3, hl3, hm1, hl4, rfl, hD1, oC, oR, hb⟩
  have sz2 := hb.size
  have B2 := Lib.hid (below_chain B1.out hb)
  have D_2 := Lib.hid (D_1.out.below hb)
  have g3_2 := Lib.hid (g3_1.out.below hb)
  have r5_2 := Lib.hid (r5_1.out.below hb)
  clear hb B1 D_1 g3_1 r5_1
  have L1 := Lib.hid hl1
  have OU1 := Lib.hid (fun x hx => Nat.le_trans (ho1 x hx) (by omega : 4 ≤ 1048576))
  have L3 := Lib.hid hl3
  have L4 := Lib.hid hl4
  have E_2 := Lib.hid hD1
  clear hl1 ho1 hl3 hl4 hD1
  obtain ⟨A3x, c3x, he3, rC⟩ := row_of oC
  simp only [Value.slice.injEq, true_and] at he3
  obtain ⟨rfl, rfl⟩ := he3
  obtain ⟨A4x, c4x, he4, rR⟩ := row_of oR
  simp only [Value.slice.injEq, true_and] at he4
  obtain ⟨rfl, rfl⟩ := he4
  clear oC oR
  have C_2 := Lib.hid rC
  have P_2 := Lib.hid rR
  clear rC rR
  obtain ⟨⟨⟨us, out⟩, nn⟩, hsg⟩ : ∃ p, allG gs1 wk1 cp1 cs rs mo = p := ⟨_, rfl⟩
  obtain ⟨q3, hq3⟩ : ∃ m, us.length = m := ⟨_, rfl⟩
  obtain ⟨q4, hq4⟩ : ∃ m, out.length = m := ⟨_, rfl⟩
  have l3 : q3 ≤ 4194304 := by have h := (all_len gs1 wk1 cp1 cs rs mo).1; rw [hsg, L3.out] at h; rw [← hq3]; exact Nat.le_trans h (by omega)
  have l4 : q4 ≤ 4194304 := by have h := (all_len gs1 wk1 cp1 cs rs mo).2; rw [hsg, L4.out] at h; rw [← hq4]; exact Nat.le_trans h (by omega)
  have HSG := Lib.hid hsg
  have Q3 := Lib.hid hq3
  have Q4 := Lib.hid hq4
  clear hsg hq3 hq4
  have hnn : ((nn : Int) == (nn : Int)) = true := by simp
  obtain ⟨V2, hW⟩ : ∃ z, (w1.alloc (.cells #[.slice A1 n1 c1, .int .i64 wk1, .int .i64 cp1] 26)) = z := ⟨_, rfl⟩
  have hb : Below w1.heap.size w1 V2 := by rw [← hW]; exact ((Below.refl _ _).alloc (by first | (simp; done) | (simp; omega) | omega) _)
  have az : V2.heap.size = w1.heap.size + 1 := by rw [← hW]; simp
  have Ng14 := Lib.hid (show Blk V2 (w1.heap.size) 26 #[.slice A1 n1 c1, .int .i64 wk1, .int .i64 cp1] by rw [← hW]; exact (Blk.new _ _ _))
  have AZV2 := Lib.hid az
  clear az
  have sz3 := hb.size
  have B3 := Lib.hid (below_chain B2.out hb)
  have D_3 := Lib.hid (D_2.out.below hb)
  have E_3 := Lib.hid (E_2.out.below hb)
  have C_3 := Lib.hid (C_2.out.below hb)
  have P_3 := Lib.hid (P_2.out.below hb)
  have g3_3 := Lib.hid (g3_2.out.below hb)
  have r5_3 := Lib.hid (r5_2.out.below hb)
  clear hb B2 D_2 E_2 C_2 P_2 g3_2 r5_2
  have g14_3 := Ng14
  clear Ng14
  have ltg14 : w1.heap.size < V2.heap.size := g14_3.out.lt
  have xg140 : V2.cell? ⟨w1.heap.size, 0, none⟩ = some (.slice A1 n1 c1) := by rw [g14_3.out.cell]; rfl
  have xg141 : V2.cell? ⟨w1.heap.size, 1, none⟩ = some (.int .i64 wk1) := by rw [g14_3.out.cell]; rfl
  have xg142 : V2.cell? ⟨w1.heap.size, 2, none⟩ = some (.int .i64 cp1) := by rw [g14_3.out.cell]; rfl
  go_wp2_with fail
  clear hW xg140 xg141 xg142
  refine (implAll_rows HSG.out Q3.out Q4.out L1.out OU1.out (by omega) L3.out C_3.out.nil (by omega) L4.out P_3.out.nil (by omega) _ E_3.out C_3.out.ce P_3.out.rc (c := c1) (c2 := c3) (c1 := c4)).mono ?_
  rintro e w2 ⟨A5, c5, A5b, c5b, rfl, r5, t5, hb⟩
  have sz4 := hb.size
  have B4 := Lib.hid (below_chain B3.out hb)
  have D_4 := Lib.hid (D_3.out.below hb)
  have E_4 := Lib.hid (E_3.out.below hb)
  have C_4 := Lib.hid (C_3.out.below hb)
  have P_4 := Lib.hid (P_3.out.below hb)
  have g3_4 := Lib.hid (g3_3.out.below hb)
  have r5_4 := Lib.hid (r5_3.out.below hb)
  have g14_4 := Lib.hid (g14_3.out.below hb)
  clear hb B3 D_3 E_3 C_3 P_3 g3_3 r5_3 g14_3
  have X5_4 := Lib.hid r5
  have Y5_4 := Lib.hid t5
  clear r5 t5
  have xg140 : w2.cell? ⟨w1.heap.size, 0, none⟩ = some (.slice A1 n1 c1) := by rw [g14_4.out.cell]; rfl
  have xg141 : w2.cell? ⟨w1.heap.size, 1, none⟩ = some (.int .i64 wk1) := by rw [g14_4.out.cell]; rfl
  have xg142 : w2.cell? ⟨w1.heap.size, 2, none⟩ = some (.int .i64 cp1) := by rw [g14_4.out.cell]; rfl
  go_wp2_with fail
  clear xg140 xg141 xg142
  refine (specAll_rows HSG.out Q3.out Q4.out L1.out OU1.out (by omega) L3.out C_4.out.nil (by omega) L4.out P_4.out.nil (by omega) _ E_4.out C_4.out.ce P_4.out.rc (c := c1) (c2 := c3) (c1 := c4)).mono ?_
  rintro e w3 ⟨A6, c6, A6b, c6b, rfl, r6, t6, hb⟩
  have sz5 := hb.size
  have B5 := Lib.hid (below_chain B4.out hb)
  have D_5 := Lib.hid (D_4.out.below hb)
  have E_5 := Lib.hid (E_4.out.below hb)
  have C_5 := Lib.hid (C_4.out.below hb)
  have P_5 := Lib.hid (P_4.out.below hb)
  have X5_5 := Lib.hid (X5_4.out.below hb)
  have Y5_5 := Lib.hid (Y5_4.out.below hb)
  have g3_5 := Lib.hid (g3_4.out.below hb)
  have r5_5 := Lib.hid (r5_4.out.below hb)
  have g14_5 := Lib.hid (g14_4.out.below hb)
  clear hb B4 D_4 E_4 C_4 P_4 X5_4 Y5_4 g3_4 r5_4 g14_4
  have X6_5 := Lib.hid r6
  have Y6_5 := Lib.hid t6
  clear r6 t6
  clear HSG
  clear C_5
  clear P_5
  clear E_5
  clear g14_5
  obtain ⟨U1, hU1⟩ : ∃ z, w3.alloc (.cells #[.int .i64 1] 3) = z := ⟨_, rfl⟩
  obtain ⟨U2, hU2⟩ : ∃ z, U1.alloc (.cells #[.int .i64 1, .int .i64 0, .int .i64 0, .slice (some ⟨w3.heap.size, 0, none⟩) 1 1, .int .i64 8, .int .i64 0, .int .i64 0, .slice none 0 0] 42) = z := ⟨_, rfl⟩
  obtain ⟨U3, hU3⟩ : ∃ z, U2.alloc (.cells #[.slice (some ⟨U1.heap.size, 0, none⟩) 2 2, .int .i64 1, .int .i64 1] 26) = z := ⟨_, rfl⟩
  have bU1 : Below w3.heap.size w3 U1 := by rw [← hU1]; exact (Below.refl _ _).alloc (Nat.le_refl _) _
  have bU2 : Below U1.heap.size U1 U2 := by rw [← hU2]; exact (Below.refl _ _).alloc (Nat.le_refl _) _
  have bU3 : Below U2.heap.size U2 U3 := by rw [← hU3]; exact (Below.refl _ _).alloc (Nat.le_refl _) _
  have k1 : Blk U1 w3.heap.size 3 #[.int .i64 1] := by rw [← hU1]; exact Blk.new _ _ _
  have k2 : Blk U2 U1.heap.size 42 #[.int .i64 1, .int .i64 0, .int .i64 0, .slice (some ⟨w3.heap.size, 0, none⟩) 1 1, .int .i64 8, .int .i64 0, .int .i64 0, .slice none 0 0] := by rw [← hU2]; exact Blk.new _ _ _
  have k3 : Blk U3 U2.heap.size 26 #[.slice (some ⟨U1.heap.size, 0, none⟩) 2 2, .int .i64 1, .int .i64 1] := by rw [← hU3]; exact Blk.new _ _ _
  have T0 := Lib.hid (two_nds ((k1.below bU2).below bU3) (k2.below bU3))
  have K3 := Lib.hid k3
  have hb : Below w3.heap.size w3 U3 := below_chain (below_chain bU1 bU2) bU3
  clear k1 k2 k3 bU1 bU2 bU3
  have sz6 := hb.size
  have B6 := Lib.hid (below_chain B5.out hb)
  have D_6 := Lib.hid (D_5.out.below hb)
  have X5_6 := Lib.hid (X5_5.out.below hb)
  have Y5_6 := Lib.hid (Y5_5.out.below hb)
  have X6_6 := Lib.hid (X6_5.out.below hb)
  have Y6_6 := Lib.hid (Y6_5.out.below hb)
  have g3_6 := Lib.hid (g3_5.out.below hb)
  have r5_6 := Lib.hid (r5_5.out.below hb)
  clear hb B5 D_5 X5_5 Y5_5 X6_5 Y6_5 g3_5 r5_5
  have T_6 := T0
  have g24_6 := K3
  clear T0 K3
  have xg240 : U3.cell? ⟨U2.heap.size, 0, none⟩ = some (.slice (some ⟨U1.heap.size, 0, none⟩) 2 2) := by rw [g24_6.out.cell]; rfl
  have xg241 : U3.cell? ⟨U2.heap.size, 1, none⟩ = some (.int .i64 1) := by rw [g24_6.out.cell]; rfl
  have xg242 : U3.cell? ⟨U2.heap.size, 2, none⟩ = some (.int .i64 1) := by rw [g24_6.out.cell]; rfl
  go_wp2_with fail
  clear hU1 hU2 hU3 xg240 xg241 xg242
  refine (implStep_rows step_two (m3 := 0) (m4 := 1) rfl rfl (n := 2) rfl (by decide) (by omega) (n2 := 0) rfl (fun _ => rfl) (Nat.le_refl _) (by omega) _ T_6.out (A2 := none) (c2 := 0) (fun h => absurd h (by simp)) (c := 2)).mono ?_
  rintro e w5 ⟨A7, c7, A7b, c7b, rfl, r7, t7, hb⟩
  have sz7 := hb.size
  have B7 := Lib.hid (below_chain B6.out hb)
  have D_7 := Lib.hid (D_6.out.below hb)
  have X5_7 := Lib.hid (X5_6.out.below hb)
  have Y5_7 := Lib.hid (Y5_6.out.below hb)
  have X6_7 := Lib.hid (X6_6.out.below hb)
  have Y6_7 := Lib.hid (Y6_6.out.below hb)
  have T_7 := Lib.hid (T_6.out.below hb)
  have g3_7 := Lib.hid (g3_6.out.below hb)
  have r5_7 := Lib.hid (r5_6.out.below hb)
  have g24_7 := Lib.hid (g24_6.out.below hb)
  clear hb B6 D_6 X5_6 Y5_6 X6_6 Y6_6 T_6 g3_6 r5_6 g24_6
  clear T_7
  clear g24_7
  have Z_7 := Lib.hid t7
  clear r7 t7
  go_wp2_with fail
  refine (sameCe_is Q3.out l3 X5_7.out.ce X6_7.out.ce).mono ?_
  rintro e w6 ⟨rfl, hb⟩
  have sz8 := hb.size
  have B8 := Lib.hid (below_chain B7.out hb)
  have D_8 := Lib.hid (D_7.out.below hb)
  have X5_8 := Lib.hid (X5_7.out.below hb)
  have Y5_8 := Lib.hid (Y5_7.out.below hb)
  have X6_8 := Lib.hid (X6_7.out.below hb)
  have Y6_8 := Lib.hid (Y6_7.out.below hb)
  have Z_8 := Lib.hid (Z_7.out.below hb)
  have g3_8 := Lib.hid (g3_7.out.below hb)
  have r5_8 := Lib.hid (r5_7.out.below hb)
  clear hb B7 D_7 X5_7 Y5_7 X6_7 Y6_7 Z_7 g3_7 r5_7
  clear X5_8
  clear X6_8
  go_wp2_with fail
  refine (sameRc_is Q4.out l4 Y5_8.out.rc Y6_8.out.rc).mono ?_
  rintro e w7 ⟨rfl, hb⟩
  have sz9 := hb.size
  have B9 := Lib.hid (below_chain B8.out hb)
  have D_9 := Lib.hid (D_8.out.below hb)
  have Y5_9 := Lib.hid (Y5_8.out.below hb)
  have Y6_9 := Lib.hid (Y6_8.out.below hb)
  have Z_9 := Lib.hid (Z_8.out.below hb)
  have g3_9 := Lib.hid (g3_8.out.below hb)
  have r5_9 := Lib.hid (r5_8.out.below hb)
  clear hb B8 D_8 Y5_8 Y6_8 Z_8 g3_8 r5_8
  clear Y5_9
  clear Y6_9
  obtain ⟨bz, oz, p0, p1, p2, p3, p4, rfl, hz, e0, e1, e2, e3, e4⟩ := Z_9.out.rc.at (k := 0) (by simp)
  simp only [List.getElem_cons_zero, Prod.mk.injEq] at hz
  obtain ⟨rfl, ⟨rfl, rfl⟩, rfl, rfl⟩ := hz
  simp only [Nat.zero_mul, Nat.add_zero] at e0 e1 e2 e3 e4
  have xg30 : w7.cell? ⟨g3, 0, none⟩ = some (.slice A n c) := by rw [g3_9.out.cell]; rfl
  have xg31 : w7.cell? ⟨g3, 1, none⟩ = some (.int .i64 wk) := by rw [g3_9.out.cell]; rfl
  have xg32 : w7.cell? ⟨g3, 2, none⟩ = some (.int .i64 cp) := by rw [g3_9.out.cell]; rfl
  have xr50 : w7.cell? ⟨r5, 0, none⟩ = some (.int .i64 r0) := by rw [r5_9.out.cell]; rfl
  have xr51 : w7.cell? ⟨r5, 1, none⟩ = some (.int .i64 r1) := by rw [r5_9.out.cell]; rfl
  have xr52 : w7.cell? ⟨r5, 2, none⟩ = some (.int .i64 r2) := by rw [r5_9.out.cell]; rfl
  have xr53 : w7.cell? ⟨r5, 3, none⟩ = some (.int .i64 r3) := by rw [r5_9.out.cell]; rfl
  have xr54 : w7.cell? ⟨r5, 4, none⟩ = some (.int .i64 r4) := by rw [r5_9.out.cell]; rfl
  go_wp2_with fail
  clear e0 e1 e2 e3 e4
  clear xg30 xg31 xg32 xr50 xr51 xr52 xr53 xr54
  refine (capI_is KQ.out L.out OU.out hn _ D_9.out).mono ?_
  rintro e w8 ⟨rfl, hb⟩
  have sz10 := hb.size
  have B10 := Lib.hid (below_chain B9.out hb)
  have D_10 := Lib.hid (D_9.out.below hb)
  have Z_10 := Lib.hid (Z_9.out.below hb)
  have g3_10 := Lib.hid (g3_9.out.below hb)
  have r5_10 := Lib.hid (r5_9.out.below hb)
  clear hb B9 D_9 Z_9 g3_9 r5_9
  cases kq with
  | false =>
    go_wp2
    go_ret
    exact ⟨rfl, B10.out⟩
  | true =>
    obtain rfl : m4 = 0 := K0.out rfl
    go_wp2
    go_ret
    exact ⟨rfl, B10.out⟩
end Go.Proofs.Ytlanmkimaambgaa.fnSteps

