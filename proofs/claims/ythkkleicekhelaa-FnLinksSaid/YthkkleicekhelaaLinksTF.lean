/-
  FnLinks's last statement, in one of its cases. FnLinks's last statement, in one of its cases.
-/
import Derived.Test.YthkkleicekhelaaRegZ25
import Derived.Test.YthkkleicekhelaaDrawBlk
import Derived.Test.YthkkleicekhelaaStamps
import Derived.Deep.RegionHeld3
namespace Go.Proofs.Ythkkleicekhelaa.fnLinks
open Go.RowKit Go.Proofs.Ythkkleicekhelaa.hexes

set_option maxRecDepth 1000000 in
set_option maxHeartbeats 16000000 in
theorem tailT {K : Act → World → Prop} {Q' : Exit → Act → World → Prop} (w V : World) (y eF pL aL bL sL gL pF aF bF sF gF pG aG bG sG gG pH aH bH sH gH ax sx am : Int) (AL AF AG AH A1 A8 : Option Addr) (nL cL nF cF nG cG nH cH c1 c8 m fl gL1 gL0 gAB gGB gHB gBK gTW : Nat) (sm : Bool) (s0 s1 s2 s4 s7 s8 s9 s10 s11 s12 s13 s14 s15 s16 s17 s18 s19 s20 s25 s26 s27 s29 s30 s32 s34 s35 s36 s37 s38 s39 s40 s41 s42 s43 s44 s45 s46 s47 s48 s49 s50 s51 s52 s53 s54 s55 s56 s57 s58 s59 s60 s61 s62 s63 s64 s65 s66 s67 s68 s69 s70 s71 s72 s73 s74 s75 s76 s77 s78 s79 s80 s81 s82 s83 s84 s85 s86 s87 s88 s89 s90 s91 s92 s93 s94 s95 s96 s97 s98 s99 s100 s101 s102 s103 s104 s105 s106 s107 s108 s109 s110 s111 s112 s113 s114 s115 s116 s117 s118 s119 s120 s121 s122 s123 s124 s125 s126 s127 s128 s129 s130 s131 s132 s133 s134 s135 s136 s137 s138 s139 s140 s141 s142 s143 s144 s145 s146 s147 s148 s149 s150 s151 s152 s153 s154 s155 s156 s157 s158 s159 s160 s161 s162 s163 s164 s165 s166 s167 s168 s169 s170 s171 s172 s173 s174 s175 s176 s177 s178 s179 s180 s181 s182 s183 s184 s185 s186 s187 s188 s189 s190 s191 s192 s193 s194 s195 s196 s197 s198 s199 s200 s201 s202 s203 s204 s205 s206 s207 s208 s209 s210 s211 s212 s213 s214 s215 s216 s217 s218 s219 s220 s221 s222 s223 s224 s225 s226 s227 s228 s229 s230 s231 s232 s233 s234 : Value)
    (EX0 : ∀ W, Below V.heap.size V W → Calls Try.prog 15 #[.agg #[.int .i64 pL, .slice A1 m c1, .int .i64 ax, .int .i64 bL, .int .i64 sx, .int .i64 gL]] W fun e w' => e = .returned (.bool true) ∧ Below W.heap.size W w')
    (E00 : ∀ W, Below V.heap.size V W → Calls Try.prog 25 #[.agg #[.int .i64 pF, .slice AF nF cF, .int .i64 aF, .int .i64 bF, .int .i64 sF, .int .i64 gF], .int .i64 eF] W fun e w' => e = .returned (.int .i64 (fl : Int)) ∧ Below W.heap.size W w')
    (E10 : ∀ W, Below V.heap.size V W → Calls Try.prog 26 #[.agg #[.int .i64 pF, .slice AF nF cF, .int .i64 aF, .int .i64 bF, .int .i64 sF, .int .i64 gF], .int .i64 eF] W fun e w' => e = .returned (.int .i64 (fl : Int)) ∧ Below W.heap.size W w')
    (E20 : ∀ W, Below V.heap.size V W → Calls Try.prog 27 #[.agg #[.int .i64 pG, .slice AG nG cG, .int .i64 aG, .int .i64 bG, .int .i64 sG, .int .i64 gG], .agg #[.int .i64 pH, .slice AH nH cH, .int .i64 aH, .int .i64 bH, .int .i64 sH, .int .i64 gH]] W fun e w' => e = .returned (.bool sm) ∧ Below W.heap.size W w')
    (E30 : ∀ W, Below V.heap.size V W → Calls Try.prog 13 #[.agg #[.int .i64 pG, .slice AG nG cG, .int .i64 aG, .int .i64 bG, .int .i64 sG, .int .i64 gG], .agg #[.int .i64 pH, .slice AH nH cH, .int .i64 aH, .int .i64 bH, .int .i64 sH, .int .i64 gH]] W fun e w' => e = .returned (.bool sm) ∧ Below W.heap.size W w')
    (kL1 : Blk V gL1 26 #[.int .i64 pL, .slice A1 m c1, .int .i64 ax, .int .i64 bL, .int .i64 sx, .int .i64 gL])
    (kL0 : Blk V gL0 26 #[.int .i64 pL, .slice AL nL cL, .int .i64 aL, .int .i64 bL, .int .i64 sL, .int .i64 gL])
    (kAB : Blk V gAB 26 #[.int .i64 pF, .slice AF nF cF, .int .i64 aF, .int .i64 bF, .int .i64 sF, .int .i64 gF])
    (kGB : Blk V gGB 26 #[.int .i64 pG, .slice AG nG cG, .int .i64 aG, .int .i64 bG, .int .i64 sG, .int .i64 gG])
    (kHB : Blk V gHB 26 #[.int .i64 pH, .slice AH nH cH, .int .i64 aH, .int .i64 bH, .int .i64 sH, .int .i64 gH])
    (kBK : Blk V gBK 30 #[.int .i64 y, .int .i64 y, .int .i64 y, .int .i64 y, .int .i64 y])
    (kTW : Blk V gTW 26 #[.int .i64 2, .slice A8 2 c8, .int .i64 y, .int .i64 y, .int .i64 2, .int .i64 y])
    (hy0 : y = 0) (ham : aL - 1 = am) (mam : IntKind.i64.wrap am = am) (dam : (ax == am) = true)
    (hB : Below w.heap.size w V)
    (hQ : Q' = bodyPost Try.prog Try.f3 fun e w' => e = .returned (.bool true) ∧ Below w.heap.size w w')
    (hK : ∀ (a : Act) (w : World), Code.wp Try.prog Code.ret Q' a w → K a w) :
    Code.wp Try.prog (.region 25 opsZ25 true) (Exit.then K Q') ⟨#[s0, s1, s2, .pointer (some ⟨gL0, 0, none⟩), s4, .pointer (some ⟨gL1, 0, none⟩), .bool true, s7, s8, s9, s10, s11, s12, s13, s14, s15, s16, s17, s18, s19, s20, .pointer (some ⟨gAB, 0, none⟩), .int .i64 eF, .pointer (some ⟨gGB, 0, none⟩), .pointer (some ⟨gHB, 0, none⟩), s25, s26, s27, .pointer (some ⟨gTW, 0, none⟩), s29, s30, .bool false, s32, .pointer (some ⟨gBK, 0, none⟩), s34, s35, s36, s37, s38, s39, s40, s41, s42, s43, s44, s45, s46, s47, s48, s49, s50, s51, s52, s53, s54, s55, s56, s57, s58, s59, s60, s61, s62, s63, s64, s65, s66, s67, s68, s69, s70, s71, s72, s73, s74, s75, s76, s77, s78, s79, s80, s81, s82, s83, s84, s85, s86, s87, s88, s89, s90, s91, s92, s93, s94, s95, s96, s97, s98, s99, s100, s101, s102, s103, s104, s105, s106, s107, s108, s109, s110, s111, s112, s113, s114, s115, s116, s117, s118, s119, s120, s121, s122, s123, s124, s125, s126, s127, s128, s129, s130, s131, s132, s133, s134, s135, s136, s137, s138, s139, s140, s141, s142, s143, s144, s145, s146, s147, s148, s149, s150, s151, s152, s153, s154, s155, s156, s157, s158, s159, s160, s161, s162, s163, s164, s165, s166, s167, s168, s169, s170, s171, s172, s173, s174, s175, s176, s177, s178, s179, s180, s181, s182, s183, s184, s185, s186, s187, s188, s189, s190, s191, s192, s193, s194, s195, s196, s197, s198, s199, s200, s201, s202, s203, s204, s205, s206, s207, s208, s209, s210, s211, s212, s213, s214, s215, s216, s217, s218, s219, s220, s221, s222, s223, s224, s225, s226, s227, s228, s229, s230, s231, s232, s233, s234], []⟩ V := by
  have EX := Lib.hid EX0
  have EF1 := Lib.hid E00
  have EF2 := Lib.hid E10
  have EM1 := Lib.hid E20
  have EM2 := Lib.hid E30
  have L1_K := Lib.hid kL1
  have L0_K := Lib.hid kL0
  have AB_K := Lib.hid kAB
  have GB_K := Lib.hid kGB
  have HB_K := Lib.hid kHB
  have BK_K := Lib.hid kBK
  have TW_K := Lib.hid kTW
  have HY := Lib.hid hy0
  have HB := Lib.hid hB
  subst hQ
  have KK := Lib.hid hK
  have dsm : (sm == sm) = true := by simp
  clear hK hB hy0 EX0 E00 E10 E20 E30 kL1 kL0 kAB kGB kHB kBK kTW
  refine wp_region_held_drew (S := fun w' => Below V.heap.size V w') (by kernel_rfl) ?_ (fun hHeld => ?_)
  · skip
    first | exact (Below.refl _ _).drew | exact below_chain hHeld hbd
  change wpAnyH _ _ opsZ25 _ _ 56 (LZ25 0) _ _
  refine tZ25_0 (.bool true) (fun _ _ _ h => h) (Or.inl ⟨by rfl, fun W hSw => ?_⟩) hHeld ?_
  · skip
    unfold qZ25_0
    go_simp
  try simp only [Act.put, List.setIfInBounds_toArray, List.set_cons_zero, List.set_cons_succ]
  refine tZ25_1 (.bool false) (fun _ _ _ h => h) (Or.inl ⟨by rfl, fun W hSw => ?_⟩) hHeld ?_
  · skip
    unfold qZ25_1
    go_simp
  try simp only [Act.put, List.setIfInBounds_toArray, List.set_cons_zero, List.set_cons_succ]
  refine tZ25_2 (.bool false) (fun _ _ _ h => h) (Or.inl ⟨by rfl, fun W hSw => ?_⟩) hHeld ?_
  · skip
    unfold qZ25_2
    go_simp
  try simp only [Act.put, List.setIfInBounds_toArray, List.set_cons_zero, List.set_cons_succ]
  refine tZ25_3 (.agg #[.int .i64 pL, .slice A1 m c1, .int .i64 ax, .int .i64 bL, .int .i64 sx, .int .i64 gL]) (fun _ _ _ h => h) (Or.inl ⟨by rfl, fun W hSw => ?_⟩) hHeld ?_
  · skip
    unfold qZ25_3
    have l0 : W.cell? ⟨gL1, 0, none⟩ = some (.int .i64 pL) := by rw [(L1_K.out.below hSw).cell]; rfl
    have l1 : W.cell? ⟨gL1, 1, none⟩ = some (.slice A1 m c1) := by rw [(L1_K.out.below hSw).cell]; rfl
    have l2 : W.cell? ⟨gL1, 2, none⟩ = some (.int .i64 ax) := by rw [(L1_K.out.below hSw).cell]; rfl
    have l3 : W.cell? ⟨gL1, 3, none⟩ = some (.int .i64 bL) := by rw [(L1_K.out.below hSw).cell]; rfl
    have l4 : W.cell? ⟨gL1, 4, none⟩ = some (.int .i64 sx) := by rw [(L1_K.out.below hSw).cell]; rfl
    have l5 : W.cell? ⟨gL1, 5, none⟩ = some (.int .i64 gL) := by rw [(L1_K.out.below hSw).cell]; rfl
    go_simp
  try simp only [Act.put, List.setIfInBounds_toArray, List.set_cons_zero, List.set_cons_succ]
  refine cZ25_4 (fun K hK => ?_)
  rw [if_pos (by rfl)]
  unfold qZ25_4
  go_simp
  refine (EX.out _ hHeld).mono ?_
  rintro e wk1 ⟨rfl, hbd⟩
  refine Shut.out hK _ _ ?_ (fun hHeld => ?_)
  · skip
    first | exact (Below.refl _ _).drew | exact below_chain hHeld hbd
  clear hK K
  try simp only [Act.put, List.setIfInBounds_toArray, List.set_cons_zero, List.set_cons_succ]
  refine tZ25_5 (.bool true) (fun _ _ _ h => h) (Or.inl ⟨by rfl, fun W hSw => ?_⟩) hHeld ?_
  · skip
    unfold qZ25_5
    go_simp
  try simp only [Act.put, List.setIfInBounds_toArray, List.set_cons_zero, List.set_cons_succ]
  refine tZ25_6 (.pointer (some ⟨gL1, 2, none⟩)) (fun _ _ _ h => h) (Or.inl ⟨by rfl, fun W hSw => ?_⟩) hHeld ?_
  · skip
    unfold qZ25_6
    go_simp
  try simp only [Act.put, List.setIfInBounds_toArray, List.set_cons_zero, List.set_cons_succ]
  refine tZ25_7 (.int .i64 ax) (fun _ _ _ h => h) (Or.inl ⟨by rfl, fun W hSw => ?_⟩) hHeld ?_
  · skip
    unfold qZ25_7
    have l2 : W.cell? ⟨gL1, 2, none⟩ = some (.int .i64 ax) := by rw [(L1_K.out.below hSw).cell]; rfl
    go_simp
  try simp only [Act.put, List.setIfInBounds_toArray, List.set_cons_zero, List.set_cons_succ]
  refine tZ25_8 (.pointer (some ⟨gL0, 2, none⟩)) (fun _ _ _ h => h) (Or.inl ⟨by rfl, fun W hSw => ?_⟩) hHeld ?_
  · skip
    unfold qZ25_8
    go_simp
  try simp only [Act.put, List.setIfInBounds_toArray, List.set_cons_zero, List.set_cons_succ]
  refine tZ25_9 (.int .i64 aL) (fun _ _ _ h => h) (Or.inl ⟨by rfl, fun W hSw => ?_⟩) hHeld ?_
  · skip
    unfold qZ25_9
    have l2 : W.cell? ⟨gL0, 2, none⟩ = some (.int .i64 aL) := by rw [(L0_K.out.below hSw).cell]; rfl
    go_simp
  try simp only [Act.put, List.setIfInBounds_toArray, List.set_cons_zero, List.set_cons_succ]
  refine tZ25_10 (.int .i64 am) (fun _ _ _ h => h) (Or.inl ⟨by rfl, fun W hSw => ?_⟩) hHeld ?_
  · skip
    unfold qZ25_10
    go_simp
  try simp only [Act.put, List.setIfInBounds_toArray, List.set_cons_zero, List.set_cons_succ]
  refine tZ25_11 (.bool true) (fun _ _ _ h => h) (Or.inl ⟨by rfl, fun W hSw => ?_⟩) hHeld ?_
  · skip
    unfold qZ25_11
    go_simp
  try simp only [Act.put, List.setIfInBounds_toArray, List.set_cons_zero, List.set_cons_succ]
  refine tZ25_12 (.bool true) (fun _ _ _ h => h) (Or.inl ⟨by rfl, fun W hSw => ?_⟩) hHeld ?_
  · skip
    unfold qZ25_12
    go_simp
  try simp only [Act.put, List.setIfInBounds_toArray, List.set_cons_zero, List.set_cons_succ]
  refine tZ25_13 (.bool true) (fun _ _ _ h => h) (Or.inl ⟨by rfl, fun W hSw => ?_⟩) hHeld ?_
  · skip
    unfold qZ25_13
    go_simp
  try simp only [Act.put, List.setIfInBounds_toArray, List.set_cons_zero, List.set_cons_succ]
  refine tZ25_14 (.bool true) (fun _ _ _ h => h) (Or.inl ⟨by rfl, fun W hSw => ?_⟩) hHeld ?_
  · skip
    unfold qZ25_14
    go_simp
  try simp only [Act.put, List.setIfInBounds_toArray, List.set_cons_zero, List.set_cons_succ]
  refine tZ25_15 (.bool true) (fun _ _ _ h => h) (Or.inl ⟨by rfl, fun W hSw => ?_⟩) hHeld ?_
  · skip
    unfold qZ25_15
    go_simp
  try simp only [Act.put, List.setIfInBounds_toArray, List.set_cons_zero, List.set_cons_succ]
  refine tZ25_16 (.bool true) (fun _ _ _ h => h) (Or.inl ⟨by rfl, fun W hSw => ?_⟩) hHeld ?_
  · skip
    unfold qZ25_16
    go_simp
  try simp only [Act.put, List.setIfInBounds_toArray, List.set_cons_zero, List.set_cons_succ]
  refine tZ25_17 undef (fun _ _ _ h => h) (Or.inr ⟨by rfl, rfl⟩) hHeld ?_
  try simp only [Act.put, List.setIfInBounds_toArray, List.set_cons_zero, List.set_cons_succ]
  refine tZ25_18 undef (fun _ _ _ h => h) (Or.inr ⟨by rfl, rfl⟩) hHeld ?_
  try simp only [Act.put, List.setIfInBounds_toArray, List.set_cons_zero, List.set_cons_succ]
  refine tZ25_19 undef (fun _ _ _ h => h) (Or.inr ⟨by rfl, rfl⟩) hHeld ?_
  try simp only [Act.put, List.setIfInBounds_toArray, List.set_cons_zero, List.set_cons_succ]
  refine tZ25_20 (Value.bool true) (fun _ _ _ h => h) (Or.inl ⟨by rfl, fun W hSw => ?_⟩) hHeld ?_
  · skip
    unfold qZ25_20
    go_simp
  try simp only [Act.put, List.setIfInBounds_toArray, List.set_cons_zero, List.set_cons_succ]
  refine tZ25_21 (Value.bool true) (fun _ _ _ h => h) (Or.inl ⟨by rfl, fun W hSw => ?_⟩) hHeld ?_
  · skip
    unfold qZ25_21
    go_simp
  try simp only [Act.put, List.setIfInBounds_toArray, List.set_cons_zero, List.set_cons_succ]
  refine tZ25_22 (Value.bool true) (fun _ _ _ h => h) (Or.inl ⟨by rfl, fun W hSw => ?_⟩) hHeld ?_
  · skip
    unfold qZ25_22
    go_simp
  try simp only [Act.put, List.setIfInBounds_toArray, List.set_cons_zero, List.set_cons_succ]
  refine tZ25_23 (.agg #[.int .i64 pF, .slice AF nF cF, .int .i64 aF, .int .i64 bF, .int .i64 sF, .int .i64 gF]) (fun _ _ _ h => h) (Or.inl ⟨by rfl, fun W hSw => ?_⟩) hHeld ?_
  · skip
    unfold qZ25_23
    have l0 : W.cell? ⟨gAB, 0, none⟩ = some (.int .i64 pF) := by rw [(AB_K.out.below hSw).cell]; rfl
    have l1 : W.cell? ⟨gAB, 1, none⟩ = some (.slice AF nF cF) := by rw [(AB_K.out.below hSw).cell]; rfl
    have l2 : W.cell? ⟨gAB, 2, none⟩ = some (.int .i64 aF) := by rw [(AB_K.out.below hSw).cell]; rfl
    have l3 : W.cell? ⟨gAB, 3, none⟩ = some (.int .i64 bF) := by rw [(AB_K.out.below hSw).cell]; rfl
    have l4 : W.cell? ⟨gAB, 4, none⟩ = some (.int .i64 sF) := by rw [(AB_K.out.below hSw).cell]; rfl
    have l5 : W.cell? ⟨gAB, 5, none⟩ = some (.int .i64 gF) := by rw [(AB_K.out.below hSw).cell]; rfl
    go_simp
  try simp only [Act.put, List.setIfInBounds_toArray, List.set_cons_zero, List.set_cons_succ]
  refine tZ25_24 (.int .i64 eF) (fun _ _ _ h => h) (Or.inl ⟨by rfl, fun W hSw => ?_⟩) hHeld ?_
  · skip
    unfold qZ25_24
    go_simp
  try simp only [Act.put, List.setIfInBounds_toArray, List.set_cons_zero, List.set_cons_succ]
  refine tZ25_25 (.agg #[.int .i64 pF, .slice AF nF cF, .int .i64 aF, .int .i64 bF, .int .i64 sF, .int .i64 gF]) (fun _ _ _ h => h) (Or.inl ⟨by rfl, fun W hSw => ?_⟩) hHeld ?_
  · skip
    unfold qZ25_26
    have l0 : W.cell? ⟨gAB, 0, none⟩ = some (.int .i64 pF) := by rw [(AB_K.out.below hSw).cell]; rfl
    have l1 : W.cell? ⟨gAB, 1, none⟩ = some (.slice AF nF cF) := by rw [(AB_K.out.below hSw).cell]; rfl
    have l2 : W.cell? ⟨gAB, 2, none⟩ = some (.int .i64 aF) := by rw [(AB_K.out.below hSw).cell]; rfl
    have l3 : W.cell? ⟨gAB, 3, none⟩ = some (.int .i64 bF) := by rw [(AB_K.out.below hSw).cell]; rfl
    have l4 : W.cell? ⟨gAB, 4, none⟩ = some (.int .i64 sF) := by rw [(AB_K.out.below hSw).cell]; rfl
    have l5 : W.cell? ⟨gAB, 5, none⟩ = some (.int .i64 gF) := by rw [(AB_K.out.below hSw).cell]; rfl
    go_simp
  try simp only [Act.put, List.setIfInBounds_toArray, List.set_cons_zero, List.set_cons_succ]
  refine tZ25_26 (.int .i64 eF) (fun _ _ _ h => h) (Or.inl ⟨by rfl, fun W hSw => ?_⟩) hHeld ?_
  · skip
    unfold qZ25_27
    go_simp
  try simp only [Act.put, List.setIfInBounds_toArray, List.set_cons_zero, List.set_cons_succ]
  refine cZ25_27 (fun K hK => ?_)
  rw [if_pos (by rfl)]
  unfold qZ25_25
  go_simp
  refine (EF1.out _ hHeld).mono ?_
  rintro e wk2 ⟨rfl, hbd⟩
  refine Shut.out hK _ _ ?_ (fun hHeld => ?_)
  · skip
    first | exact (Below.refl _ _).drew | exact below_chain hHeld hbd
  clear hK K
  try simp only [Act.put, List.setIfInBounds_toArray, List.set_cons_zero, List.set_cons_succ]
  refine cZ25_28 (fun K hK => ?_)
  rw [if_pos (by rfl)]
  unfold qZ25_28
  go_simp
  refine (EF2.out _ hHeld).mono ?_
  rintro e wk3 ⟨rfl, hbd⟩
  refine Shut.out hK _ _ ?_ (fun hHeld => ?_)
  · skip
    first | exact (Below.refl _ _).drew | exact below_chain hHeld hbd
  clear hK K
  try simp only [Act.put, List.setIfInBounds_toArray, List.set_cons_zero, List.set_cons_succ]
  refine tZ25_29 (.bool true) (fun _ _ _ h => h) (Or.inl ⟨by rfl, fun W hSw => ?_⟩) hHeld ?_
  · skip
    unfold qZ25_29
    go_simp
  try simp only [Act.put, List.setIfInBounds_toArray, List.set_cons_zero, List.set_cons_succ]
  refine tZ25_30 (.bool true) (fun _ _ _ h => h) (Or.inl ⟨by rfl, fun W hSw => ?_⟩) hHeld ?_
  · skip
    unfold qZ25_30
    go_simp
  try simp only [Act.put, List.setIfInBounds_toArray, List.set_cons_zero, List.set_cons_succ]
  refine tZ25_31 (.bool true) (fun _ _ _ h => h) (Or.inl ⟨by rfl, fun W hSw => ?_⟩) hHeld ?_
  · skip
    unfold qZ25_31
    go_simp
  try simp only [Act.put, List.setIfInBounds_toArray, List.set_cons_zero, List.set_cons_succ]
  refine tZ25_32 (.agg #[.int .i64 pG, .slice AG nG cG, .int .i64 aG, .int .i64 bG, .int .i64 sG, .int .i64 gG]) (fun _ _ _ h => h) (Or.inl ⟨by rfl, fun W hSw => ?_⟩) hHeld ?_
  · skip
    unfold qZ25_32
    have l0 : W.cell? ⟨gGB, 0, none⟩ = some (.int .i64 pG) := by rw [(GB_K.out.below hSw).cell]; rfl
    have l1 : W.cell? ⟨gGB, 1, none⟩ = some (.slice AG nG cG) := by rw [(GB_K.out.below hSw).cell]; rfl
    have l2 : W.cell? ⟨gGB, 2, none⟩ = some (.int .i64 aG) := by rw [(GB_K.out.below hSw).cell]; rfl
    have l3 : W.cell? ⟨gGB, 3, none⟩ = some (.int .i64 bG) := by rw [(GB_K.out.below hSw).cell]; rfl
    have l4 : W.cell? ⟨gGB, 4, none⟩ = some (.int .i64 sG) := by rw [(GB_K.out.below hSw).cell]; rfl
    have l5 : W.cell? ⟨gGB, 5, none⟩ = some (.int .i64 gG) := by rw [(GB_K.out.below hSw).cell]; rfl
    go_simp
  try simp only [Act.put, List.setIfInBounds_toArray, List.set_cons_zero, List.set_cons_succ]
  refine tZ25_33 (.agg #[.int .i64 pH, .slice AH nH cH, .int .i64 aH, .int .i64 bH, .int .i64 sH, .int .i64 gH]) (fun _ _ _ h => h) (Or.inl ⟨by rfl, fun W hSw => ?_⟩) hHeld ?_
  · skip
    unfold qZ25_33
    have l0 : W.cell? ⟨gHB, 0, none⟩ = some (.int .i64 pH) := by rw [(HB_K.out.below hSw).cell]; rfl
    have l1 : W.cell? ⟨gHB, 1, none⟩ = some (.slice AH nH cH) := by rw [(HB_K.out.below hSw).cell]; rfl
    have l2 : W.cell? ⟨gHB, 2, none⟩ = some (.int .i64 aH) := by rw [(HB_K.out.below hSw).cell]; rfl
    have l3 : W.cell? ⟨gHB, 3, none⟩ = some (.int .i64 bH) := by rw [(HB_K.out.below hSw).cell]; rfl
    have l4 : W.cell? ⟨gHB, 4, none⟩ = some (.int .i64 sH) := by rw [(HB_K.out.below hSw).cell]; rfl
    have l5 : W.cell? ⟨gHB, 5, none⟩ = some (.int .i64 gH) := by rw [(HB_K.out.below hSw).cell]; rfl
    go_simp
  try simp only [Act.put, List.setIfInBounds_toArray, List.set_cons_zero, List.set_cons_succ]
  refine tZ25_34 (.agg #[.int .i64 pG, .slice AG nG cG, .int .i64 aG, .int .i64 bG, .int .i64 sG, .int .i64 gG]) (fun _ _ _ h => h) (Or.inl ⟨by rfl, fun W hSw => ?_⟩) hHeld ?_
  · skip
    unfold qZ25_35
    have l0 : W.cell? ⟨gGB, 0, none⟩ = some (.int .i64 pG) := by rw [(GB_K.out.below hSw).cell]; rfl
    have l1 : W.cell? ⟨gGB, 1, none⟩ = some (.slice AG nG cG) := by rw [(GB_K.out.below hSw).cell]; rfl
    have l2 : W.cell? ⟨gGB, 2, none⟩ = some (.int .i64 aG) := by rw [(GB_K.out.below hSw).cell]; rfl
    have l3 : W.cell? ⟨gGB, 3, none⟩ = some (.int .i64 bG) := by rw [(GB_K.out.below hSw).cell]; rfl
    have l4 : W.cell? ⟨gGB, 4, none⟩ = some (.int .i64 sG) := by rw [(GB_K.out.below hSw).cell]; rfl
    have l5 : W.cell? ⟨gGB, 5, none⟩ = some (.int .i64 gG) := by rw [(GB_K.out.below hSw).cell]; rfl
    go_simp
  try simp only [Act.put, List.setIfInBounds_toArray, List.set_cons_zero, List.set_cons_succ]
  refine tZ25_35 (.agg #[.int .i64 pH, .slice AH nH cH, .int .i64 aH, .int .i64 bH, .int .i64 sH, .int .i64 gH]) (fun _ _ _ h => h) (Or.inl ⟨by rfl, fun W hSw => ?_⟩) hHeld ?_
  · skip
    unfold qZ25_36
    have l0 : W.cell? ⟨gHB, 0, none⟩ = some (.int .i64 pH) := by rw [(HB_K.out.below hSw).cell]; rfl
    have l1 : W.cell? ⟨gHB, 1, none⟩ = some (.slice AH nH cH) := by rw [(HB_K.out.below hSw).cell]; rfl
    have l2 : W.cell? ⟨gHB, 2, none⟩ = some (.int .i64 aH) := by rw [(HB_K.out.below hSw).cell]; rfl
    have l3 : W.cell? ⟨gHB, 3, none⟩ = some (.int .i64 bH) := by rw [(HB_K.out.below hSw).cell]; rfl
    have l4 : W.cell? ⟨gHB, 4, none⟩ = some (.int .i64 sH) := by rw [(HB_K.out.below hSw).cell]; rfl
    have l5 : W.cell? ⟨gHB, 5, none⟩ = some (.int .i64 gH) := by rw [(HB_K.out.below hSw).cell]; rfl
    go_simp
  try simp only [Act.put, List.setIfInBounds_toArray, List.set_cons_zero, List.set_cons_succ]
  refine cZ25_36 (fun K hK => ?_)
  rw [if_pos (by rfl)]
  unfold qZ25_34
  go_simp
  refine (EM1.out _ hHeld).mono ?_
  rintro e wk4 ⟨rfl, hbd⟩
  refine Shut.out hK _ _ ?_ (fun hHeld => ?_)
  · skip
    first | exact (Below.refl _ _).drew | exact below_chain hHeld hbd
  clear hK K
  try simp only [Act.put, List.setIfInBounds_toArray, List.set_cons_zero, List.set_cons_succ]
  refine cZ25_37 (fun K hK => ?_)
  rw [if_pos (by rfl)]
  unfold qZ25_37
  go_simp
  refine (EM2.out _ hHeld).mono ?_
  rintro e wk5 ⟨rfl, hbd⟩
  refine Shut.out hK _ _ ?_ (fun hHeld => ?_)
  · skip
    first | exact (Below.refl _ _).drew | exact below_chain hHeld hbd
  clear hK K
  try simp only [Act.put, List.setIfInBounds_toArray, List.set_cons_zero, List.set_cons_succ]
  refine tZ25_38 (.bool true) (fun _ _ _ h => h) (Or.inl ⟨by rfl, fun W hSw => ?_⟩) hHeld ?_
  · skip
    unfold qZ25_38
    go_simp
  try simp only [Act.put, List.setIfInBounds_toArray, List.set_cons_zero, List.set_cons_succ]
  refine tZ25_39 (.bool true) (fun _ _ _ h => h) (Or.inl ⟨by rfl, fun W hSw => ?_⟩) hHeld ?_
  · skip
    unfold qZ25_39
    go_simp
  try simp only [Act.put, List.setIfInBounds_toArray, List.set_cons_zero, List.set_cons_succ]
  refine tZ25_40 (.bool true) (fun _ _ _ h => h) (Or.inl ⟨by rfl, fun W hSw => ?_⟩) hHeld ?_
  · skip
    unfold qZ25_40
    go_simp
  try simp only [Act.put, List.setIfInBounds_toArray, List.set_cons_zero, List.set_cons_succ]
  refine tZ25_41 (.bool false) (fun _ _ _ h => h) (Or.inl ⟨by rfl, fun W hSw => ?_⟩) hHeld ?_
  · skip
    unfold qZ25_41
    go_simp
  try simp only [Act.put, List.setIfInBounds_toArray, List.set_cons_zero, List.set_cons_succ]
  refine tZ25_42 (.bool true) (fun _ _ _ h => h) (Or.inl ⟨by rfl, fun W hSw => ?_⟩) hHeld ?_
  · skip
    unfold qZ25_42
    go_simp
  try simp only [Act.put, List.setIfInBounds_toArray, List.set_cons_zero, List.set_cons_succ]
  refine tZ25_43 (.bool true) (fun _ _ _ h => h) (Or.inl ⟨by rfl, fun W hSw => ?_⟩) hHeld ?_
  · skip
    unfold qZ25_43
    go_simp
  try simp only [Act.put, List.setIfInBounds_toArray, List.set_cons_zero, List.set_cons_succ]
  refine tZ25_44 (.bool true) (fun _ _ _ h => h) (Or.inl ⟨by rfl, fun W hSw => ?_⟩) hHeld ?_
  · skip
    unfold qZ25_44
    go_simp
  try simp only [Act.put, List.setIfInBounds_toArray, List.set_cons_zero, List.set_cons_succ]
  refine tZ25_45 (.agg #[.int .i64 y, .int .i64 y, .int .i64 y, .int .i64 y, .int .i64 y]) (fun _ _ _ h => h) (Or.inl ⟨by rfl, fun W hSw => ?_⟩) hHeld ?_
  · skip
    unfold qZ25_45
    have l0 : W.cell? ⟨gBK, 0, none⟩ = some (.int .i64 y) := by rw [(BK_K.out.below hSw).cell]; rfl
    have l1 : W.cell? ⟨gBK, 1, none⟩ = some (.int .i64 y) := by rw [(BK_K.out.below hSw).cell]; rfl
    have l2 : W.cell? ⟨gBK, 2, none⟩ = some (.int .i64 y) := by rw [(BK_K.out.below hSw).cell]; rfl
    have l3 : W.cell? ⟨gBK, 3, none⟩ = some (.int .i64 y) := by rw [(BK_K.out.below hSw).cell]; rfl
    have l4 : W.cell? ⟨gBK, 4, none⟩ = some (.int .i64 y) := by rw [(BK_K.out.below hSw).cell]; rfl
    go_simp
  try simp only [Act.put, List.setIfInBounds_toArray, List.set_cons_zero, List.set_cons_succ]
  refine tZ25_46 (.agg #[.int .i64 0, .int .i64 0, .int .i64 0, .int .i64 0, .int .i64 0]) (fun _ _ _ h => h) (Or.inl ⟨by rfl, fun W hSw => ?_⟩) hHeld ?_
  · skip
    unfold qZ25_46
    go_simp
  try simp only [Act.put, List.setIfInBounds_toArray, List.set_cons_zero, List.set_cons_succ]
  refine tZ25_47 (.bool true) (fun _ _ _ h => h) (Or.inl ⟨by rfl, fun W hSw => ?_⟩) hHeld ?_
  · skip
    unfold qZ25_47
    have hy := HY.out
    subst hy
    go_simp
  try simp only [Act.put, List.setIfInBounds_toArray, List.set_cons_zero, List.set_cons_succ]
  refine tZ25_48 (.bool true) (fun _ _ _ h => h) (Or.inl ⟨by rfl, fun W hSw => ?_⟩) hHeld ?_
  · skip
    unfold qZ25_48
    go_simp
  try simp only [Act.put, List.setIfInBounds_toArray, List.set_cons_zero, List.set_cons_succ]
  refine tZ25_49 (.bool true) (fun _ _ _ h => h) (Or.inl ⟨by rfl, fun W hSw => ?_⟩) hHeld ?_
  · skip
    unfold qZ25_49
    go_simp
  try simp only [Act.put, List.setIfInBounds_toArray, List.set_cons_zero, List.set_cons_succ]
  refine tZ25_50 (.pointer (some ⟨gTW, 1, none⟩)) (fun _ _ _ h => h) (Or.inl ⟨by rfl, fun W hSw => ?_⟩) hHeld ?_
  · skip
    unfold qZ25_50
    go_simp
  try simp only [Act.put, List.setIfInBounds_toArray, List.set_cons_zero, List.set_cons_succ]
  refine tZ25_51 (.slice A8 2 c8) (fun _ _ _ h => h) (Or.inl ⟨by rfl, fun W hSw => ?_⟩) hHeld ?_
  · skip
    unfold qZ25_51
    have l1 : W.cell? ⟨gTW, 1, none⟩ = some (.slice A8 2 c8) := by rw [(TW_K.out.below hSw).cell]; rfl
    go_simp
  try simp only [Act.put, List.setIfInBounds_toArray, List.set_cons_zero, List.set_cons_succ]
  refine tZ25_52 (.int .i64 2) (fun _ _ _ h => h) (Or.inl ⟨by rfl, fun W hSw => ?_⟩) hHeld ?_
  · skip
    unfold qZ25_52
    go_simp
  try simp only [Act.put, List.setIfInBounds_toArray, List.set_cons_zero, List.set_cons_succ]
  refine tZ25_53 (.bool true) (fun _ _ _ h => h) (Or.inl ⟨by rfl, fun W hSw => ?_⟩) hHeld ?_
  · skip
    unfold qZ25_53
    go_simp
  try simp only [Act.put, List.setIfInBounds_toArray, List.set_cons_zero, List.set_cons_succ]
  refine tZ25_54 (.bool true) (fun _ _ _ h => h) (Or.inl ⟨by rfl, fun W hSw => ?_⟩) hHeld ?_
  · skip
    unfold qZ25_54
    go_simp
  try simp only [Act.put, List.setIfInBounds_toArray, List.set_cons_zero, List.set_cons_succ]
  refine tZ25_55 (.bool true) (fun _ _ _ h => h) (Or.inl ⟨by rfl, fun W hSw => ?_⟩) hHeld ?_
  · skip
    unfold qZ25_55
    go_simp
  try simp only [Act.put, List.setIfInBounds_toArray, List.set_cons_zero, List.set_cons_succ]
  have hEnd := hHeld
  refine wpAnyH_done (by kernel_rfl) ?_ _
  have hK := KK.out
  clear hHeld
  go_wp2_with fail
  go_ret
  exact ⟨rfl, below_chain HB.out hEnd⟩
end Go.Proofs.Ythkkleicekhelaa.fnLinks

namespace Go.Proofs.Ythkkleicekhelaa.fnLinks
open Go.RowKit Go.Proofs.Ythkkleicekhelaa.hexes

set_option maxRecDepth 1000000 in
set_option maxHeartbeats 16000000 in
theorem tailF {K : Act → World → Prop} {Q' : Exit → Act → World → Prop} (w V : World) (y eF pL aL bL sL gL pF aF bF sF gF pG aG bG sG gG pH aH bH sH gH ax sx : Int) (AL AF AG AH A1 A8 : Option Addr) (nL cL nF cF nG cG nH cH c1 c8 m fl gL1 gL0 gAB gGB gHB gBK gTW : Nat) (sm : Bool) (s0 s1 s2 s4 s7 s8 s9 s10 s11 s12 s13 s14 s15 s16 s17 s18 s19 s20 s25 s26 s27 s29 s30 s32 s34 s35 s36 s37 s38 s39 s40 s41 s42 s43 s44 s45 s46 s47 s48 s49 s50 s51 s52 s53 s54 s55 s56 s57 s58 s59 s60 s61 s62 s63 s64 s65 s66 s67 s68 s69 s70 s71 s72 s73 s74 s75 s76 s77 s78 s79 s80 s81 s82 s83 s84 s85 s86 s87 s88 s89 s90 s91 s92 s93 s94 s95 s96 s97 s98 s99 s100 s101 s102 s103 s104 s105 s106 s107 s108 s109 s110 s111 s112 s113 s114 s115 s116 s117 s118 s119 s120 s121 s122 s123 s124 s125 s126 s127 s128 s129 s130 s131 s132 s133 s134 s135 s136 s137 s138 s139 s140 s141 s142 s143 s144 s145 s146 s147 s148 s149 s150 s151 s152 s153 s154 s155 s156 s157 s158 s159 s160 s161 s162 s163 s164 s165 s166 s167 s168 s169 s170 s171 s172 s173 s174 s175 s176 s177 s178 s179 s180 s181 s182 s183 s184 s185 s186 s187 s188 s189 s190 s191 s192 s193 s194 s195 s196 s197 s198 s199 s200 s201 s202 s203 s204 s205 s206 s207 s208 s209 s210 s211 s212 s213 s214 s215 s216 s217 s218 s219 s220 s221 s222 s223 s224 s225 s226 s227 s228 s229 s230 s231 s232 s233 s234 : Value)
    (EX0 : ∀ W, Below V.heap.size V W → Calls Try.prog 13 #[.agg #[.int .i64 pL, .slice A1 m c1, .int .i64 ax, .int .i64 bL, .int .i64 sx, .int .i64 gL], .agg #[.int .i64 pL, .slice AL nL cL, .int .i64 aL, .int .i64 bL, .int .i64 sL, .int .i64 gL]] W fun e w' => e = .returned (.bool true) ∧ Below W.heap.size W w')
    (E00 : ∀ W, Below V.heap.size V W → Calls Try.prog 25 #[.agg #[.int .i64 pF, .slice AF nF cF, .int .i64 aF, .int .i64 bF, .int .i64 sF, .int .i64 gF], .int .i64 eF] W fun e w' => e = .returned (.int .i64 (fl : Int)) ∧ Below W.heap.size W w')
    (E10 : ∀ W, Below V.heap.size V W → Calls Try.prog 26 #[.agg #[.int .i64 pF, .slice AF nF cF, .int .i64 aF, .int .i64 bF, .int .i64 sF, .int .i64 gF], .int .i64 eF] W fun e w' => e = .returned (.int .i64 (fl : Int)) ∧ Below W.heap.size W w')
    (E20 : ∀ W, Below V.heap.size V W → Calls Try.prog 27 #[.agg #[.int .i64 pG, .slice AG nG cG, .int .i64 aG, .int .i64 bG, .int .i64 sG, .int .i64 gG], .agg #[.int .i64 pH, .slice AH nH cH, .int .i64 aH, .int .i64 bH, .int .i64 sH, .int .i64 gH]] W fun e w' => e = .returned (.bool sm) ∧ Below W.heap.size W w')
    (E30 : ∀ W, Below V.heap.size V W → Calls Try.prog 13 #[.agg #[.int .i64 pG, .slice AG nG cG, .int .i64 aG, .int .i64 bG, .int .i64 sG, .int .i64 gG], .agg #[.int .i64 pH, .slice AH nH cH, .int .i64 aH, .int .i64 bH, .int .i64 sH, .int .i64 gH]] W fun e w' => e = .returned (.bool sm) ∧ Below W.heap.size W w')
    (kL1 : Blk V gL1 26 #[.int .i64 pL, .slice A1 m c1, .int .i64 ax, .int .i64 bL, .int .i64 sx, .int .i64 gL])
    (kL0 : Blk V gL0 26 #[.int .i64 pL, .slice AL nL cL, .int .i64 aL, .int .i64 bL, .int .i64 sL, .int .i64 gL])
    (kAB : Blk V gAB 26 #[.int .i64 pF, .slice AF nF cF, .int .i64 aF, .int .i64 bF, .int .i64 sF, .int .i64 gF])
    (kGB : Blk V gGB 26 #[.int .i64 pG, .slice AG nG cG, .int .i64 aG, .int .i64 bG, .int .i64 sG, .int .i64 gG])
    (kHB : Blk V gHB 26 #[.int .i64 pH, .slice AH nH cH, .int .i64 aH, .int .i64 bH, .int .i64 sH, .int .i64 gH])
    (kBK : Blk V gBK 30 #[.int .i64 y, .int .i64 y, .int .i64 y, .int .i64 y, .int .i64 y])
    (kTW : Blk V gTW 26 #[.int .i64 2, .slice A8 2 c8, .int .i64 y, .int .i64 y, .int .i64 2, .int .i64 y])
    (hy0 : y = 0)
    (hB : Below w.heap.size w V)
    (hQ : Q' = bodyPost Try.prog Try.f3 fun e w' => e = .returned (.bool true) ∧ Below w.heap.size w w')
    (hK : ∀ (a : Act) (w : World), Code.wp Try.prog Code.ret Q' a w → K a w) :
    Code.wp Try.prog (.region 25 opsZ25 true) (Exit.then K Q') ⟨#[s0, s1, s2, .pointer (some ⟨gL0, 0, none⟩), s4, .pointer (some ⟨gL1, 0, none⟩), .bool false, s7, s8, s9, s10, s11, s12, s13, s14, s15, s16, s17, s18, s19, s20, .pointer (some ⟨gAB, 0, none⟩), .int .i64 eF, .pointer (some ⟨gGB, 0, none⟩), .pointer (some ⟨gHB, 0, none⟩), s25, s26, s27, .pointer (some ⟨gTW, 0, none⟩), s29, s30, .bool false, s32, .pointer (some ⟨gBK, 0, none⟩), s34, s35, s36, s37, s38, s39, s40, s41, s42, s43, s44, s45, s46, s47, s48, s49, s50, s51, s52, s53, s54, s55, s56, s57, s58, s59, s60, s61, s62, s63, s64, s65, s66, s67, s68, s69, s70, s71, s72, s73, s74, s75, s76, s77, s78, s79, s80, s81, s82, s83, s84, s85, s86, s87, s88, s89, s90, s91, s92, s93, s94, s95, s96, s97, s98, s99, s100, s101, s102, s103, s104, s105, s106, s107, s108, s109, s110, s111, s112, s113, s114, s115, s116, s117, s118, s119, s120, s121, s122, s123, s124, s125, s126, s127, s128, s129, s130, s131, s132, s133, s134, s135, s136, s137, s138, s139, s140, s141, s142, s143, s144, s145, s146, s147, s148, s149, s150, s151, s152, s153, s154, s155, s156, s157, s158, s159, s160, s161, s162, s163, s164, s165, s166, s167, s168, s169, s170, s171, s172, s173, s174, s175, s176, s177, s178, s179, s180, s181, s182, s183, s184, s185, s186, s187, s188, s189, s190, s191, s192, s193, s194, s195, s196, s197, s198, s199, s200, s201, s202, s203, s204, s205, s206, s207, s208, s209, s210, s211, s212, s213, s214, s215, s216, s217, s218, s219, s220, s221, s222, s223, s224, s225, s226, s227, s228, s229, s230, s231, s232, s233, s234], []⟩ V := by
  have EX := Lib.hid EX0
  have EF1 := Lib.hid E00
  have EF2 := Lib.hid E10
  have EM1 := Lib.hid E20
  have EM2 := Lib.hid E30
  have L1_K := Lib.hid kL1
  have L0_K := Lib.hid kL0
  have AB_K := Lib.hid kAB
  have GB_K := Lib.hid kGB
  have HB_K := Lib.hid kHB
  have BK_K := Lib.hid kBK
  have TW_K := Lib.hid kTW
  have HY := Lib.hid hy0
  have HB := Lib.hid hB
  subst hQ
  have KK := Lib.hid hK
  have dsm : (sm == sm) = true := by simp
  clear hK hB hy0 EX0 E00 E10 E20 E30 kL1 kL0 kAB kGB kHB kBK kTW
  refine wp_region_held_drew (S := fun w' => Below V.heap.size V w') (by kernel_rfl) ?_ (fun hHeld => ?_)
  · skip
    first | exact (Below.refl _ _).drew | exact below_chain hHeld hbd
  change wpAnyH _ _ opsZ25 _ _ 56 (LZ25 0) _ _
  refine tZ25_0 (.bool false) (fun _ _ _ h => h) (Or.inl ⟨by rfl, fun W hSw => ?_⟩) hHeld ?_
  · skip
    unfold qZ25_0
    go_simp
  try simp only [Act.put, List.setIfInBounds_toArray, List.set_cons_zero, List.set_cons_succ]
  refine tZ25_1 (.bool true) (fun _ _ _ h => h) (Or.inl ⟨by rfl, fun W hSw => ?_⟩) hHeld ?_
  · skip
    unfold qZ25_1
    go_simp
  try simp only [Act.put, List.setIfInBounds_toArray, List.set_cons_zero, List.set_cons_succ]
  refine tZ25_2 (.bool true) (fun _ _ _ h => h) (Or.inl ⟨by rfl, fun W hSw => ?_⟩) hHeld ?_
  · skip
    unfold qZ25_2
    go_simp
  try simp only [Act.put, List.setIfInBounds_toArray, List.set_cons_zero, List.set_cons_succ]
  refine tZ25_3 undef (fun _ _ _ h => h) (Or.inr ⟨by rfl, rfl⟩) hHeld ?_
  try simp only [Act.put, List.setIfInBounds_toArray, List.set_cons_zero, List.set_cons_succ]
  refine tZ25_4 undef (fun _ _ _ h => h) (Or.inr ⟨by rfl, rfl⟩) hHeld ?_
  try simp only [Act.put, List.setIfInBounds_toArray, List.set_cons_zero, List.set_cons_succ]
  refine tZ25_5 undef (fun _ _ _ h => h) (Or.inr ⟨by rfl, rfl⟩) hHeld ?_
  try simp only [Act.put, List.setIfInBounds_toArray, List.set_cons_zero, List.set_cons_succ]
  refine tZ25_6 undef (fun _ _ _ h => h) (Or.inr ⟨by rfl, rfl⟩) hHeld ?_
  try simp only [Act.put, List.setIfInBounds_toArray, List.set_cons_zero, List.set_cons_succ]
  refine tZ25_7 undef (fun _ _ _ h => h) (Or.inr ⟨by rfl, rfl⟩) hHeld ?_
  try simp only [Act.put, List.setIfInBounds_toArray, List.set_cons_zero, List.set_cons_succ]
  refine tZ25_8 undef (fun _ _ _ h => h) (Or.inr ⟨by rfl, rfl⟩) hHeld ?_
  try simp only [Act.put, List.setIfInBounds_toArray, List.set_cons_zero, List.set_cons_succ]
  refine tZ25_9 undef (fun _ _ _ h => h) (Or.inr ⟨by rfl, rfl⟩) hHeld ?_
  try simp only [Act.put, List.setIfInBounds_toArray, List.set_cons_zero, List.set_cons_succ]
  refine tZ25_10 undef (fun _ _ _ h => h) (Or.inr ⟨by rfl, rfl⟩) hHeld ?_
  try simp only [Act.put, List.setIfInBounds_toArray, List.set_cons_zero, List.set_cons_succ]
  refine tZ25_11 undef (fun _ _ _ h => h) (Or.inr ⟨by rfl, rfl⟩) hHeld ?_
  try simp only [Act.put, List.setIfInBounds_toArray, List.set_cons_zero, List.set_cons_succ]
  refine tZ25_12 undef (fun _ _ _ h => h) (Or.inr ⟨by rfl, rfl⟩) hHeld ?_
  try simp only [Act.put, List.setIfInBounds_toArray, List.set_cons_zero, List.set_cons_succ]
  refine tZ25_13 (Value.bool true) (fun _ _ _ h => h) (Or.inl ⟨by rfl, fun W hSw => ?_⟩) hHeld ?_
  · skip
    unfold qZ25_13
    go_simp
  try simp only [Act.put, List.setIfInBounds_toArray, List.set_cons_zero, List.set_cons_succ]
  refine tZ25_14 (Value.bool true) (fun _ _ _ h => h) (Or.inl ⟨by rfl, fun W hSw => ?_⟩) hHeld ?_
  · skip
    unfold qZ25_14
    go_simp
  try simp only [Act.put, List.setIfInBounds_toArray, List.set_cons_zero, List.set_cons_succ]
  refine tZ25_15 (.bool false) (fun _ _ _ h => h) (Or.inl ⟨by rfl, fun W hSw => ?_⟩) hHeld ?_
  · skip
    unfold qZ25_15
    go_simp
  try simp only [Act.put, List.setIfInBounds_toArray, List.set_cons_zero, List.set_cons_succ]
  refine tZ25_16 (.bool false) (fun _ _ _ h => h) (Or.inl ⟨by rfl, fun W hSw => ?_⟩) hHeld ?_
  · skip
    unfold qZ25_16
    go_simp
  try simp only [Act.put, List.setIfInBounds_toArray, List.set_cons_zero, List.set_cons_succ]
  refine tZ25_17 (.agg #[.int .i64 pL, .slice A1 m c1, .int .i64 ax, .int .i64 bL, .int .i64 sx, .int .i64 gL]) (fun _ _ _ h => h) (Or.inl ⟨by rfl, fun W hSw => ?_⟩) hHeld ?_
  · skip
    unfold qZ25_17
    have l0 : W.cell? ⟨gL1, 0, none⟩ = some (.int .i64 pL) := by rw [(L1_K.out.below hSw).cell]; rfl
    have l1 : W.cell? ⟨gL1, 1, none⟩ = some (.slice A1 m c1) := by rw [(L1_K.out.below hSw).cell]; rfl
    have l2 : W.cell? ⟨gL1, 2, none⟩ = some (.int .i64 ax) := by rw [(L1_K.out.below hSw).cell]; rfl
    have l3 : W.cell? ⟨gL1, 3, none⟩ = some (.int .i64 bL) := by rw [(L1_K.out.below hSw).cell]; rfl
    have l4 : W.cell? ⟨gL1, 4, none⟩ = some (.int .i64 sx) := by rw [(L1_K.out.below hSw).cell]; rfl
    have l5 : W.cell? ⟨gL1, 5, none⟩ = some (.int .i64 gL) := by rw [(L1_K.out.below hSw).cell]; rfl
    go_simp
  try simp only [Act.put, List.setIfInBounds_toArray, List.set_cons_zero, List.set_cons_succ]
  refine tZ25_18 (.agg #[.int .i64 pL, .slice AL nL cL, .int .i64 aL, .int .i64 bL, .int .i64 sL, .int .i64 gL]) (fun _ _ _ h => h) (Or.inl ⟨by rfl, fun W hSw => ?_⟩) hHeld ?_
  · skip
    unfold qZ25_18
    have l0 : W.cell? ⟨gL0, 0, none⟩ = some (.int .i64 pL) := by rw [(L0_K.out.below hSw).cell]; rfl
    have l1 : W.cell? ⟨gL0, 1, none⟩ = some (.slice AL nL cL) := by rw [(L0_K.out.below hSw).cell]; rfl
    have l2 : W.cell? ⟨gL0, 2, none⟩ = some (.int .i64 aL) := by rw [(L0_K.out.below hSw).cell]; rfl
    have l3 : W.cell? ⟨gL0, 3, none⟩ = some (.int .i64 bL) := by rw [(L0_K.out.below hSw).cell]; rfl
    have l4 : W.cell? ⟨gL0, 4, none⟩ = some (.int .i64 sL) := by rw [(L0_K.out.below hSw).cell]; rfl
    have l5 : W.cell? ⟨gL0, 5, none⟩ = some (.int .i64 gL) := by rw [(L0_K.out.below hSw).cell]; rfl
    go_simp
  try simp only [Act.put, List.setIfInBounds_toArray, List.set_cons_zero, List.set_cons_succ]
  refine cZ25_19 (fun K hK => ?_)
  rw [if_pos (by rfl)]
  unfold qZ25_19
  go_simp
  refine (EX.out _ hHeld).mono ?_
  rintro e wk1 ⟨rfl, hbd⟩
  refine Shut.out hK _ _ ?_ (fun hHeld => ?_)
  · skip
    first | exact (Below.refl _ _).drew | exact below_chain hHeld hbd
  clear hK K
  try simp only [Act.put, List.setIfInBounds_toArray, List.set_cons_zero, List.set_cons_succ]
  refine tZ25_20 (.bool true) (fun _ _ _ h => h) (Or.inl ⟨by rfl, fun W hSw => ?_⟩) hHeld ?_
  · skip
    unfold qZ25_20
    go_simp
  try simp only [Act.put, List.setIfInBounds_toArray, List.set_cons_zero, List.set_cons_succ]
  refine tZ25_21 (.bool true) (fun _ _ _ h => h) (Or.inl ⟨by rfl, fun W hSw => ?_⟩) hHeld ?_
  · skip
    unfold qZ25_21
    go_simp
  try simp only [Act.put, List.setIfInBounds_toArray, List.set_cons_zero, List.set_cons_succ]
  refine tZ25_22 (.bool true) (fun _ _ _ h => h) (Or.inl ⟨by rfl, fun W hSw => ?_⟩) hHeld ?_
  · skip
    unfold qZ25_22
    go_simp
  try simp only [Act.put, List.setIfInBounds_toArray, List.set_cons_zero, List.set_cons_succ]
  refine tZ25_23 (.agg #[.int .i64 pF, .slice AF nF cF, .int .i64 aF, .int .i64 bF, .int .i64 sF, .int .i64 gF]) (fun _ _ _ h => h) (Or.inl ⟨by rfl, fun W hSw => ?_⟩) hHeld ?_
  · skip
    unfold qZ25_23
    have l0 : W.cell? ⟨gAB, 0, none⟩ = some (.int .i64 pF) := by rw [(AB_K.out.below hSw).cell]; rfl
    have l1 : W.cell? ⟨gAB, 1, none⟩ = some (.slice AF nF cF) := by rw [(AB_K.out.below hSw).cell]; rfl
    have l2 : W.cell? ⟨gAB, 2, none⟩ = some (.int .i64 aF) := by rw [(AB_K.out.below hSw).cell]; rfl
    have l3 : W.cell? ⟨gAB, 3, none⟩ = some (.int .i64 bF) := by rw [(AB_K.out.below hSw).cell]; rfl
    have l4 : W.cell? ⟨gAB, 4, none⟩ = some (.int .i64 sF) := by rw [(AB_K.out.below hSw).cell]; rfl
    have l5 : W.cell? ⟨gAB, 5, none⟩ = some (.int .i64 gF) := by rw [(AB_K.out.below hSw).cell]; rfl
    go_simp
  try simp only [Act.put, List.setIfInBounds_toArray, List.set_cons_zero, List.set_cons_succ]
  refine tZ25_24 (.int .i64 eF) (fun _ _ _ h => h) (Or.inl ⟨by rfl, fun W hSw => ?_⟩) hHeld ?_
  · skip
    unfold qZ25_24
    go_simp
  try simp only [Act.put, List.setIfInBounds_toArray, List.set_cons_zero, List.set_cons_succ]
  refine tZ25_25 (.agg #[.int .i64 pF, .slice AF nF cF, .int .i64 aF, .int .i64 bF, .int .i64 sF, .int .i64 gF]) (fun _ _ _ h => h) (Or.inl ⟨by rfl, fun W hSw => ?_⟩) hHeld ?_
  · skip
    unfold qZ25_26
    have l0 : W.cell? ⟨gAB, 0, none⟩ = some (.int .i64 pF) := by rw [(AB_K.out.below hSw).cell]; rfl
    have l1 : W.cell? ⟨gAB, 1, none⟩ = some (.slice AF nF cF) := by rw [(AB_K.out.below hSw).cell]; rfl
    have l2 : W.cell? ⟨gAB, 2, none⟩ = some (.int .i64 aF) := by rw [(AB_K.out.below hSw).cell]; rfl
    have l3 : W.cell? ⟨gAB, 3, none⟩ = some (.int .i64 bF) := by rw [(AB_K.out.below hSw).cell]; rfl
    have l4 : W.cell? ⟨gAB, 4, none⟩ = some (.int .i64 sF) := by rw [(AB_K.out.below hSw).cell]; rfl
    have l5 : W.cell? ⟨gAB, 5, none⟩ = some (.int .i64 gF) := by rw [(AB_K.out.below hSw).cell]; rfl
    go_simp
  try simp only [Act.put, List.setIfInBounds_toArray, List.set_cons_zero, List.set_cons_succ]
  refine tZ25_26 (.int .i64 eF) (fun _ _ _ h => h) (Or.inl ⟨by rfl, fun W hSw => ?_⟩) hHeld ?_
  · skip
    unfold qZ25_27
    go_simp
  try simp only [Act.put, List.setIfInBounds_toArray, List.set_cons_zero, List.set_cons_succ]
  refine cZ25_27 (fun K hK => ?_)
  rw [if_pos (by rfl)]
  unfold qZ25_25
  go_simp
  refine (EF1.out _ hHeld).mono ?_
  rintro e wk2 ⟨rfl, hbd⟩
  refine Shut.out hK _ _ ?_ (fun hHeld => ?_)
  · skip
    first | exact (Below.refl _ _).drew | exact below_chain hHeld hbd
  clear hK K
  try simp only [Act.put, List.setIfInBounds_toArray, List.set_cons_zero, List.set_cons_succ]
  refine cZ25_28 (fun K hK => ?_)
  rw [if_pos (by rfl)]
  unfold qZ25_28
  go_simp
  refine (EF2.out _ hHeld).mono ?_
  rintro e wk3 ⟨rfl, hbd⟩
  refine Shut.out hK _ _ ?_ (fun hHeld => ?_)
  · skip
    first | exact (Below.refl _ _).drew | exact below_chain hHeld hbd
  clear hK K
  try simp only [Act.put, List.setIfInBounds_toArray, List.set_cons_zero, List.set_cons_succ]
  refine tZ25_29 (.bool true) (fun _ _ _ h => h) (Or.inl ⟨by rfl, fun W hSw => ?_⟩) hHeld ?_
  · skip
    unfold qZ25_29
    go_simp
  try simp only [Act.put, List.setIfInBounds_toArray, List.set_cons_zero, List.set_cons_succ]
  refine tZ25_30 (.bool true) (fun _ _ _ h => h) (Or.inl ⟨by rfl, fun W hSw => ?_⟩) hHeld ?_
  · skip
    unfold qZ25_30
    go_simp
  try simp only [Act.put, List.setIfInBounds_toArray, List.set_cons_zero, List.set_cons_succ]
  refine tZ25_31 (.bool true) (fun _ _ _ h => h) (Or.inl ⟨by rfl, fun W hSw => ?_⟩) hHeld ?_
  · skip
    unfold qZ25_31
    go_simp
  try simp only [Act.put, List.setIfInBounds_toArray, List.set_cons_zero, List.set_cons_succ]
  refine tZ25_32 (.agg #[.int .i64 pG, .slice AG nG cG, .int .i64 aG, .int .i64 bG, .int .i64 sG, .int .i64 gG]) (fun _ _ _ h => h) (Or.inl ⟨by rfl, fun W hSw => ?_⟩) hHeld ?_
  · skip
    unfold qZ25_32
    have l0 : W.cell? ⟨gGB, 0, none⟩ = some (.int .i64 pG) := by rw [(GB_K.out.below hSw).cell]; rfl
    have l1 : W.cell? ⟨gGB, 1, none⟩ = some (.slice AG nG cG) := by rw [(GB_K.out.below hSw).cell]; rfl
    have l2 : W.cell? ⟨gGB, 2, none⟩ = some (.int .i64 aG) := by rw [(GB_K.out.below hSw).cell]; rfl
    have l3 : W.cell? ⟨gGB, 3, none⟩ = some (.int .i64 bG) := by rw [(GB_K.out.below hSw).cell]; rfl
    have l4 : W.cell? ⟨gGB, 4, none⟩ = some (.int .i64 sG) := by rw [(GB_K.out.below hSw).cell]; rfl
    have l5 : W.cell? ⟨gGB, 5, none⟩ = some (.int .i64 gG) := by rw [(GB_K.out.below hSw).cell]; rfl
    go_simp
  try simp only [Act.put, List.setIfInBounds_toArray, List.set_cons_zero, List.set_cons_succ]
  refine tZ25_33 (.agg #[.int .i64 pH, .slice AH nH cH, .int .i64 aH, .int .i64 bH, .int .i64 sH, .int .i64 gH]) (fun _ _ _ h => h) (Or.inl ⟨by rfl, fun W hSw => ?_⟩) hHeld ?_
  · skip
    unfold qZ25_33
    have l0 : W.cell? ⟨gHB, 0, none⟩ = some (.int .i64 pH) := by rw [(HB_K.out.below hSw).cell]; rfl
    have l1 : W.cell? ⟨gHB, 1, none⟩ = some (.slice AH nH cH) := by rw [(HB_K.out.below hSw).cell]; rfl
    have l2 : W.cell? ⟨gHB, 2, none⟩ = some (.int .i64 aH) := by rw [(HB_K.out.below hSw).cell]; rfl
    have l3 : W.cell? ⟨gHB, 3, none⟩ = some (.int .i64 bH) := by rw [(HB_K.out.below hSw).cell]; rfl
    have l4 : W.cell? ⟨gHB, 4, none⟩ = some (.int .i64 sH) := by rw [(HB_K.out.below hSw).cell]; rfl
    have l5 : W.cell? ⟨gHB, 5, none⟩ = some (.int .i64 gH) := by rw [(HB_K.out.below hSw).cell]; rfl
    go_simp
  try simp only [Act.put, List.setIfInBounds_toArray, List.set_cons_zero, List.set_cons_succ]
  refine tZ25_34 (.agg #[.int .i64 pG, .slice AG nG cG, .int .i64 aG, .int .i64 bG, .int .i64 sG, .int .i64 gG]) (fun _ _ _ h => h) (Or.inl ⟨by rfl, fun W hSw => ?_⟩) hHeld ?_
  · skip
    unfold qZ25_35
    have l0 : W.cell? ⟨gGB, 0, none⟩ = some (.int .i64 pG) := by rw [(GB_K.out.below hSw).cell]; rfl
    have l1 : W.cell? ⟨gGB, 1, none⟩ = some (.slice AG nG cG) := by rw [(GB_K.out.below hSw).cell]; rfl
    have l2 : W.cell? ⟨gGB, 2, none⟩ = some (.int .i64 aG) := by rw [(GB_K.out.below hSw).cell]; rfl
    have l3 : W.cell? ⟨gGB, 3, none⟩ = some (.int .i64 bG) := by rw [(GB_K.out.below hSw).cell]; rfl
    have l4 : W.cell? ⟨gGB, 4, none⟩ = some (.int .i64 sG) := by rw [(GB_K.out.below hSw).cell]; rfl
    have l5 : W.cell? ⟨gGB, 5, none⟩ = some (.int .i64 gG) := by rw [(GB_K.out.below hSw).cell]; rfl
    go_simp
  try simp only [Act.put, List.setIfInBounds_toArray, List.set_cons_zero, List.set_cons_succ]
  refine tZ25_35 (.agg #[.int .i64 pH, .slice AH nH cH, .int .i64 aH, .int .i64 bH, .int .i64 sH, .int .i64 gH]) (fun _ _ _ h => h) (Or.inl ⟨by rfl, fun W hSw => ?_⟩) hHeld ?_
  · skip
    unfold qZ25_36
    have l0 : W.cell? ⟨gHB, 0, none⟩ = some (.int .i64 pH) := by rw [(HB_K.out.below hSw).cell]; rfl
    have l1 : W.cell? ⟨gHB, 1, none⟩ = some (.slice AH nH cH) := by rw [(HB_K.out.below hSw).cell]; rfl
    have l2 : W.cell? ⟨gHB, 2, none⟩ = some (.int .i64 aH) := by rw [(HB_K.out.below hSw).cell]; rfl
    have l3 : W.cell? ⟨gHB, 3, none⟩ = some (.int .i64 bH) := by rw [(HB_K.out.below hSw).cell]; rfl
    have l4 : W.cell? ⟨gHB, 4, none⟩ = some (.int .i64 sH) := by rw [(HB_K.out.below hSw).cell]; rfl
    have l5 : W.cell? ⟨gHB, 5, none⟩ = some (.int .i64 gH) := by rw [(HB_K.out.below hSw).cell]; rfl
    go_simp
  try simp only [Act.put, List.setIfInBounds_toArray, List.set_cons_zero, List.set_cons_succ]
  refine cZ25_36 (fun K hK => ?_)
  rw [if_pos (by rfl)]
  unfold qZ25_34
  go_simp
  refine (EM1.out _ hHeld).mono ?_
  rintro e wk4 ⟨rfl, hbd⟩
  refine Shut.out hK _ _ ?_ (fun hHeld => ?_)
  · skip
    first | exact (Below.refl _ _).drew | exact below_chain hHeld hbd
  clear hK K
  try simp only [Act.put, List.setIfInBounds_toArray, List.set_cons_zero, List.set_cons_succ]
  refine cZ25_37 (fun K hK => ?_)
  rw [if_pos (by rfl)]
  unfold qZ25_37
  go_simp
  refine (EM2.out _ hHeld).mono ?_
  rintro e wk5 ⟨rfl, hbd⟩
  refine Shut.out hK _ _ ?_ (fun hHeld => ?_)
  · skip
    first | exact (Below.refl _ _).drew | exact below_chain hHeld hbd
  clear hK K
  try simp only [Act.put, List.setIfInBounds_toArray, List.set_cons_zero, List.set_cons_succ]
  refine tZ25_38 (.bool true) (fun _ _ _ h => h) (Or.inl ⟨by rfl, fun W hSw => ?_⟩) hHeld ?_
  · skip
    unfold qZ25_38
    go_simp
  try simp only [Act.put, List.setIfInBounds_toArray, List.set_cons_zero, List.set_cons_succ]
  refine tZ25_39 (.bool true) (fun _ _ _ h => h) (Or.inl ⟨by rfl, fun W hSw => ?_⟩) hHeld ?_
  · skip
    unfold qZ25_39
    go_simp
  try simp only [Act.put, List.setIfInBounds_toArray, List.set_cons_zero, List.set_cons_succ]
  refine tZ25_40 (.bool true) (fun _ _ _ h => h) (Or.inl ⟨by rfl, fun W hSw => ?_⟩) hHeld ?_
  · skip
    unfold qZ25_40
    go_simp
  try simp only [Act.put, List.setIfInBounds_toArray, List.set_cons_zero, List.set_cons_succ]
  refine tZ25_41 (.bool false) (fun _ _ _ h => h) (Or.inl ⟨by rfl, fun W hSw => ?_⟩) hHeld ?_
  · skip
    unfold qZ25_41
    go_simp
  try simp only [Act.put, List.setIfInBounds_toArray, List.set_cons_zero, List.set_cons_succ]
  refine tZ25_42 (.bool true) (fun _ _ _ h => h) (Or.inl ⟨by rfl, fun W hSw => ?_⟩) hHeld ?_
  · skip
    unfold qZ25_42
    go_simp
  try simp only [Act.put, List.setIfInBounds_toArray, List.set_cons_zero, List.set_cons_succ]
  refine tZ25_43 (.bool true) (fun _ _ _ h => h) (Or.inl ⟨by rfl, fun W hSw => ?_⟩) hHeld ?_
  · skip
    unfold qZ25_43
    go_simp
  try simp only [Act.put, List.setIfInBounds_toArray, List.set_cons_zero, List.set_cons_succ]
  refine tZ25_44 (.bool true) (fun _ _ _ h => h) (Or.inl ⟨by rfl, fun W hSw => ?_⟩) hHeld ?_
  · skip
    unfold qZ25_44
    go_simp
  try simp only [Act.put, List.setIfInBounds_toArray, List.set_cons_zero, List.set_cons_succ]
  refine tZ25_45 (.agg #[.int .i64 y, .int .i64 y, .int .i64 y, .int .i64 y, .int .i64 y]) (fun _ _ _ h => h) (Or.inl ⟨by rfl, fun W hSw => ?_⟩) hHeld ?_
  · skip
    unfold qZ25_45
    have l0 : W.cell? ⟨gBK, 0, none⟩ = some (.int .i64 y) := by rw [(BK_K.out.below hSw).cell]; rfl
    have l1 : W.cell? ⟨gBK, 1, none⟩ = some (.int .i64 y) := by rw [(BK_K.out.below hSw).cell]; rfl
    have l2 : W.cell? ⟨gBK, 2, none⟩ = some (.int .i64 y) := by rw [(BK_K.out.below hSw).cell]; rfl
    have l3 : W.cell? ⟨gBK, 3, none⟩ = some (.int .i64 y) := by rw [(BK_K.out.below hSw).cell]; rfl
    have l4 : W.cell? ⟨gBK, 4, none⟩ = some (.int .i64 y) := by rw [(BK_K.out.below hSw).cell]; rfl
    go_simp
  try simp only [Act.put, List.setIfInBounds_toArray, List.set_cons_zero, List.set_cons_succ]
  refine tZ25_46 (.agg #[.int .i64 0, .int .i64 0, .int .i64 0, .int .i64 0, .int .i64 0]) (fun _ _ _ h => h) (Or.inl ⟨by rfl, fun W hSw => ?_⟩) hHeld ?_
  · skip
    unfold qZ25_46
    go_simp
  try simp only [Act.put, List.setIfInBounds_toArray, List.set_cons_zero, List.set_cons_succ]
  refine tZ25_47 (.bool true) (fun _ _ _ h => h) (Or.inl ⟨by rfl, fun W hSw => ?_⟩) hHeld ?_
  · skip
    unfold qZ25_47
    have hy := HY.out
    subst hy
    go_simp
  try simp only [Act.put, List.setIfInBounds_toArray, List.set_cons_zero, List.set_cons_succ]
  refine tZ25_48 (.bool true) (fun _ _ _ h => h) (Or.inl ⟨by rfl, fun W hSw => ?_⟩) hHeld ?_
  · skip
    unfold qZ25_48
    go_simp
  try simp only [Act.put, List.setIfInBounds_toArray, List.set_cons_zero, List.set_cons_succ]
  refine tZ25_49 (.bool true) (fun _ _ _ h => h) (Or.inl ⟨by rfl, fun W hSw => ?_⟩) hHeld ?_
  · skip
    unfold qZ25_49
    go_simp
  try simp only [Act.put, List.setIfInBounds_toArray, List.set_cons_zero, List.set_cons_succ]
  refine tZ25_50 (.pointer (some ⟨gTW, 1, none⟩)) (fun _ _ _ h => h) (Or.inl ⟨by rfl, fun W hSw => ?_⟩) hHeld ?_
  · skip
    unfold qZ25_50
    go_simp
  try simp only [Act.put, List.setIfInBounds_toArray, List.set_cons_zero, List.set_cons_succ]
  refine tZ25_51 (.slice A8 2 c8) (fun _ _ _ h => h) (Or.inl ⟨by rfl, fun W hSw => ?_⟩) hHeld ?_
  · skip
    unfold qZ25_51
    have l1 : W.cell? ⟨gTW, 1, none⟩ = some (.slice A8 2 c8) := by rw [(TW_K.out.below hSw).cell]; rfl
    go_simp
  try simp only [Act.put, List.setIfInBounds_toArray, List.set_cons_zero, List.set_cons_succ]
  refine tZ25_52 (.int .i64 2) (fun _ _ _ h => h) (Or.inl ⟨by rfl, fun W hSw => ?_⟩) hHeld ?_
  · skip
    unfold qZ25_52
    go_simp
  try simp only [Act.put, List.setIfInBounds_toArray, List.set_cons_zero, List.set_cons_succ]
  refine tZ25_53 (.bool true) (fun _ _ _ h => h) (Or.inl ⟨by rfl, fun W hSw => ?_⟩) hHeld ?_
  · skip
    unfold qZ25_53
    go_simp
  try simp only [Act.put, List.setIfInBounds_toArray, List.set_cons_zero, List.set_cons_succ]
  refine tZ25_54 (.bool true) (fun _ _ _ h => h) (Or.inl ⟨by rfl, fun W hSw => ?_⟩) hHeld ?_
  · skip
    unfold qZ25_54
    go_simp
  try simp only [Act.put, List.setIfInBounds_toArray, List.set_cons_zero, List.set_cons_succ]
  refine tZ25_55 (.bool true) (fun _ _ _ h => h) (Or.inl ⟨by rfl, fun W hSw => ?_⟩) hHeld ?_
  · skip
    unfold qZ25_55
    go_simp
  try simp only [Act.put, List.setIfInBounds_toArray, List.set_cons_zero, List.set_cons_succ]
  have hEnd := hHeld
  refine wpAnyH_done (by kernel_rfl) ?_ _
  have hK := KK.out
  clear hHeld
  go_wp2_with fail
  go_ret
  exact ⟨rfl, below_chain HB.out hEnd⟩
end Go.Proofs.Ythkkleicekhelaa.fnLinks
