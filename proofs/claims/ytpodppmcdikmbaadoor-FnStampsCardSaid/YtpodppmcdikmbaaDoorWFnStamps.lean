/-
  The walk of FnStamps.
-/
import Derived.Test.YtpodppmcdikmbaaDoorTailTY
import Derived.Test.YtpodppmcdikmbaaDoorTailTN
import Derived.Test.YtpodppmcdikmbaaDoorTailFY
import Derived.Test.YtpodppmcdikmbaaDoorTailFN
import Derived.Test.YtpodppmcdikmbaaDoorCame
import Derived.Deep.RegionHeld3
import Derived.Deep.DeepCutAuto
namespace Go.Proofs.YtpodppmcdikmbaaDoor.fnStamps
open Go.RowKit Go.Proofs.YtpodppmcdikmbaaDoor.hexes

set_option maxRecDepth 100000 in
set_option maxHeartbeats 4000000 in
theorem walk (a0 : Option Addr) (len0 cap0 : Nat) (z0 : List Int) (w : World) (w0 : IsRow .u8 w a0 len0 cap0 z0) (hL : laidMet Tryd.prog Rows.fnStampsRow.laid w) :
    Calls Tryd.prog 3 #[.slice a0 len0 cap0] w fun e w' => e = .returned (.bool true) ∧ Below w.heap.size w w' := by
  have HT := Lib.hid (pow10_head hL.tail.tail)
  have hcame := came_of_row w0
  have HG := Lib.hid (fun W => big_any a0 len0 cap0 W)
  clear w0 hL
  by_cases h1 : 1048576 < len0
  · have hd : decide (1048576 < (len0 : Int)) = true := by simp; omega
    clear hcame
    go_enter Tryd.func3, Tryd.ntmps3
    go_wp2_with (go_at_call 5; refine (HG.out _).mono ?_; rintro e w1 ⟨rfl, rfl⟩)
    go_ret
    exact ⟨rfl, Below.refl _ _⟩
  have hd : decide (1048576 < (len0 : Int)) = false := by simp; omega
  have HC := Lib.hid hcame
  clear hcame
  go_enter Tryd.func3, Tryd.ntmps3
  go_wp2_with (go_at_call 5; refine (HG.out _).mono ?_; rintro e w1 ⟨rfl, rfl⟩)
  refine (drawLeq_any w a0 len0 cap0 (by omega) HC.out).mono ?_
  rintro e w1 ⟨x, y, u, v, hx, hy, hu, hv, rfl, hb1⟩
  obtain ⟨m0, m1, j0, j1, ny, hn, ok, L, tx, o, o2, hF⟩ := facts x y u v hx hy
  have HF := Lib.hid hF
  have B1 := Lib.hid hb1
  clear hF hb1 hx hy hu hv
  go_upto_region 4 with fail
  generalize hW : (w1.alloc _).alloc _ = W
  have c0 : W.cell? ⟨w1.heap.size, 0, none⟩ = some (.int .i64 x) := by rw [← hW]; exact alloc_keep (by simp)
  have c1 : W.cell? ⟨w1.heap.size, 1, none⟩ = some (.int .i64 y) := by rw [← hW]; exact alloc_keep (by simp)
  have c2 : W.cell? ⟨w1.heap.size + 1, 0, none⟩ = some (.int .i64 u) := by rw [← hW]; simp
  have c3 : W.cell? ⟨w1.heap.size + 1, 1, none⟩ = some (.int .i64 v) := by rw [← hW]; simp
  have bW : Below w.heap.size w W := by rw [← hW]; exact (B1.out.alloc B1.out.size _).alloc (Nat.le_trans B1.out.size (by simp)) _
  have BW := Lib.hid bW
  clear hW bW B1 HC
  go_wp2_with fail
  refine (HF.out.MM _).mono ?_
  rintro e w2 ⟨rfl, hb⟩
  have C0 := Lib.hid (alloc_keep (o := (.cells #[.int .i64 m0, .int .i64 m1] 25)) (below_keep hb c0))
  have C1 := Lib.hid (alloc_keep (o := (.cells #[.int .i64 m0, .int .i64 m1] 25)) (below_keep hb c1))
  have C2 := Lib.hid (alloc_keep (o := (.cells #[.int .i64 m0, .int .i64 m1] 25)) (below_keep hb c2))
  have C3 := Lib.hid (alloc_keep (o := (.cells #[.int .i64 m0, .int .i64 m1] 25)) (below_keep hb c3))
  have Bw2 := Lib.hid ((below_chain BW.out hb).alloc (below_chain BW.out hb).size (.cells #[.int .i64 m0, .int .i64 m1] 25))
  clear hb BW c0 c1 c2 c3
  go_upto_region 5 with fail
  generalize hWw2 : w2.alloc _ = Xw2 at *
  have c0 := C0.out
  have c1 := C1.out
  have c2 := C2.out
  have c3 := C3.out
  have dm0 : Xw2.cell? ⟨w2.heap.size, 0, none⟩ = some (.int .i64 m0) := by rw [← hWw2]; simp
  have dm1 : Xw2.cell? ⟨w2.heap.size, 1, none⟩ = some (.int .i64 m1) := by rw [← hWw2]; simp
  clear hWw2 C0 C1 C2 C3
  go_wp2_with fail
  refine (HF.out.JJ _).mono ?_
  rintro e w3 ⟨rfl, hb⟩
  have C0 := Lib.hid (alloc_keep (o := (.cells #[.int .i64 j0, .int .i64 j1] 25)) (below_keep hb c0))
  have C1 := Lib.hid (alloc_keep (o := (.cells #[.int .i64 j0, .int .i64 j1] 25)) (below_keep hb c1))
  have C2 := Lib.hid (alloc_keep (o := (.cells #[.int .i64 j0, .int .i64 j1] 25)) (below_keep hb c2))
  have C3 := Lib.hid (alloc_keep (o := (.cells #[.int .i64 j0, .int .i64 j1] 25)) (below_keep hb c3))
  have DM0 := Lib.hid (alloc_keep (o := (.cells #[.int .i64 j0, .int .i64 j1] 25)) (below_keep hb dm0))
  have DM1 := Lib.hid (alloc_keep (o := (.cells #[.int .i64 j0, .int .i64 j1] 25)) (below_keep hb dm1))
  have Bw3 := Lib.hid ((below_chain Bw2.out hb).alloc (below_chain Bw2.out hb).size (.cells #[.int .i64 j0, .int .i64 j1] 25))
  clear hb Bw2 c0 c1 c2 c3 dm0 dm1
  go_upto_region 6 with fail
  generalize hWw3 : w3.alloc _ = Xw3 at *
  have c0 := C0.out
  have c1 := C1.out
  have c2 := C2.out
  have c3 := C3.out
  have dm0 := DM0.out
  have dm1 := DM1.out
  have dj0 : Xw3.cell? ⟨w3.heap.size, 0, none⟩ = some (.int .i64 j0) := by rw [← hWw3]; simp
  have dj1 : Xw3.cell? ⟨w3.heap.size, 1, none⟩ = some (.int .i64 j1) := by rw [← hWw3]; simp
  clear hWw3 C0 C1 C2 C3 DM0 DM1
  go_wp2_with fail
  refine (HF.out.NI _).mono ?_
  rintro e w4 ⟨rfl, hb⟩
  have C0 := Lib.hid (alloc_keep (o := (.cells #[.int .i64 x, .int .i64 ny] 25)) (below_keep hb c0))
  have C1 := Lib.hid (alloc_keep (o := (.cells #[.int .i64 x, .int .i64 ny] 25)) (below_keep hb c1))
  have C2 := Lib.hid (alloc_keep (o := (.cells #[.int .i64 x, .int .i64 ny] 25)) (below_keep hb c2))
  have C3 := Lib.hid (alloc_keep (o := (.cells #[.int .i64 x, .int .i64 ny] 25)) (below_keep hb c3))
  have DM0 := Lib.hid (alloc_keep (o := (.cells #[.int .i64 x, .int .i64 ny] 25)) (below_keep hb dm0))
  have DM1 := Lib.hid (alloc_keep (o := (.cells #[.int .i64 x, .int .i64 ny] 25)) (below_keep hb dm1))
  have DJ0 := Lib.hid (alloc_keep (o := (.cells #[.int .i64 x, .int .i64 ny] 25)) (below_keep hb dj0))
  have DJ1 := Lib.hid (alloc_keep (o := (.cells #[.int .i64 x, .int .i64 ny] 25)) (below_keep hb dj1))
  have Bw4 := Lib.hid ((below_chain Bw3.out hb).alloc (below_chain Bw3.out hb).size (.cells #[.int .i64 x, .int .i64 ny] 25))
  clear hb Bw3 c0 c1 c2 c3 dm0 dm1 dj0 dj1
  go_upto_region 7 with fail
  generalize hWw4 : w4.alloc _ = Xw4 at *
  have c0 := C0.out
  have c1 := C1.out
  have c2 := C2.out
  have c3 := C3.out
  have dm0 := DM0.out
  have dm1 := DM1.out
  have dj0 := DJ0.out
  have dj1 := DJ1.out
  have dn0 : Xw4.cell? ⟨w4.heap.size, 0, none⟩ = some (.int .i64 x) := by rw [← hWw4]; simp
  have dn1 : Xw4.cell? ⟨w4.heap.size, 1, none⟩ = some (.int .i64 ny) := by rw [← hWw4]; simp
  clear hWw4 C0 C1 C2 C3 DM0 DM1 DJ0 DJ1
  go_wp2_with fail
  refine (HF.out.NS _).mono ?_
  rintro e w5 ⟨rfl, hb⟩
  have C0 := Lib.hid (alloc_keep (o := (.cells #[.int .i64 x, .int .i64 ny] 25)) (below_keep hb c0))
  have C1 := Lib.hid (alloc_keep (o := (.cells #[.int .i64 x, .int .i64 ny] 25)) (below_keep hb c1))
  have C2 := Lib.hid (alloc_keep (o := (.cells #[.int .i64 x, .int .i64 ny] 25)) (below_keep hb c2))
  have C3 := Lib.hid (alloc_keep (o := (.cells #[.int .i64 x, .int .i64 ny] 25)) (below_keep hb c3))
  have DM0 := Lib.hid (alloc_keep (o := (.cells #[.int .i64 x, .int .i64 ny] 25)) (below_keep hb dm0))
  have DM1 := Lib.hid (alloc_keep (o := (.cells #[.int .i64 x, .int .i64 ny] 25)) (below_keep hb dm1))
  have DJ0 := Lib.hid (alloc_keep (o := (.cells #[.int .i64 x, .int .i64 ny] 25)) (below_keep hb dj0))
  have DJ1 := Lib.hid (alloc_keep (o := (.cells #[.int .i64 x, .int .i64 ny] 25)) (below_keep hb dj1))
  have DN0 := Lib.hid (alloc_keep (o := (.cells #[.int .i64 x, .int .i64 ny] 25)) (below_keep hb dn0))
  have DN1 := Lib.hid (alloc_keep (o := (.cells #[.int .i64 x, .int .i64 ny] 25)) (below_keep hb dn1))
  have Bw5 := Lib.hid ((below_chain Bw4.out hb).alloc (below_chain Bw4.out hb).size (.cells #[.int .i64 x, .int .i64 ny] 25))
  clear hb Bw4 c0 c1 c2 c3 dm0 dm1 dj0 dj1 dn0 dn1
  go_upto_region 8 with fail
  generalize hWw5 : w5.alloc _ = Xw5 at *
  have c0 := C0.out
  have c1 := C1.out
  have c2 := C2.out
  have c3 := C3.out
  have dm0 := DM0.out
  have dm1 := DM1.out
  have dj0 := DJ0.out
  have dj1 := DJ1.out
  have dn0 := DN0.out
  have dn1 := DN1.out
  have dk0 : Xw5.cell? ⟨w5.heap.size, 0, none⟩ = some (.int .i64 x) := by rw [← hWw5]; simp
  have dk1 : Xw5.cell? ⟨w5.heap.size, 1, none⟩ = some (.int .i64 ny) := by rw [← hWw5]; simp
  clear hWw5 C0 C1 C2 C3 DM0 DM1 DJ0 DJ1 DN0 DN1
  go_cut [56] (fun t wx => t = .bool false ∧ Below Xw5.heap.size Xw5 wx)
  case first =>
    have bX := Bw5.out
    have E1 := Lib.hid HF.out.OI
    have E2 := Lib.hid HF.out.OS
    have E3 := Lib.hid HF.out.TI
    have E4 := Lib.hid HF.out.TS
    have BX := Lib.hid (Below.refl Xw5.heap.size Xw5)
    clear c2 c3 dm0 dm1 dj0 dj1 HF Bw5
    go_region_held3 (fun w' => w'.cell? ⟨w1.heap.size, 0, none⟩ = some (.int .i64 x) ∧ w'.cell? ⟨w1.heap.size, 1, none⟩ = some (.int .i64 y) ∧ w'.cell? ⟨w4.heap.size, 0, none⟩ = some (.int .i64 x) ∧ w'.cell? ⟨w4.heap.size, 1, none⟩ = some (.int .i64 ny) ∧ w'.cell? ⟨w5.heap.size, 0, none⟩ = some (.int .i64 x) ∧ w'.cell? ⟨w5.heap.size, 1, none⟩ = some (.int .i64 ny) ∧ Below w.heap.size w w' ∧ Below Xw5.heap.size Xw5 w')
      (((try go_split_ands); refine ⟨?_, ?_, ?_, ?_, ?_, ?_, ?_, ?_⟩ <;> (repeat (first | with_reducible assumption | with_reducible exact BX.out | with_reducible refine drew_keep ?_ | with_reducible refine below_keep hbd ?_ | with_reducible refine Below.drew ?_ | with_reducible refine below_chain ?_ hbd))))
      (first | (go_at_call 11; (try go_split_ands); with_reducible refine (E1.out _).mono ?_; rintro e w6 ⟨rfl, hbd⟩) | (go_at_call 12; (try go_split_ands); with_reducible refine (E2.out _).mono ?_; rintro e w6 ⟨rfl, hbd⟩) | (go_at_call 13; (try go_split_ands); with_reducible refine (E3.out _ (pow10_below HT.out (by with_reducible assumption))).mono ?_; rintro e w6 ⟨rfl, hbd⟩) | (go_at_call 14; (try go_split_ands); with_reducible refine (E4.out _).mono ?_; rintro e w6 ⟨rfl, hbd⟩))
    go_split_ands
    go_wp2_with fail
    go_meet
    exact ⟨rfl, by assumption⟩
  case rest =>
  obtain ⟨rfl, hb⟩ := hcut
  have C0 := Lib.hid (below_keep hb c0)
  have C1 := Lib.hid (below_keep hb c1)
  have C2 := Lib.hid (below_keep hb c2)
  have C3 := Lib.hid (below_keep hb c3)
  have DM0 := Lib.hid (below_keep hb dm0)
  have DM1 := Lib.hid (below_keep hb dm1)
  have DJ0 := Lib.hid (below_keep hb dj0)
  have DJ1 := Lib.hid (below_keep hb dj1)
  have DN0 := Lib.hid (below_keep hb dn0)
  have DN1 := Lib.hid (below_keep hb dn1)
  have B6 := Lib.hid (below_chain Bw5.out hb)
  clear hb Bw5 dk0 dk1 c0 c1 c2 c3 dm0 dm1 dj0 dj1 dn0 dn1
  have c0 := C0.out
  have c1 := C1.out
  have c2 := C2.out
  have c3 := C3.out
  go_wp2_with fail
  refine (HF.out.L0 _).mono ?_
  rintro e w7 ⟨rfl, hb⟩
  clear c0 c1 c2 c3
  have c0 := below_keep hb C0.out
  have c1 := below_keep hb C1.out
  have c2 := below_keep hb C2.out
  have c3 := below_keep hb C3.out
  have dm0 := below_keep hb DM0.out
  have dm1 := below_keep hb DM1.out
  have dj0 := below_keep hb DJ0.out
  have dj1 := below_keep hb DJ1.out
  have dn0 := below_keep hb DN0.out
  have dn1 := below_keep hb DN1.out
  have B7 := Lib.hid (below_chain B6.out hb)
  clear hb B6 C0 C1 C2 C3 DM0 DM1 DJ0 DJ1 DN0 DN1
  go_upto_region 11 with fail
  rcases HF.out.hL with ⟨hL, e0, e1, e2, e3, ho⟩ | ⟨hL, ne0, ne1⟩
  · subst hL e0 e1 e2 e3
    rcases HF.out.hN with ⟨hN, nn⟩ | ⟨hN, hy⟩
    · subst hN
      exact tailTY w w7 x y u v ny o o2 _ _ _ _ _ _ _ _ _ _ _ _ _ _ _ _ _ _ _ _ _ _ _ _ _ _ _ _ _ _ _ _ _ _ _ _ _ _ _ _ _ _ _ _ _ _ _ _ _ _ _ _ _ _ _ _ _ _ _ _ _ _ _ _ _ _ _ _ _ _ _ _ _ _ _ _ _ _ _ _ _ _ _ _ _ _ _ _ _ _ _ _ _ _ _ _ _ _ _ _ _ _ _ _ _ _ _ _ _ _ _ _ _ _ _ _ _ _ _ _ _ _ _ _ _ _ _ _ _ HF.out.L1 HF.out.L2 HF.out.L3 HF.out.L4 HF.out.O1 HF.out.O2 (HF.out.L5 rfl) HF.out.TX ho nn HF.out.neg HT.out ⟨c0, c1, c2, c3, dm0, dm1, dj0, dj1, dn0, dn1, B7.out⟩ rfl (by assumption)
    · subst hN hy
      exact tailTN w w7 x y u v o o2 _ _ _ _ _ _ _ _ _ _ _ _ _ _ _ _ _ _ _ _ _ _ _ _ _ _ _ _ _ _ _ _ _ _ _ _ _ _ _ _ _ _ _ _ _ _ _ _ _ _ _ _ _ _ _ _ _ _ _ _ _ _ _ _ _ _ _ _ _ _ _ _ _ _ _ _ _ _ _ _ _ _ _ _ _ _ _ _ _ _ _ _ _ _ _ _ _ _ _ _ _ _ _ _ _ _ _ _ _ _ _ _ _ _ _ _ _ _ _ _ _ _ _ _ _ _ _ _ _ HF.out.L1 HF.out.L2 HF.out.L3 HF.out.L4 HF.out.O1 HF.out.O2 HF.out.TX ho HF.out.neg HT.out ⟨c0, c1, c2, c3, dm0, dm1, dj0, dj1, dn0, dn1, B7.out⟩ rfl (by assumption)
  · subst hL
    rcases HF.out.hN with ⟨hN, nn⟩ | ⟨hN, hy⟩
    · subst hN
      exact tailFY w w7 x y u v m0 m1 j0 j1 ny o o2 _ _ _ _ _ _ _ _ _ _ _ _ _ _ _ _ _ _ _ _ _ _ _ _ _ _ _ _ _ _ _ _ _ _ _ _ _ _ _ _ _ _ _ _ _ _ _ _ _ _ _ _ _ _ _ _ _ _ _ _ _ _ _ _ _ _ _ _ _ _ _ _ _ _ _ _ _ _ _ _ _ _ _ _ _ _ _ _ _ _ _ _ _ _ _ _ _ _ _ _ _ _ _ _ _ _ _ _ _ _ _ _ _ _ _ _ _ _ _ _ _ _ _ _ _ _ _ _ _ HF.out.L1 HF.out.L2 HF.out.L3 HF.out.L4 HF.out.O1 HF.out.O2 (HF.out.L5 rfl) HF.out.TX ne0 ne1 nn HF.out.neg HT.out ⟨c0, c1, c2, c3, dm0, dm1, dj0, dj1, dn0, dn1, B7.out⟩ rfl (by assumption)
    · subst hN hy
      exact tailFN w w7 x y u v m0 m1 j0 j1 o o2 _ _ _ _ _ _ _ _ _ _ _ _ _ _ _ _ _ _ _ _ _ _ _ _ _ _ _ _ _ _ _ _ _ _ _ _ _ _ _ _ _ _ _ _ _ _ _ _ _ _ _ _ _ _ _ _ _ _ _ _ _ _ _ _ _ _ _ _ _ _ _ _ _ _ _ _ _ _ _ _ _ _ _ _ _ _ _ _ _ _ _ _ _ _ _ _ _ _ _ _ _ _ _ _ _ _ _ _ _ _ _ _ _ _ _ _ _ _ _ _ _ _ _ _ _ _ _ _ _ HF.out.L1 HF.out.L2 HF.out.L3 HF.out.L4 HF.out.O1 HF.out.O2 HF.out.TX ne0 ne1 HF.out.neg HT.out ⟨c0, c1, c2, c3, dm0, dm1, dj0, dj1, dn0, dn1, B7.out⟩ rfl (by assumption)
end Go.Proofs.YtpodppmcdikmbaaDoor.fnStamps
