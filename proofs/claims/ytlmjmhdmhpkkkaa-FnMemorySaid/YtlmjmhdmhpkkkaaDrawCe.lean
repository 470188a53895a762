/-
  Drawn cells: the contracts of spec.l09Cell and spec.l09Cells.
-/
import Derived.Test.YtlmjmhdmhpkkkaaCdState
import Derived.Test.YtlmjmhdmhpkkkaaSpecPut
import Derived.WalkArith
namespace Go.Proofs.Ytlmjmhdmhpkkkaa.hexes
open Go.RowKit

/-- How a drawn cell ends. -/
def CeEnd (w : World) (c : Nat) (A : Option Addr) (len cap : Nat) (e : Ending) (w' : World) : Prop :=
  ∃ x0 x1 x2 x3 : Int, e = .returned (.agg #[.int .i64 x0, .int .i64 x1, .int .i64 x2, .int .i64 x3]) ∧ Cursor w' c A len cap ∧ w.grownBy w' (some c)

set_option maxRecDepth 100000 in
set_option maxHeartbeats 2000000 in
theorem cell_draw (w : World) (c : Nat) (A : Option Addr) (len cap : Nat) (hlen : len ≤ 2097152) (hcur : Cursor w c A len cap) :
    Calls Try.prog 42 #[.pointer (some ⟨c, 0, none⟩)] w (CeEnd w c A len cap) := by
  have hc := hcur.lt
  have HC := Lib.hid hcur
  clear hcur
  go_enter Try.func42, Try.ntmps42
  go_wp2_with fail
  generalize hW : w.alloc _ = w0
  have bW : Below w.heap.size w w0 := by rw [← hW]; exact (Below.refl _ _).alloc (Nat.le_refl _) _
  have R0 := Lib.hid (show Blk w0 w.heap.size 26 #[.int .i64 0, .int .i64 0, .int .i64 0, .int .i64 0] by rw [← hW]; exact Blk.new _ _ _)
  have C0 := Lib.hid (HC.out.belowD bW)
  have G0 := Lib.hid (grown_below (grown_refl w (some c)) bW)
  clear bW hW
  refine (below_any 3 (by omega) (by omega) w0 c A len cap hlen C0.out).mono ?_
  rintro e w1 ⟨p0, hp0, rfl, hc1, g1⟩
  have C1 := Lib.hid hc1
  have G1 := Lib.hid (grown_trans G0.out g1)
  have R1 := Lib.hid (R0.out.grown g1 (by simp; omega))
  clear hc1 g1 G0 R0 C0
  go_wp2_with fail
  refine (below_any 2 (by omega) (by omega) w1 c A len cap hlen C1.out).mono ?_
  rintro e w2 ⟨p1, hp1, rfl, hc2, g2⟩
  have C2 := Lib.hid hc2
  have G2 := Lib.hid (grown_trans G1.out g2)
  have R2 := Lib.hid (R1.out.grown g2 (by simp; omega))
  clear hc2 g2 G1 R1 C1
  go_wp2_with fail
  refine (below_any 4 (by omega) (by omega) w2 c A len cap hlen C2.out).mono ?_
  rintro e w3 ⟨p2, hp2, rfl, hc3, g3⟩
  have C3 := Lib.hid hc3
  have G3 := Lib.hid (grown_trans G2.out g3)
  have R3 := Lib.hid (R2.out.grown g3 (by simp; omega))
  clear hc3 g3 G2 R2 C2
  go_wp2_with fail
  refine (below_any 5 (by omega) (by omega) w3 c A len cap hlen C3.out).mono ?_
  rintro e w4 ⟨p3, hp3, rfl, hc4, g4⟩
  have C4 := Lib.hid hc4
  have G4 := Lib.hid (grown_trans G3.out g4)
  have R4 := Lib.hid (R3.out.grown g4 (by simp; omega))
  clear hc4 g4 G3 R3 C3
  have e0 : w4.cell? ⟨w.heap.size, 0, none⟩ = some (.int .i64 0) := by rw [R4.out.cell]; rfl
  have e1 : w4.cell? ⟨w.heap.size, 1, none⟩ = some (.int .i64 0) := by rw [R4.out.cell]; rfl
  have e2 : w4.cell? ⟨w.heap.size, 2, none⟩ = some (.int .i64 0) := by rw [R4.out.cell]; rfl
  have e3 : w4.cell? ⟨w.heap.size, 3, none⟩ = some (.int .i64 0) := by rw [R4.out.cell]; rfl
  have f0 := R4.out.frozen 0
  have f1 := R4.out.frozen 1
  have f2 := R4.out.frozen 2
  have f3 := R4.out.frozen 3
  have hcl := C4.out.lt
  have hrl := R4.out.lt
  go_wp2_with fail
  generalize hWf : (((w4.setCell _ _).setCell _ _).setCell _ _).setCell _ _ = Wf
  have bf : Blk Wf w.heap.size 26 #[.int .i64 (p0 : Int), .int .i64 (p1 : Int), .int .i64 (p2 : Int), .int .i64 (p3 : Int)] := by rw [← hWf]; exact ((((R4.out.put 0 _).put 1 _).put 2 _).put 3 _)
  have gf : w.grownBy Wf (some c) := by rw [← hWf]; exact (grown_set_new (grown_set_new (grown_set_new (grown_set_new G4.out (by simp) _) (by simp) _) (by simp) _) (by simp) _)
  have kf : Wf.heap[c]? = w4.heap[c]? := by rw [← hWf]; exact ((Below.heap_setCell _ _ _ c (by simp; omega)).trans ((Below.heap_setCell _ _ _ c (by simp; omega)).trans ((Below.heap_setCell _ _ _ c (by simp; omega)).trans (Below.heap_setCell _ _ _ c (by simp; omega)))))
  have r0 : Wf.cell? ⟨w.heap.size, 0, none⟩ = some (.int .i64 (p0 : Int)) := by rw [bf.cell]; rfl
  have r1 : Wf.cell? ⟨w.heap.size, 1, none⟩ = some (.int .i64 (p1 : Int)) := by rw [bf.cell]; rfl
  have r2 : Wf.cell? ⟨w.heap.size, 2, none⟩ = some (.int .i64 (p2 : Int)) := by rw [bf.cell]; rfl
  have r3 : Wf.cell? ⟨w.heap.size, 3, none⟩ = some (.int .i64 (p3 : Int)) := by rw [bf.cell]; rfl
  exact bodyPost_ret (v := .agg #[.int .i64 (p0 : Int), .int .i64 (p1 : Int), .int .i64 (p2 : Int), .int .i64 (p3 : Int)]) (by simp [results, Try.results42, go_sem, r0, r1, r2, r3]) rfl ⟨_, _, _, _, rfl, HC.out.back C4.out gf kf, gf⟩

/-- How a drawn list of cells ends. -/
def CesEnd (w : World) (c : Nat) (A : Option Addr) (len cap : Nat) (e : Ending) (w' : World) : Prop :=
  ∃ (A1 : Option Addr) (m c1 : Nat) (zs : List Ce), m ≤ 10 ∧ e = .returned (.slice A1 m c1) ∧ CdSt w w' c A len cap A1 m c1 zs

set_option maxRecDepth 100000 in
set_option maxHeartbeats 4000000 in
theorem ces_draw (w : World) (c : Nat) (A : Option Addr) (len cap : Nat) (hlen : len ≤ 2097152) (hcur : Cursor w c A len cap) :
    Calls Try.prog 41 #[.pointer (some ⟨c, 0, none⟩)] w (CesEnd w c A len cap) := by
  have hc := hcur.lt
  have HC := Lib.hid hcur
  clear hcur
  go_enter Try.func41, Try.ntmps41
  go_wp2
  go_loopw [3, 4] (fun v i wr => ∃ (j m : Nat) (A1 : Option Addr) (c1 : Nat) (zs : List Ce), i = .int .i64 (j : Int) ∧ m ≤ j ∧ j ≤ 9 ∧ v = .slice A1 m c1 ∧ CdSt w wr c A len cap A1 m c1 zs) (fun _ i _ => 9 - (intOf i).toNat)
  case atStart => exact ⟨0, 0, _, _, [], rfl, Nat.le_refl _, by omega, rfl, HC.out, HC.out.belowD ((Below.refl _ _).alloc (Nat.le_refl _) _), grown_below (grown_refl w (some c)) ((Below.refl _ _).alloc (Nat.le_refl _) _), World.ownsRow_lit w #[] 0 (Nat.le_refl _) (by decide) rfl⟩
  case round =>
    obtain ⟨j, m, A1, c1, zs, rfl, hmj, hj, rfl, hS⟩ := hrel
    have S := Lib.hid hS
    clear hS
    go_wp2_with fail
    refine (below_any 9 (by omega) (by omega) wr c A len cap hlen S.out.cur).mono ?_
    rintro e w2 ⟨y, hy, rfl, hc2, g2⟩
    have S2 := Lib.hid (S.out.draw hc2 g2)
    clear hc2 g2 S
    by_cases hjy : j < y
    · have hd : decide ((j : Int) < (y : Int)) = true := by simp; omega
      go_wp2_with fail
      refine (cell_draw w2 c A len cap hlen S2.out.cur).mono ?_
      rintro e w3 ⟨x0, x1, x2, x3, rfl, hc3, g3⟩
      have S3 := Lib.hid (S2.out.draw hc3 g3)
      clear hc3 g3 S2
      go_wp2_with fail
      refine (specPut_any m zs S3.out.ces.1 A1 c1 (own_nil S3.out.row) (own_capS S3.out.row) x0 x1 x2 x3 w3 S3.out.ces.2 (by omega)).mono ?_
      rintro e w4 ⟨v4, rfl, o4, b4⟩
      have hpl := put_len zs (x0, x1, x2, x3)
      rw [S3.out.ces.1] at hpl
      obtain ⟨A4, c4, rfl, hl4, _⟩ := Ces.of_own o4
      have S4 := Lib.hid (S3.out.put o4 b4)
      obtain ⟨us, hus⟩ : ∃ us, putC zs (x0, x1, x2, x3) = us := ⟨_, rfl⟩
      rw [hus] at S4 hpl ⊢
      obtain ⟨m4, hm4⟩ : ∃ m4, us.length = m4 := ⟨_, rfl⟩
      rw [hm4] at S4 hpl ⊢
      clear o4 b4 hl4 hus hm4 S3
      go_wp2
      go_roundw
      case rel => exact ⟨j + 1, m4, A4, c4, us, by go_num, by omega, by omega, rfl, S4.out⟩
      case measure => simp [intOf]; omega
    · have hd : decide ((j : Int) < (y : Int)) = false := by simp; omega
      go_wp2_with fail
      refine (once_any 10 (by omega) (by omega) w2 c A len cap hlen S2.out.cur).mono ?_
      rintro e w3 ⟨bb, rfl, hc3, g3⟩
      have S3 := Lib.hid (S2.out.draw hc3 g3)
      clear hc3 g3 S2
      cases bb with
      | false =>
        go_wp2
        go_ret
        exact ⟨A1, m, c1, zs, by omega, rfl, S3.out⟩
      | true =>
        go_wp2_with fail
        refine (cell_draw w3 c A len cap hlen S3.out.cur).mono ?_
        rintro e w4 ⟨x0, x1, x2, x3, rfl, hc4, g4⟩
        have S4 := Lib.hid (S3.out.draw hc4 g4)
        clear hc4 g4 S3
        obtain ⟨V, hV⟩ : ∃ z, w4.alloc (.cells #[.int .i64 x0, .int .i64 x1, .int .i64 x2, .int .i64 x3] 26) = z := ⟨_, rfl⟩
        have NV := Lib.hid (show Ces V (some ⟨w4.heap.size, 0, none⟩) [(x0, x1, x2, x3)] by rw [← hV]; exact ce_new _ _ _ _ _)
        have SV := Lib.hid (S4.out.fresh (show Below w4.heap.size w4 V by rw [← hV]; exact (Below.refl _ _).alloc (Nat.le_refl _) _))
        go_wp2_with (at_builtin; refine wpList_append_ce rfl (.tmp 18) (.tmp 21) (by rfl) w.heap.size _ m zs (by rfl) SV.out.row (some ⟨w4.heap.size, 0, none⟩) 1 1 [(x0, x1, x2, x3)] (by rfl) (fun h => by cases h) rfl NV.out (by omega) SV.out.gr.size ?_; intro v8 w8 own8 gr8)
        obtain ⟨A8, c8, rfl, hS8⟩ := SV.out.app own8 gr8
        have S8 := Lib.hid hS8
        clear own8 gr8 hS8 hV
        go_wp2
        go_ret
        exact ⟨A8, m + 1, c8, _, by omega, rfl, S8.out⟩
end Go.Proofs.Ytlmjmhdmhpkkkaa.hexes
