/-
  The draw of Adjust's arguments: the contract of spec.DrawAdjust.
-/
import Derived.Test.YtiehpniogehkmaaDrawCt
import Derived.Deep.RegionHeld3
import Derived.OpenShut
namespace Go.Proofs.Ytiehpniogehkmaa.hexes
open Go.RowKit

theorem set_keep {w : World} {p a : Addr} {u v : Value} (h : w.cell? a = some v) (hne : a.block ≠ p.block) : (w.setCell p u).cell? a = some v :=
  (World.cell?_of_block (w := w) (Below.heap_setCell w p u a.block hne)).trans h
theorem grown_drew (w : World) : w.grownBy w.drew none := ⟨rfl, rfl, rfl, Nat.le_refl _, fun _ _ _ => rfl⟩
theorem own_set {w : World} {B e size n : Nat} {v : Value} {xs : List Value} (h : w.ownsRow B e size v n xs) {p : Addr} (hp : p.block < B) (u : Value) : (w.setCell p u).ownsRow B e size v n xs := by
  refine h.kept (row := some p.block) ⟨rfl, rfl, rfl, by simp [World.setCell], fun k _ hne => Below.heap_setCell w p u k (fun e => hne (by rw [e]))⟩ ?_
  cases hv : v.ownBlock with
  | none => exact .inl rfl
  | some g =>
    refine .inr fun e => ?_
    have := own_ge h g hv
    have := Option.some.inj e
    omega

theorem drawn_of {W : World} {B n c : Nat} {A : Option Addr} {zs : List Ct} (hf : n ≤ 6) (h : W.ownsRow B 62 3 (.slice A n c) n (ctCells zs)) : DrawnCt W A n c zs := by
  obtain ⟨A', c', he, d⟩ := DrawnCt.of_own hf h
  simp only [Value.slice.injEq, true_and] at he
  obtain ⟨rfl, rfl⟩ := he
  exact d

theorem wf_pick4 {p nn : Int} (h : nn ∈ [IntKind.i64.wrap (-p), 1, -1, 999999]) : (Lit.int .i64 nn).wf = true := by
  simp only [List.mem_cons, List.not_mem_nil, or_false] at h
  rcases h with rfl | rfl | rfl | rfl
  · exact Go.wf_wrap _ _
  all_goals rfl
theorem wf_pick9 {nn : Int} (h : nn ∈ [(1 : Int), -1, 3, 0, 1000000, 1000001, -1000001, 9223372036854775807, -9223372036854775808]) : (Lit.int .i64 nn).wf = true := by
  simp only [List.mem_cons, List.not_mem_nil, or_false] at h
  rcases h with rfl | rfl | rfl | rfl | rfl | rfl | rfl | rfl | rfl <;> rfl

/-- How the draw of Adjust's arguments ends. -/
def AdjDraw (w : World) (e : Ending) (w' : World) : Prop :=
  ∃ (A1 : Option Addr) (n1 c1 : Nat) (zs : List Ct) (x y nn : Int), e = .returned (.tuple #[.slice A1 n1 c1, .agg #[.int .i64 x, .int .i64 y], .int .i64 nn]) ∧ (Lit.int .i64 nn).wf = true ∧ DrawnCt w' A1 n1 c1 zs ∧ Below w.heap.size w w'

set_option maxRecDepth 100000 in
set_option maxHeartbeats 2000000 in
theorem drawAdj_any (w : World) (A : Option Addr) (len cap : Nat) (hlen : len ≤ 2097152) (hcame : Came w A len) :
    Calls Try.prog 12 #[.slice A len cap] w (AdjDraw w) := by
  have HC := Lib.hid hcame
  clear hcame
  go_enter Try.func12, Try.ntmps12
  go_wp2_with fail
  generalize hW : w.alloc _ = W
  have b0 : Below w.heap.size w W := by rw [← hW]; exact (Below.refl _ _).alloc (Nat.le_refl _) _
  have r0 : Blk W w.heap.size 26 #[.int .i64 0, .int .i64 0] := by rw [← hW]; exact Blk.new _ _ _
  refine (new_any W A len cap hlen (HC.out.below b0)).mono ?_
  rintro e w1 ⟨c, rfl, hcw, hcur, hb1⟩
  have hrl := r0.lt
  have hck : ∀ k, some c = some k → w.heap.size ≤ k := fun k hk => by simp at hk; omega
  have hrc : w.heap.size ≠ c := by omega
  have C1 := Lib.hid hcur
  have B1 := Lib.hid (below_chain b0 hb1)
  have R1 := Lib.hid (r0.below hb1)
  clear hcur hb1 HC b0 r0 hW
  go_wp2_with fail
  refine (anyCt_draw w1 c A len cap hlen C1.out).mono ?_
  rintro e w2 ⟨n, zs, v, hn, hzl, rfl, hown, hc2, g2⟩
  obtain ⟨A1, c1, rfl, _⟩ := own_form hown
  have hcl := C1.out.lt
  have hrl1 := R1.out.lt
  have O2 := Lib.hid hown
  have C2 := Lib.hid hc2
  have B2 := Lib.hid (B1.out.grown g2 B1.out.size hck)
  have R2 := Lib.hid (R1.out.grown g2 (by simp; omega))
  clear hown hc2 g2 B1 R1
  go_wp2_with fail
  refine (any_draw _ c A len cap hlen C2.out).mono ?_
  rintro e w3 ⟨x, y, _, _, rfl, hc3, g3⟩
  have O3 := Lib.hid (own_kept_c O2.out g3 hcl)
  have C3 := Lib.hid hc3
  have B3 := Lib.hid (B2.out.grown g3 B2.out.size hck)
  have R3 := Lib.hid (R2.out.grown g3 (by simp; omega))
  clear hc3 g3 O2 C2 B2 R2
  -- the box of the stamp
  have gs := World.grownBy_alloc w3 (.cells #[.int .i64 x, .int .i64 y] 26) none
  have O4 := Lib.hid (O3.out.alloc (.cells #[.int .i64 x, .int .i64 y] 26))
  have C4 := Lib.hid (C3.out.grown gs)
  have B4 := Lib.hid (B3.out.alloc B3.out.size (.cells #[.int .i64 x, .int .i64 y] 26))
  have R4 := Lib.hid (R3.out.grown gs (by simp))
  have S4 := Lib.hid (Blk.new w3 26 #[.int .i64 x, .int .i64 y])
  have hsb : w3.heap.size ≠ c := by have := C3.out.lt; omega
  have hsr : w.heap.size ≠ w3.heap.size := by have := R3.out.lt; omega
  have hr3 : w.heap.size < w1.heap.size := hrl1
  clear gs C3 B3 R3 O3
  by_cases hn0 : 0 < n
  · have hd : decide ((n : Int) > 0) = true := by simp; omega
    go_wp2_with fail
    refine (once_any 2 (by omega) (by omega) _ c A len cap hlen C4.out).mono ?_
    rintro e w5 ⟨bb, rfl, hc5, g5⟩
    have O5 := Lib.hid (own_kept_c O4.out g5 hcl)
    have C5 := Lib.hid hc5
    have B5 := Lib.hid (B4.out.grown g5 B4.out.size hck)
    have R5 := Lib.hid (R4.out.grown g5 (by simp; omega))
    have S5 := Lib.hid (S4.out.grown g5 (by simp; omega))
    clear hc5 g5 O4 C4 B4 R4 S4
    cases bb with
    | true =>
      go_wp2_with fail
      refine (below_any n hn0 (by omega) _ c A len cap hlen C5.out).mono ?_
      rintro e w7 ⟨k, hk, rfl, hc7, g7⟩
      have O := Lib.hid (own_kept_c O5.out g7 hcl)
      have C := Lib.hid hc7
      have B := Lib.hid (B5.out.grown g7 B5.out.size hck)
      have R := Lib.hid (R5.out.grown g7 (by simp; omega))
      clear hc7 g7 O5 C5 B5 R5 S5
      have l1 : k < zs.length := by omega
      obtain ⟨b, off, p0, p1, p2, rfl, x1, e0, e1, e2⟩ := (drawn_of hn O.out).cts.at l1
      have hbb : b ≠ c ∧ b ≠ w.heap.size := by
        have := own_ge O.out b (by
          obtain ⟨_, _, he, hh⟩ := own_form O.out
          simp only [Value.slice.injEq, true_and] at he
          obtain ⟨g, hg⟩ := hh hn0
          rw [← he.1] at hg
          simp only [Option.some.injEq, Addr.mk.injEq] at hg
          simp [Value.ownBlock])
        omega
      have i0 : (0 : Int) ≤ (k : Int) := by omega
      have i1 : (k : Int) < (n : Int) := by omega
      go_wp2_with fail
      go_region_held3 (fun w' => w'.cell? ⟨b, off + k * 3, none⟩ = some (.int .i64 p0) ∧ w'.cell? ⟨b, off + k * 3 + 1, none⟩ = some (.int .i64 p1) ∧ w'.cell? ⟨b, off + k * 3 + 2, none⟩ = some (.int .i64 p2))
        (((try go_split_ands); refine ⟨?_, ?_, ?_⟩ <;> (repeat (first | with_reducible assumption | with_reducible refine drew_keep ?_ | with_reducible refine alloc_keep ?_ | with_reducible refine set_keep ?_ (by simp; omega)))))
        (first | (go_at_call 45; refine (pickInt_any _ c _ A len cap 4 [IntKind.i64.wrap (-p2), 1, -1, 999999] rfl (by omega) (by omega) hlen ((C.out.grown (grown_drew _)).grown (World.grownBy_alloc _ _ none)) (by have := C.out.lt; simp; omega) (Blk.new _ _ _)).mono ?_; rintro e w6 ⟨nn, hnn, rfl, hc6, g6⟩; (have wfn := Lib.hid (wf_pick4 hnn)); (clear hnn); (have P6 := Blk.grown (w := (w7.drew.alloc _)) (Blk.grown (w := w7.drew) R.out (World.grownBy_alloc _ _ none) (by simp)) g6 (by simp; omega)); (have o6 := own_kept_c (w := (w7.drew.alloc _)) (World.ownsRow.alloc (w := w7.drew) O.out _) g6 hcl); (have b6 := (B.out.drew.alloc B.out.size _).grown g6 (Nat.le_trans B.out.size (by simp)) hck); (have m0 : w6.cell? ⟨w.heap.size, 0, none⟩ = some (.int .i64 0) := by (rw [P6.cell]; rfl)); (have m1 : w6.cell? ⟨w.heap.size, 1, none⟩ = some (.int .i64 0) := by (rw [P6.cell]; rfl)); (have n0 := P6.frozen 0); (have n1 := P6.frozen 1); (have k0 : w6.cell? ⟨b, off + k * 3, none⟩ = some (.int .i64 p0) := World.grownBy.cell g6 (alloc_keep (drew_keep e0)) (by simpa using hbb.1)); (have k1 : w6.cell? ⟨b, off + k * 3 + 1, none⟩ = some (.int .i64 p1) := World.grownBy.cell g6 (alloc_keep (drew_keep e1)) (by simpa using hbb.1)); (have k2 : w6.cell? ⟨b, off + k * 3 + 2, none⟩ = some (.int .i64 p2) := World.grownBy.cell g6 (alloc_keep (drew_keep e2)) (by simpa using hbb.1))))
      all_goals (
        go_wp2_with fail
        refine bodyPost_ret (v := .tuple #[.slice (some ⟨b, off, none⟩) n c1, .agg #[.int .i64 p0, .int .i64 p1], .int .i64 nn]) ?_ rfl ⟨some ⟨b, off, none⟩, n, c1, zs, p0, p1, nn, rfl, wfn.out, drawn_of (B := w1.heap.size) hn ?_, ?_⟩
        · simp [results, Try.results12, go_sem, m0, m1]
        · repeat (first | with_reducible exact o6 | with_reducible refine own_drew_ct ?_ | with_reducible refine own_set ?_ (by simp; omega) _)
        · repeat (first | with_reducible exact b6 | with_reducible refine Below.drew ?_ | with_reducible refine Below.setCell ?_ (by simp) _))
    | false =>
      have O := O5
      have C := C5
      have B := B5
      have R := R5
      have S := S5
      clear O5 C5 B5 R5 S5
      have d0 : w5.cell? ⟨w3.heap.size, 0, none⟩ = some (.int .i64 x) := by rw [S.out.cell]; rfl
      have d1 : w5.cell? ⟨w3.heap.size, 1, none⟩ = some (.int .i64 y) := by rw [S.out.cell]; rfl
      go_wp2_with fail
      go_region_held3 (fun w' => w'.cell? ⟨w3.heap.size, 0, none⟩ = some (.int .i64 x) ∧ w'.cell? ⟨w3.heap.size, 1, none⟩ = some (.int .i64 y))
        (((try go_split_ands); refine ⟨?_, ?_⟩ <;> (repeat (first | with_reducible assumption | with_reducible refine drew_keep ?_ | with_reducible refine alloc_keep ?_ | with_reducible refine set_keep ?_ (by simp; omega)))))
        (first | (go_at_call 45; refine (pickInt_any _ c _ A len cap 9 [1, -1, 3, 0, 1000000, 1000001, -1000001, 9223372036854775807, -9223372036854775808] rfl (by omega) (by omega) hlen ((C.out.grown (grown_drew _)).grown (World.grownBy_alloc _ _ none)) (by have := C.out.lt; simp; omega) (Blk.new _ _ _)).mono ?_; rintro e w6 ⟨nn, hnn, rfl, hc6, g6⟩; (have wfn := Lib.hid (wf_pick9 hnn)); (clear hnn); (have P6 := Blk.grown (w := (w5.drew.alloc _)) (Blk.grown (w := w5.drew) R.out (World.grownBy_alloc _ _ none) (by simp)) g6 (by simp; omega)); (have o6 := own_kept_c (w := (w5.drew.alloc _)) (World.ownsRow.alloc (w := w5.drew) O.out _) g6 hcl); (have b6 := (B.out.drew.alloc B.out.size _).grown g6 (Nat.le_trans B.out.size (by simp)) hck); (have m0 : w6.cell? ⟨w.heap.size, 0, none⟩ = some (.int .i64 0) := by (rw [P6.cell]; rfl)); (have m1 : w6.cell? ⟨w.heap.size, 1, none⟩ = some (.int .i64 0) := by (rw [P6.cell]; rfl)); (have n0 := P6.frozen 0); (have n1 := P6.frozen 1); (have S6 := Blk.grown (w := (w5.drew.alloc _)) (Blk.grown (w := w5.drew) S.out (World.grownBy_alloc _ _ none) (by simp)) g6 (by simp; omega)); (have k0 : w6.cell? ⟨w3.heap.size, 0, none⟩ = some (.int .i64 x) := by (rw [S6.cell]; rfl)); (have k1 : w6.cell? ⟨w3.heap.size, 1, none⟩ = some (.int .i64 y) := by (rw [S6.cell]; rfl))))
      all_goals (
        go_wp2_with fail
        refine bodyPost_ret (v := .tuple #[.slice A1 n c1, .agg #[.int .i64 x, .int .i64 y], .int .i64 nn]) ?_ rfl ⟨A1, n, c1, zs, x, y, nn, rfl, wfn.out, drawn_of (B := w1.heap.size) hn ?_, ?_⟩
        · simp [results, Try.results12, go_sem, m0, m1]
        · repeat (first | with_reducible exact o6 | with_reducible refine own_drew_ct ?_ | with_reducible refine own_set ?_ (by simp; omega) _)
        · repeat (first | with_reducible exact b6 | with_reducible refine Below.drew ?_ | with_reducible refine Below.setCell ?_ (by simp) _))
  · have hd : decide ((n : Int) > 0) = false := by simp; omega
    obtain ⟨V, hV⟩ : ∃ V, V = w3.alloc (.cells #[.int .i64 x, .int .i64 y] 26) := ⟨_, rfl⟩
    rw [← hV] at O4 C4 B4 R4 S4
    go_wp2_with fail
    rw [← hV]
    clear hV
    have O := O4
    have C := C4
    have B := B4
    have R := R4
    have S := S4
    clear O4 C4 B4 R4 S4
    have d0 : V.cell? ⟨w3.heap.size, 0, none⟩ = some (.int .i64 x) := by rw [S.out.cell]; rfl
    have d1 : V.cell? ⟨w3.heap.size, 1, none⟩ = some (.int .i64 y) := by rw [S.out.cell]; rfl
    go_wp2_with fail
    go_region_held3 (fun w' => w'.cell? ⟨w3.heap.size, 0, none⟩ = some (.int .i64 x) ∧ w'.cell? ⟨w3.heap.size, 1, none⟩ = some (.int .i64 y))
      (((try go_split_ands); refine ⟨?_, ?_⟩ <;> (repeat (first | with_reducible assumption | with_reducible refine drew_keep ?_ | with_reducible refine alloc_keep ?_ | with_reducible refine set_keep ?_ (by simp; omega)))))
      (first | (go_at_call 45; refine (pickInt_any _ c _ A len cap 9 [1, -1, 3, 0, 1000000, 1000001, -1000001, 9223372036854775807, -9223372036854775808] rfl (by omega) (by omega) hlen ((C.out.grown (grown_drew _)).grown (World.grownBy_alloc _ _ none)) (by have := C.out.lt; simp; omega) (Blk.new _ _ _)).mono ?_; rintro e w6 ⟨nn, hnn, rfl, hc6, g6⟩; (have wfn := Lib.hid (wf_pick9 hnn)); (clear hnn); (have P6 := Blk.grown (w := (V.drew.alloc _)) (Blk.grown (w := V.drew) R.out (World.grownBy_alloc _ _ none) (by simp)) g6 (by simp; omega)); (have o6 := own_kept_c (w := (V.drew.alloc _)) (World.ownsRow.alloc (w := V.drew) O.out _) g6 hcl); (have b6 := (B.out.drew.alloc B.out.size _).grown g6 (Nat.le_trans B.out.size (by simp)) hck); (have m0 : w6.cell? ⟨w.heap.size, 0, none⟩ = some (.int .i64 0) := by (rw [P6.cell]; rfl)); (have m1 : w6.cell? ⟨w.heap.size, 1, none⟩ = some (.int .i64 0) := by (rw [P6.cell]; rfl)); (have n0 := P6.frozen 0); (have n1 := P6.frozen 1); (have S6 := Blk.grown (w := (V.drew.alloc _)) (Blk.grown (w := V.drew) S.out (World.grownBy_alloc _ _ none) (by simp)) g6 (by simp; omega)); (have k0 : w6.cell? ⟨w3.heap.size, 0, none⟩ = some (.int .i64 x) := by (rw [S6.cell]; rfl)); (have k1 : w6.cell? ⟨w3.heap.size, 1, none⟩ = some (.int .i64 y) := by (rw [S6.cell]; rfl))))
    all_goals (
      go_wp2_with fail
      refine bodyPost_ret (v := .tuple #[.slice A1 n c1, .agg #[.int .i64 x, .int .i64 y], .int .i64 nn]) ?_ rfl ⟨A1, n, c1, zs, x, y, nn, rfl, wfn.out, drawn_of (B := w1.heap.size) hn ?_, ?_⟩
      · simp [results, Try.results12, go_sem, m0, m1]
      · repeat (first | with_reducible exact o6 | with_reducible refine own_drew_ct ?_ | with_reducible refine own_set ?_ (by simp; omega) _)
      · repeat (first | with_reducible exact b6 | with_reducible refine Below.drew ?_ | with_reducible refine Below.setCell ?_ (by simp) _))
end Go.Proofs.Ytiehpniogehkmaa.hexes
