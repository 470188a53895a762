/-
  Drawn stamps: the contracts of spec.l02Stamp, l02Any and l02Two.
-/
import Derived.Test.YthkkleicekhelaaStamps
import Derived.Test.YthkkleicekhelaaCursor
import Derived.Test.YthkkleicekhelaaDrawBlk
namespace Go.Proofs.Ythkkleicekhelaa.hexes
open Go.RowKit

def In64 (x : Int) : Prop := -9223372036854775808 ≤ x ∧ x ≤ 9223372036854775807

/-- The cursor in a world that has only grown. -/
theorem Cursor.grown {w w' : World} {c len cap : Nat} {A : Option Addr} (h : Cursor w c A len cap) (hg : w.grownBy w' none) : Cursor w' c A len cap := by
  obtain ⟨i, hh, hi, hblk⟩ := h.at_
  exact ⟨⟨i, hh, hi, hblk.grown hg (by simp)⟩, h.bytes.grown ⟨hg.os, hg.tape, hg.output, hg.size, fun k hk _ => hg.block k hk (by simp)⟩⟩
theorem Cursor.lt {w : World} {c len cap : Nat} {A : Option Addr} (h : Cursor w c A len cap) : c < w.heap.size := by
  obtain ⟨i, hh, hi, hblk⟩ := h.at_
  exact hblk.lt

theorem Cursor.back {w w2 w3 : World} {c len cap : Nat} {A : Option Addr} (h : Cursor w c A len cap) (h2 : Cursor w2 c A len cap) (hg : w.grownBy w3 (some c)) (hb : w3.heap[c]? = w2.heap[c]?) : Cursor w3 c A len cap := by
  obtain ⟨i, hh, hi, hblk⟩ := h2.at_
  exact ⟨⟨i, hh, hi, hb.trans hblk⟩, h.bytes.grown hg⟩
theorem grown_set_new {a w : World} {row : Option Nat} (h : a.grownBy w row) {p : Addr} (hp : a.heap.size ≤ p.block) (u : Value) : a.grownBy (w.setCell p u) row :=
  ⟨h.os, h.tape, h.output, by simpa [World.setCell] using h.size, fun i hi hne => (Below.heap_setCell w p u i (by omega)).trans (h.block i hi hne)⟩
theorem grown_wide {a w : World} {row : Option Nat} (h : a.grownBy w none) : a.grownBy w row := ⟨h.os, h.tape, h.output, h.size, fun k hk _ => h.block k hk (by simp)⟩

/-- How a drawn stamp ends: a stamp, the cursor, nothing else written. -/
def StampEnd (w : World) (c : Nat) (A : Option Addr) (len cap : Nat) (e : Ending) (w' : World) : Prop :=
  ∃ x y : Int, In64 x ∧ In64 y ∧ e = .returned (.agg #[.int .i64 x, .int .i64 y]) ∧ Cursor w' c A len cap ∧ w.grownBy w' (some c)

set_option maxRecDepth 100000 in
theorem stamp_draw (w : World) (c : Nat) (A : Option Addr) (len cap : Nat) (hlen : len ≤ 2097152) (hcur : Cursor w c A len cap) :
    Calls Try.prog 81 #[.pointer (some ⟨c, 0, none⟩)] w (StampEnd w c A len cap) := by
  have hc := hcur.lt
  have HC := Lib.hid hcur
  clear hcur
  go_enter Try.func81, Try.ntmps81
  go_wp2_with fail
  generalize hW : w.alloc _ = W
  have g0 : w.grownBy W none := by rw [← hW]; exact World.grownBy_alloc w _ none
  have b0 : Blk W w.heap.size 28 #[.int .i64 0, .int .i64 0] := by rw [← hW]; exact Blk.new _ _ _
  refine (below_any 4 (by omega) (by omega) W c A len cap hlen (HC.out.grown g0)).mono ?_
  rintro e w1 ⟨x, hx, rfl, hc1, g1⟩
  have b1 := b0.grown g1 (by simp; omega)
  have C1 := Lib.hid hc1
  have G1 := Lib.hid (grown_trans (row := some c) (grown_wide g0) g1)
  have BK1 := Lib.hid b1
  clear hc1 g1 b0 b1 g0 hW
  go_wp2_with fail
  refine (below_any 5 (by omega) (by omega) w1 c A len cap hlen C1.out).mono ?_
  rintro e w2 ⟨y, hy, rfl, hc2, g2⟩
  have b2 := BK1.out.grown g2 (by simp; omega)
  have C2 := Lib.hid hc2
  have G2 := Lib.hid (grown_trans G1.out g2)
  have d0 : w2.cell? ⟨w.heap.size, 0, none⟩ = some (.int .i64 0) := by rw [b2.cell]; rfl
  have d1 : w2.cell? ⟨w.heap.size, 1, none⟩ = some (.int .i64 0) := by rw [b2.cell]; rfl
  have f0 := b2.frozen 0
  have f1 := b2.frozen 1
  have BK2 := Lib.hid b2
  clear hc2 g2 G1 BK1 C1 b2
  go_wp2_with fail
  generalize hW3 : (w2.setCell _ _).setCell _ _ = W3
  have b3 : Blk W3 w.heap.size 28 #[.int .i64 (x : Int), .int .i64 (y : Int)] := by rw [← hW3]; exact (BK2.out.put 0 _).put 1 _
  have g3 : w.grownBy W3 (some c) := by rw [← hW3]; exact grown_set_new (grown_set_new G2.out (by simp) _) (by simp) _
  have k3 : W3.heap[c]? = w2.heap[c]? := by rw [← hW3]; exact (Below.heap_setCell _ _ _ c (by simp; omega)).trans (Below.heap_setCell _ _ _ c (by simp; omega))
  have e0 : W3.cell? ⟨w.heap.size, 0, none⟩ = some (.int .i64 (x : Int)) := by rw [b3.cell]; rfl
  have e1 : W3.cell? ⟨w.heap.size, 1, none⟩ = some (.int .i64 (y : Int)) := by rw [b3.cell]; rfl
  exact bodyPost_ret (v := .agg #[.int .i64 (x : Int), .int .i64 (y : Int)]) (by simp [results, Try.results81, go_sem, e0, e1]) rfl ⟨x, y, ⟨by omega, by omega⟩, ⟨by omega, by omega⟩, rfl, HC.out.back C2.out g3 k3, g3⟩

theorem once_any (n : Nat) (h0 : 0 < n) (h1 : n ≤ 4294967296) (w : World) (c : Nat) (A : Option Addr) (len cap : Nat) (hlen : len ≤ 2097152) (hcur : Cursor w c A len cap) :
    Calls Try.prog 57 #[.pointer (some ⟨c, 0, none⟩), .int .i64 (n : Int)] w fun e w' => ∃ b : Bool, e = .returned (.bool b) ∧ Cursor w' c A len cap ∧ w.grownBy w' (some c) := by
  have HC := Lib.hid hcur
  clear hcur
  go_enter Try.func57, Try.ntmps57
  go_wp2_with fail
  refine (below_any n h0 h1 w c A len cap hlen HC.out).mono ?_
  rintro e w1 ⟨x, hx, rfl, hc1, g1⟩
  have C1 := Lib.hid hc1
  have G1 := Lib.hid g1
  clear hc1 g1
  go_wp2
  go_ret
  exact ⟨_, rfl, C1.out, G1.out⟩

/-- How a picked number ends. -/
def PickEnd (w : World) (c : Nat) (A : Option Addr) (len cap : Nat) (ns : List Int) (e : Ending) (w' : World) : Prop :=
  ∃ n ∈ ns, e = .returned (.int .i64 n) ∧ Cursor w' c A len cap ∧ w.grownBy w' (some c)

set_option maxRecDepth 100000 in
theorem pickInt_any (w : World) (c g : Nat) (A : Option Addr) (len cap m : Nat) (ns : List Int) (hm : ns.length = m) (h0 : 0 < m) (h1 : m ≤ 256) (hlen : len ≤ 2097152) (hcur : Cursor w c A len cap) (hgc : g ≠ c)
    (hblk : Blk w g 3 (ns.map fun n => Value.int .i64 n).toArray) :
    Calls Try.prog 71 #[.pointer (some ⟨c, 0, none⟩), .slice (some ⟨g, 0, none⟩) m m] w (PickEnd w c A len cap ns) := by
  have HC := Lib.hid hcur
  have HB := Lib.hid hblk
  clear hcur hblk
  go_enter Try.func71, Try.ntmps71
  go_wp2_with fail
  refine (below_any m h0 (by omega) w c A len cap hlen HC.out).mono ?_
  rintro e w1 ⟨x, hx, rfl, hc1, g1⟩
  have hb1 := HB.out.grown g1 (by simpa using hgc)
  have hxl : x < ns.length := by omega
  have d0 : w1.cell? ⟨g, x, none⟩ = some (.int .i64 (ns[x])) := by rw [hb1.cell]; simp [hxl]
  have C1 := Lib.hid hc1
  have G1 := Lib.hid g1
  have j0 : (0 : Int) ≤ (x : Int) := by omega
  have j1 : (x : Int) < (m : Int) := by omega
  clear hc1 g1 hb1 HC HB
  go_wp2
  go_ret
  exact ⟨_, List.getElem_mem hxl, rfl, C1.out, G1.out⟩

set_option maxRecDepth 100000 in
set_option maxHeartbeats 1000000 in
theorem any_draw (w : World) (c : Nat) (A : Option Addr) (len cap : Nat) (hlen : len ≤ 2097152) (hcur : Cursor w c A len cap) :
    Calls Try.prog 73 #[.pointer (some ⟨c, 0, none⟩)] w (StampEnd w c A len cap) := by
  have hc := hcur.lt
  have HC := Lib.hid hcur
  clear hcur
  go_enter Try.func73, Try.ntmps73
  go_wp2_with fail
  generalize hW : w.alloc _ = W
  have g0 : w.grownBy W none := by rw [← hW]; exact World.grownBy_alloc w _ none
  have b0 : Blk W w.heap.size 28 #[.int .i64 0, .int .i64 0] := by rw [← hW]; exact Blk.new _ _ _
  refine (stamp_draw W c A len cap hlen (HC.out.grown g0)).mono ?_
  rintro e w1 ⟨x, y, hx, hy, rfl, hc1, g1⟩
  have b1 := b0.grown g1 (by simp; omega)
  have C1 := Lib.hid hc1
  have G1 := Lib.hid (grown_trans (row := some c) (grown_wide g0) g1)
  have R1 := Lib.hid b1
  clear hc1 g1 b0 b1 g0 hW
  go_wp2_with fail
  generalize hW2 : w1.alloc _ = W2
  have g2 : w1.grownBy W2 none := by rw [← hW2]; exact World.grownBy_alloc w1 _ none
  have s2 : Blk W2 w1.heap.size 28 #[.int .i64 x, .int .i64 y] := by rw [← hW2]; exact Blk.new _ _ _
  have hc1 := C1.out.lt
  have hr1 := R1.out.lt
  refine (below_any 10 (by omega) (by omega) W2 c A len cap hlen (C1.out.grown g2)).mono ?_
  rintro e w2 ⟨n, hn, rfl, hc2, g3⟩
  have S2 := Lib.hid (s2.grown g3 (by simp; omega))
  have R2 := Lib.hid ((R1.out.grown g2 (by simp)).grown g3 (by simp; omega))
  have C2 := Lib.hid hc2
  have G2 := Lib.hid (grown_trans (grown_trans G1.out (grown_wide g2)) g3)
  clear hc2 g3 s2 g2 hW2 C1 R1 G1
  by_cases n0 : n = 0
  · subst n0
    · skip
      go_wp2_with fail
      generalize hW3 : w2.alloc _ = W3
      have g3 : w2.grownBy W3 none := by rw [← hW3]; exact World.grownBy_alloc w2 _ none
      have p3 : Blk W3 w2.heap.size 3 (([-1, 3, 4, 9223372036854775807] : List Int).map fun n => Value.int .i64 n).toArray := by rw [← hW3]; exact Blk.new _ _ _
      have hs2 := S2.out.lt
      have hc2 := C2.out.lt
      refine (pickInt_any W3 c w2.heap.size A len cap 4 [-1, 3, 4, 9223372036854775807] rfl (by omega) (by omega) hlen (C2.out.grown g3) (by omega) p3).mono ?_
      rintro e w4 ⟨v, hv, rfl, hc4, g4⟩
      have s4 := (S2.out.grown g3 (by simp)).grown g4 (by simp; omega)
      have r4 := (R2.out.grown g3 (by simp)).grown g4 (by simp; omega)
      have C4 := Lib.hid hc4
      have G4 := Lib.hid (grown_trans (grown_trans G2.out (grown_wide g3)) g4)
      have hv64 : In64 v := by
        simp only [List.mem_cons, List.not_mem_nil, or_false] at hv
        unfold In64
        omega
      have d0 : w4.cell? ⟨w1.heap.size, 0, none⟩ = some (.int .i64 x) := by rw [s4.cell]; rfl
      have d1 : w4.cell? ⟨w1.heap.size, 1, none⟩ = some (.int .i64 y) := by rw [s4.cell]; rfl
      have f0 := s4.frozen 0
      have f1 := s4.frozen 1
      have d2 : w4.cell? ⟨w.heap.size, 0, none⟩ = some (.int .i64 0) := by rw [r4.cell]; rfl
      have d3 : w4.cell? ⟨w.heap.size, 1, none⟩ = some (.int .i64 0) := by rw [r4.cell]; rfl
      have f2 := r4.frozen 0
      have f3 := r4.frozen 1
      have S4 := Lib.hid s4
      have R4 := Lib.hid r4
      clear hc4 g4 s4 r4 p3 g3 hW3 hv S2 R2 C2 G2 hc2
      go_wp2_with fail
      generalize hWf : ((w4.setCell _ _).setCell _ _).setCell _ _ = Wf
      have bf : Blk Wf w.heap.size 28 #[.int .i64 v, .int .i64 y] := by rw [← hWf]; exact ((R4.out.other (by simp; omega) _).put 0 _).put 1 _
      have gf : w.grownBy Wf (some c) := by rw [← hWf]; exact grown_set_new (grown_set_new (grown_set_new G4.out (by simp; omega) _) (by simp) _) (by simp) _
      have kf : Wf.heap[c]? = w4.heap[c]? := by rw [← hWf]; exact (Below.heap_setCell _ _ _ c (by simp; omega)).trans ((Below.heap_setCell _ _ _ c (by simp; omega)).trans (Below.heap_setCell _ _ _ c (by simp; omega)))
      have e0 : Wf.cell? ⟨w.heap.size, 0, none⟩ = some (.int .i64 v) := by rw [bf.cell]; rfl
      have e1 : Wf.cell? ⟨w.heap.size, 1, none⟩ = some (.int .i64 y) := by rw [bf.cell]; rfl
      exact bodyPost_ret (v := .agg #[.int .i64 v, .int .i64 y]) (by simp [results, Try.results73, go_sem, e0, e1]) rfl ⟨_, _, hv64, hy, rfl, HC.out.back C4.out gf kf, gf⟩
  · by_cases n1 : n = 1
    · subst n1
      go_wp2_with fail
      generalize hW3 : w2.alloc _ = W3
      have g3 : w2.grownBy W3 none := by rw [← hW3]; exact World.grownBy_alloc w2 _ none
      have p3 : Blk W3 w2.heap.size 3 (([-1, 5, 6, 7, -9223372036854775808] : List Int).map fun n => Value.int .i64 n).toArray := by rw [← hW3]; exact Blk.new _ _ _
      have hs2 := S2.out.lt
      have hc2 := C2.out.lt
      refine (pickInt_any W3 c w2.heap.size A len cap 5 [-1, 5, 6, 7, -9223372036854775808] rfl (by omega) (by omega) hlen (C2.out.grown g3) (by omega) p3).mono ?_
      rintro e w4 ⟨v, hv, rfl, hc4, g4⟩
      have s4 := (S2.out.grown g3 (by simp)).grown g4 (by simp; omega)
      have r4 := (R2.out.grown g3 (by simp)).grown g4 (by simp; omega)
      have C4 := Lib.hid hc4
      have G4 := Lib.hid (grown_trans (grown_trans G2.out (grown_wide g3)) g4)
      have hv64 : In64 v := by
        simp only [List.mem_cons, List.not_mem_nil, or_false] at hv
        unfold In64
        omega
      have d0 : w4.cell? ⟨w1.heap.size, 0, none⟩ = some (.int .i64 x) := by rw [s4.cell]; rfl
      have d1 : w4.cell? ⟨w1.heap.size, 1, none⟩ = some (.int .i64 y) := by rw [s4.cell]; rfl
      have f0 := s4.frozen 0
      have f1 := s4.frozen 1
      have d2 : w4.cell? ⟨w.heap.size, 0, none⟩ = some (.int .i64 0) := by rw [r4.cell]; rfl
      have d3 : w4.cell? ⟨w.heap.size, 1, none⟩ = some (.int .i64 0) := by rw [r4.cell]; rfl
      have f2 := r4.frozen 0
      have f3 := r4.frozen 1
      have S4 := Lib.hid s4
      have R4 := Lib.hid r4
      clear hc4 g4 s4 r4 p3 g3 hW3 hv S2 R2 C2 G2 hc2
      go_wp2_with fail
      generalize hWf : ((w4.setCell _ _).setCell _ _).setCell _ _ = Wf
      have bf : Blk Wf w.heap.size 28 #[.int .i64 x, .int .i64 v] := by rw [← hWf]; exact ((R4.out.other (by simp; omega) _).put 0 _).put 1 _
      have gf : w.grownBy Wf (some c) := by rw [← hWf]; exact grown_set_new (grown_set_new (grown_set_new G4.out (by simp; omega) _) (by simp) _) (by simp) _
      have kf : Wf.heap[c]? = w4.heap[c]? := by rw [← hWf]; exact (Below.heap_setCell _ _ _ c (by simp; omega)).trans ((Below.heap_setCell _ _ _ c (by simp; omega)).trans (Below.heap_setCell _ _ _ c (by simp; omega)))
      have e0 : Wf.cell? ⟨w.heap.size, 0, none⟩ = some (.int .i64 x) := by rw [bf.cell]; rfl
      have e1 : Wf.cell? ⟨w.heap.size, 1, none⟩ = some (.int .i64 v) := by rw [bf.cell]; rfl
      exact bodyPost_ret (v := .agg #[.int .i64 x, .int .i64 v]) (by simp [results, Try.results73, go_sem, e0, e1]) rfl ⟨_, _, hx, hv64, rfl, HC.out.back C4.out gf kf, gf⟩
    · have d0 : w2.cell? ⟨w1.heap.size, 0, none⟩ = some (.int .i64 x) := by rw [S2.out.cell]; rfl
      have d1 : w2.cell? ⟨w1.heap.size, 1, none⟩ = some (.int .i64 y) := by rw [S2.out.cell]; rfl
      have d2 : w2.cell? ⟨w.heap.size, 0, none⟩ = some (.int .i64 0) := by rw [R2.out.cell]; rfl
      have d3 : w2.cell? ⟨w.heap.size, 1, none⟩ = some (.int .i64 0) := by rw [R2.out.cell]; rfl
      have f2 := R2.out.frozen 0
      have f3 := R2.out.frozen 1
      have q0 : ((n : Int) == 0) = false := by simp; omega
      have q1 : ((n : Int) == 1) = false := by simp; omega
      go_wp2_with fail
      generalize hWf : (w2.setCell _ _).setCell _ _ = Wf
      have bf : Blk Wf w.heap.size 28 #[.int .i64 x, .int .i64 y] := by rw [← hWf]; exact (R2.out.put 0 _).put 1 _
      have gf : w.grownBy Wf (some c) := by rw [← hWf]; exact grown_set_new (grown_set_new G2.out (by simp) _) (by simp) _
      have kf : Wf.heap[c]? = w2.heap[c]? := by rw [← hWf]; exact (Below.heap_setCell _ _ _ c (by simp; omega)).trans (Below.heap_setCell _ _ _ c (by simp; omega))
      have e0 : Wf.cell? ⟨w.heap.size, 0, none⟩ = some (.int .i64 x) := by rw [bf.cell]; rfl
      have e1 : Wf.cell? ⟨w.heap.size, 1, none⟩ = some (.int .i64 y) := by rw [bf.cell]; rfl
      exact bodyPost_ret (v := .agg #[.int .i64 x, .int .i64 y]) (by simp [results, Try.results73, go_sem, e0, e1]) rfl ⟨_, _, hx, hy, rfl, HC.out.back C2.out gf kf, gf⟩

end Go.Proofs.Ythkkleicekhelaa.hexes
