/-
  spec.DrawChanged, spec.DrawKindName.
-/
import Derived.Test.YthkkleicekhelaaDoorDrawNdAny
import Derived.Test.YthkkleicekhelaaDoorCame
namespace Go.Proofs.YthkkleicekhelaaDoor.hexes
open Go.RowKit

/-- How a draw of a node and two numbers ends. -/
def ChgDraw (w : World) (e : Ending) (w' : World) : Prop :=
  ∃ (k a bb : Int) (A1 : Option Addr) (n c1 : Nat) (zs : List Int) (key val : Int), K64 k ∧ K64 a ∧ K64 bb ∧ (∀ z ∈ zs, K64 z) ∧ n ≤ 3 ∧ zs.length = n ∧ K64 key ∧ K64 val ∧ e = .returned (.tuple #[.agg #[.int .i64 k, .int .i64 a, .int .i64 bb, .slice A1 n c1], .int .i64 key, .int .i64 val]) ∧ w'.ownsRow w.heap.size 3 1 (.slice A1 n c1) n (isCells zs) ∧ Below w.heap.size w w'

set_option maxRecDepth 100000 in
set_option maxHeartbeats 4000000 in
theorem drawChg_any (w : World) (A : Option Addr) (len cap : Nat) (hlen : len ≤ 2097152) (hcame : Came w A len) :
    Calls Tryd.prog 6 #[.slice A len cap] w (ChgDraw w) := by
  have HC := Lib.hid hcame
  clear hcame
  go_enter Tryd.func6, Tryd.ntmps6
  go_wp2_with fail
  generalize hW : w.alloc _ = W
  have bW : Below w.heap.size w W := by rw [← hW]; exact (Below.refl _ _).alloc (by simp) _
  have r0 : Blk W w.heap.size 26 #[.int .i64 0, .int .i64 0, .int .i64 0, .slice none 0 0] := by rw [← hW]; exact Blk.new _ _ _
  have hrl := r0.lt
  clear hW
  refine (new_any W A len cap hlen (HC.out.below bW)).mono ?_
  rintro e w1 ⟨c, rfl, hcw, hcur, hb1⟩
  have hrc : w.heap.size < c := by omega
  have hck : ∀ k, some c = some k → w.heap.size ≤ k := fun k hk => by simp at hk; omega
  have R1 := Lib.hid (r0.below hb1)
  have C1 := Lib.hid hcur
  have B1 := Lib.hid (below_chain bW hb1)
  have z1 := hb1.size
  clear hcur hb1 r0 bW HC
  go_wp2_with fail
  refine (nodeAny_draw w1 c A len cap hlen C1.out).mono ?_
  rintro e w2 ⟨k, a, bb, A1, n, c1, zs, jk, ja, jb, jz, hn, hl, rfl, ho, hc2, g2⟩
  have JK := Lib.hid jk
  have JA := Lib.hid ja
  have JB := Lib.hid jb
  have JZ := Lib.hid jz
  have HL := Lib.hid hl
  have O2 := Lib.hid (own_base ho (show w.heap.size ≤ w1.heap.size by omega))
  have R2 := Lib.hid (R1.out.grown g2 (by simp; omega))
  have C2 := Lib.hid hc2
  have B2 := Lib.hid (B1.out.grown g2 B1.out.size hck)
  clear jk ja jb jz hl ho hc2 g2 R1 C1 B1
  go_wp2_with fail
  generalize hV : w2.alloc _ = V
  have bV : Below w2.heap.size w2 V := by rw [← hV]; exact (Below.refl _ _).alloc (Nat.le_refl _) _
  have P := (show Blk V w2.heap.size 3 (([0, 1, 7, 50, 99, 100, -1] : List Int).map fun n => Value.int .i64 n).toArray by rw [← hV]; exact Blk.new _ _ _)
  have hcu := C2.out.lt
  have R3 := Lib.hid (R2.out.below bV)
  have O3 := Lib.hid (own_below O2.out bV)
  have B3 := Lib.hid (below_chain B2.out bV)
  have CV := Lib.hid (C2.out.belowD bV)
  clear hV R2 O2 B2
  refine (pickInt_any V c w2.heap.size A len cap 7 [0, 1, 7, 50, 99, 100, -1] rfl (by omega) (by omega) hlen CV.out (by omega) P).mono ?_
  rintro e w3 ⟨key, hk, rfl, hc3, g3⟩
  have WK := Lib.hid (show K64 key by
    simp only [List.mem_cons, List.not_mem_nil, or_false] at hk
    unfold K64
    omega)
  obtain ⟨i, hh, hi, hblk⟩ := CV.out.at_
  have O4 := Lib.hid (O3.out.kept g3 (.inr (own_type O3.out hblk (by decide))))
  have R4 := Lib.hid (R3.out.grown g3 (by simp; omega))
  have B4 := Lib.hid (B3.out.grown g3 B3.out.size hck)
  have C4 := Lib.hid hc3
  clear hk hc3 g3 P bV hblk hi CV O3 R3 B3 C2 hcu
  go_wp2_with fail
  generalize hV : w3.alloc _ = U
  have bV : Below w3.heap.size w3 U := by rw [← hV]; exact (Below.refl _ _).alloc (Nat.le_refl _) _
  have P := (show Blk U w3.heap.size 3 (([0, 1, 500, 999, 1000, -1] : List Int).map fun n => Value.int .i64 n).toArray by rw [← hV]; exact Blk.new _ _ _)
  have hcu := C4.out.lt
  have R5 := Lib.hid (R4.out.below bV)
  have O5 := Lib.hid (own_below O4.out bV)
  have B5 := Lib.hid (below_chain B4.out bV)
  have CV := Lib.hid (C4.out.belowD bV)
  clear hV R4 O4 B4
  refine (pickInt_any U c w3.heap.size A len cap 6 [0, 1, 500, 999, 1000, -1] rfl (by omega) (by omega) hlen CV.out (by omega) P).mono ?_
  rintro e w4 ⟨val, hk, rfl, hc3, g3⟩
  have WV := Lib.hid (show K64 val by
    simp only [List.mem_cons, List.not_mem_nil, or_false] at hk
    unfold K64
    omega)
  obtain ⟨i, hh, hi, hblk⟩ := CV.out.at_
  have O6 := Lib.hid (O5.out.kept g3 (.inr (own_type O5.out hblk (by decide))))
  have r6 := R5.out.grown g3 (by simp; omega)
  have B6 := Lib.hid (B5.out.grown g3 B5.out.size hck)
  have R6 := Lib.hid r6
  have y0 : w4.cell? ⟨w.heap.size, 0, none⟩ = some (.int .i64 0) := by rw [r6.cell]; rfl
  have y1 : w4.cell? ⟨w.heap.size, 1, none⟩ = some (.int .i64 0) := by rw [r6.cell]; rfl
  have y2 : w4.cell? ⟨w.heap.size, 2, none⟩ = some (.int .i64 0) := by rw [r6.cell]; rfl
  have y3 : w4.cell? ⟨w.heap.size, 3, none⟩ = some (.slice none 0 0) := by rw [r6.cell]; rfl
  have f0 := r6.frozen 0
  have f1 := r6.frozen 1
  have f2 := r6.frozen 2
  have f3 := r6.frozen 3
  clear hk hc3 g3 P bV hblk hi CV O5 R5 B5 C4 hcu r6
  go_wp2_with fail
  generalize hWf : ((((w4.setCell _ _).setCell _ _).setCell _ _).setCell _ _) = Wf
  have bf : Blk Wf w.heap.size 26 #[.int .i64 k, .int .i64 a, .int .i64 bb, .slice A1 n c1] := by rw [← hWf]; exact (((R6.out.put 0 _).put 1 _).put 2 _).put 3 _
  have hb : Below w.heap.size w Wf := by rw [← hWf]; exact (((B6.out.setCell (by simp) _).setCell (by simp) _).setCell (by simp) _).setCell (by simp) _
  have o0 := O6.out.kept (grown_set w4 ⟨w.heap.size, 0, none⟩ (.int .i64 k)) (.inr (own_type O6.out R6.out (by decide)))
  have o1 := o0.kept (grown_set _ ⟨w.heap.size, 1, none⟩ (.int .i64 a)) (.inr (own_type o0 (R6.out.put 0 _) (by decide)))
  have o2 := o1.kept (grown_set _ ⟨w.heap.size, 2, none⟩ (.int .i64 bb)) (.inr (own_type o1 ((R6.out.put 0 _).put 1 _) (by decide)))
  have o3 := o2.kept (grown_set _ ⟨w.heap.size, 3, none⟩ (.slice A1 n c1)) (.inr (own_type o2 (((R6.out.put 0 _).put 1 _).put 2 _) (by decide)))
  rw [hWf] at o3
  have e0 : Wf.cell? ⟨w.heap.size, 0, none⟩ = some (.int .i64 k) := by rw [bf.cell]; rfl
  have e1 : Wf.cell? ⟨w.heap.size, 1, none⟩ = some (.int .i64 a) := by rw [bf.cell]; rfl
  have e2 : Wf.cell? ⟨w.heap.size, 2, none⟩ = some (.int .i64 bb) := by rw [bf.cell]; rfl
  have e3 : Wf.cell? ⟨w.heap.size, 3, none⟩ = some (.slice A1 n c1) := by rw [bf.cell]; rfl
  exact bodyPost_ret (v := .tuple #[.agg #[.int .i64 k, .int .i64 a, .int .i64 bb, .slice A1 n c1], .int .i64 key, .int .i64 val]) (by simp [results, Tryd.results6, go_sem, e0, e1, e2, e3]) rfl ⟨k, a, bb, A1, n, c1, zs, key, val, JK.out, JA.out, JB.out, JZ.out, hn, HL.out, WK.out, WV.out, rfl, o3, hb⟩

/-- How a draw of one small number ends. -/
def NumDraw (w : World) (e : Ending) (w' : World) : Prop := ∃ x : Int, K64 x ∧ e = .returned (.int .i64 x) ∧ Below w.heap.size w w'

set_option maxRecDepth 100000 in
theorem drawKind_any (w : World) (A : Option Addr) (len cap : Nat) (hlen : len ≤ 2097152) (hcame : Came w A len) :
    Calls Tryd.prog 13 #[.slice A len cap] w (NumDraw w) := by
  have HC := Lib.hid hcame
  clear hcame
  go_enter Tryd.func13, Tryd.ntmps13
  go_wp2_with fail
  refine (new_any w A len cap hlen HC.out).mono ?_
  rintro e w1 ⟨c, rfl, hcw, hcur, hb1⟩
  have C1 := Lib.hid hcur
  have B1 := Lib.hid hb1
  clear hcur hb1 HC
  go_wp2_with fail
  refine (below_any 11 (by omega) (by omega) w1 c A len cap hlen C1.out).mono ?_
  rintro e w2 ⟨y, hy, rfl, hc2, g2⟩
  have B2 := Lib.hid (B1.out.grown g2 B1.out.size (fun k hk => by simp at hk; omega))
  obtain ⟨v, hv⟩ : ∃ v : Int, (y : Int) - 1 = v := ⟨_, rfl⟩
  have mv : IntKind.i64.wrap v = v := IntWalk.i64_in _ (by omega)
  have WV := Lib.hid (show K64 v by unfold K64; omega)
  clear hc2 g2 C1 B1
  go_wp2
  go_ret
  exact ⟨v, WV.out, rfl, B2.out⟩

end Go.Proofs.YthkkleicekhelaaDoor.hexes
