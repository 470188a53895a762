/-
  The ring of a link: the contracts of impl.slotOf and (impl.ring).queue.
-/
import Derived.Test.YthkkleicekhelaaLkCopy
import Derived.Laws.Rows
import Derived.Laws.Tables
namespace Go.Proofs.Ythkkleicekhelaa.hexes
open Go.RowKit

/-- A whole variable stored into a block that is known whole. -/
theorem wpList_store_blk {P : Program} {ops : Array Oper} {rest : List Oper} {o : Oper} {a : Act} {w : World} {Q : Exit → Act → World → Prop} (hgd : o.guard = none) (ty : TypeId) (x y : Operand) (ho : o.op = .store ty x y)
    (g : Nat) (cells : Array Value) (hx : a.eval x = .pointer (some ⟨g, 0, none⟩)) (hy : a.eval y = .agg cells) (t : TypeId) (old : Array Value) (hg : Blk w g t old)
    (hi : (P.info? ty).map (·.size) = some cells.size) (hs : old.size = cells.size) (h1 : cells.all (·.oneCell') = true)
    (h : ∀ w', Blk w' g t cells → w.grownBy w' (some g) → wpList P ops Q rest (a.put o.dst undef) w') : wpList P ops Q (o :: rest) a w := by
  refine wpList_plain hgd fun _ hK => ?_
  have hn := h (w.setRow g cells) (setRow_heap w g old cells t (0, 0) hg) ⟨rfl, rfl, rfl, by simp, fun k _ hne => setRow_other w g k cells (by rintro rfl; exact hne rfl)⟩
  unfold Oper.wp execOp
  simp only [ho, hx, hy, Instr.storeAt, Instr.sureAddr, Sem.run_bind, Sem.run_pure, Result.andThen_ok, run_storeVar_row w g t ty old cells hg hi hs h1]
  exact hK _ _ hn

theorem implSlot_is {x : Int} {d : Nat} (h0 : 0 ≤ x) (_hx : x ≤ 4000000000) (hd : x % 4 = (d : Int)) (w : World) : Calls Try.prog 46 #[.int .i64 x] w fun e w' => e = .returned (.int .i64 (d : Int)) ∧ w = w' := by
  have h1 : x.tmod 4 = (d : Int) := by rw [Int.tmod_eq_emod_of_nonneg h0]; exact hd
  have m1 : IntKind.i64.wrap (d : Int) = (d : Int) := IntWalk.i64_in _ (by omega)
  clear hd
  go_enter Try.func46, Try.ntmps46
  go_wp2
  go_ret
  exact ⟨rfl, rfl⟩

/-- The queue's records lie in the ring, each at its number's slot. -/
def InRing (rs : List Rc) (G : Nat) (us : List Rc) : Prop := ∀ j, (h : j < us.length) → rs[(G + j) % 4]? = some us[j]

theorem inRing_cells {w : World} {g : Nat} {t : TypeId} {rs : List Rc} (h : Blk w g t (rcCells rs).toArray) {d : Nat} {z : Rc} (hd : rs[d]? = some z) : w.cell? ⟨g, d * 5, none⟩ = some (.int .i64 z.1) ∧ w.cell? ⟨g, d * 5 + 1, none⟩ = some (.int .i64 z.2.1.1) ∧ w.cell? ⟨g, d * 5 + 2, none⟩ = some (.int .i64 z.2.1.2) ∧ w.cell? ⟨g, d * 5 + 3, none⟩ = some (.int .i64 z.2.2.1) ∧ w.cell? ⟨g, d * 5 + 4, none⟩ = some (.int .i64 z.2.2.2) := by
  obtain ⟨hl, rfl⟩ := List.getElem?_eq_some_iff.1 hd
  obtain ⟨h0, h1, h2, h3, h4⟩ := rcCells_at rs d hl
  have key : ∀ i, w.cell? ⟨g, i, none⟩ = (rcCells rs)[i]? := fun i => by rw [h.cell]; simp
  exact ⟨(key _).trans h0, (key _).trans h1, (key _).trans h2, (key _).trans h3, (key _).trans h4⟩

theorem ring_put {w : World} {g : Nat} {t : TypeId} {rs : List Rc} (h : Blk w g t (rcCells rs).toArray) (k : Nat) (p0 p1 p2 p3 p4 : Int) :
    Blk (((((w.setCell ⟨g, k * 5, none⟩ (.int .i64 p0)).setCell ⟨g, k * 5 + 1, none⟩ (.int .i64 p1)).setCell ⟨g, k * 5 + 2, none⟩ (.int .i64 p2)).setCell ⟨g, k * 5 + 3, none⟩ (.int .i64 p3)).setCell ⟨g, k * 5 + 4, none⟩ (.int .i64 p4)) g t (rcCells (rs.set k (p0, (p1, p2), p3, p4))).toArray := by
  have := ((((h.put (k * 5) (.int .i64 p0)).put (k * 5 + 1) (.int .i64 p1)).put (k * 5 + 2) (.int .i64 p2)).put (k * 5 + 3) (.int .i64 p3)).put (k * 5 + 4) (.int .i64 p4)
  rw [← rcCells_set]
  simpa only [List.setIfInBounds_toArray] using this

set_option maxRecDepth 100000 in
set_option maxHeartbeats 4000000 in
theorem implQueue_any (rs : List Rc) (_hr : rs.length = 4) (G m : Nat) (us : List Rc) (hu : us.length = m) (hat : InRing rs G us) (hG : G ≤ 1000000001) (hm : m ≤ 4) (S : Int) (hS : S = (G : Int) + (m : Int)) (w : World) :
    Calls Try.prog 47 #[.agg (rcCells rs).toArray, .int .i64 (G : Int), .int .i64 S] w fun e w' => ∃ A c, e = .returned (.slice A m c) ∧ w'.ownsRow w.heap.size 30 5 (.slice A m c) m (rcCells us) ∧ Below w.heap.size w w' := by
  obtain ⟨i0, hi, hz0, hz1, hz2⟩ := info_parts rcinfo
  have HU := Lib.hid hu
  have HAT := Lib.hid hat
  have m1 : IntKind.i64.wrap (S - (G : Int)) = (m : Int) := by rw [hS, show (G : Int) + (m : Int) - (G : Int) = (m : Int) by omega]; exact IntWalk.i64_in _ (by omega)
  have HS := Lib.hid hS
  clear hu hat hS
  have hmk : i0.bytes * m ≤ 281474976710656 := by rw [hz2]; omega
  obtain ⟨W, hW⟩ : ∃ W, w.alloc (.cells (rcCells rs).toArray 69) = W := ⟨_, rfl⟩
  have BW := Lib.hid (show Below w.heap.size w W by rw [← hW]; exact (Below.refl _ _).alloc (Nat.le_refl _) _)
  have KW := Lib.hid (show Blk W w.heap.size 69 (rcCells rs).toArray by rw [← hW]; exact Blk.new _ _ _)
  have SW := Lib.hid (show W.heap.size = w.heap.size + 1 by rw [← hW]; simp)
  go_enter Try.func47, Try.ntmps47
  go_wp2_with (at_make; refine wpList_make_own _ rfl _ _ 24 rfl W.heap.size 30 i0 (.agg #[.int .i64 0, .int .i64 0, .int .i64 0, .int .i64 0, .int .i64 0]) 5 Try.underlying24 hi hz0 hz1 .i64 .i64 _ m rfl rfl rfl hmk (by unfold maxLen; omega) (Nat.le_refl _) ?_; intro w0 own0 gr0)
  have B0 := Lib.hid ((Below.refl W.heap.size W).grown gr0 (Nat.le_refl _) (fun j e => by cases e))
  have O0 := Lib.hid own0
  clear own0 gr0 hW m1 hmk
  go_wp2
  go_loopw [7, 8] (fun v i wr => ∃ k : Nat, k ≤ m ∧ i = .int .i64 ((G : Int) + (k : Int)) ∧ wr.ownsRow W.heap.size 30 5 v k (rcCells (us.take k)) ∧ Below W.heap.size W wr) (fun _ i _ => G + m - (intOf i).toNat)
  case atStart => exact ⟨0, Nat.zero_le _, by simp, by simpa [rcCells] using O0.out, B0.out⟩
  case round =>
    obtain ⟨k, hk, rfl, hown, hb⟩ := hrel
    have HO := Lib.hid hown
    have HB := Lib.hid hb
    clear hown hb
    by_cases hlt : k < m
    · have l1 : k < us.length := by rw [HU.out]; exact hlt
      obtain ⟨d, hd⟩ : ∃ d, (G + k) % 4 = d := ⟨_, rfl⟩
      have hd4 : d < 4 := by omega
      have hrd : rs[d]? = some us[k] := by rw [← hd]; exact HAT.out k l1
      obtain ⟨p0, p1, p2, p3, p4, hz⟩ : ∃ p0 p1 p2 p3 p4, us[k] = (p0, (p1, p2), p3, p4) := ⟨_, _, _, _, _, rfl⟩
      have hc := inRing_cells (KW.out.below HB.out) hrd
      rw [hz] at hc
      obtain ⟨e0, e1, e2, e3, e4⟩ := hc
      have E := Lib.hid (fun W => implSlot_is (x := (G : Int) + (k : Int)) (d := d) (by omega) (by omega) (by omega) W)
      have HT := Lib.hid (show us.take k ++ [(p0, (p1, p2), p3, p4)] = us.take (k + 1) by rw [List.take_succ_eq_append_getElem l1, hz])
      have i1 : (G : Int) + (k : Int) < S := by have := HS.out; omega
      have i2 : decide ((G : Int) + (k : Int) < S) = true := decide_eq_true i1
      have i3 : (0 : Int) ≤ (d : Int) := by omega
      have i4 : (d : Int) < 4 := by omega
      have m2 : IntKind.i64.wrap ((G : Int) + (k : Int) + 1) = (G : Int) + (k : Int) + 1 := IntWalk.i64_in _ (by omega)
      clear hd hrd hz l1
      go_wp2_with fail
      refine (E.out _).mono ?_
      rintro e w1 ⟨rfl, rfl⟩
      have BA := Lib.hid (HB.out.alloc HB.out.size (.cells #[.int .i64 p0, .int .i64 p1, .int .i64 p2, .int .i64 p3, .int .i64 p4] 30))
      have OA := Lib.hid (HO.out.alloc (.cells #[.int .i64 p0, .int .i64 p1, .int .i64 p2, .int .i64 p3, .int .i64 p4] 30))
      go_wp2_with (at_builtin; refine wpList_append_rc rfl (.tmp 19) (.tmp 24) (by rfl) W.heap.size _ k (us.take k) (by rfl) OA.out (some ⟨wr.heap.size, 0, none⟩) 1 1 [(p0, (p1, p2), p3, p4)] (by rfl) (fun h => by cases h) rfl (rc_new _ _ _ _ _ _) (by omega) BA.out.size ?_; intro v8 w8 own8 gr8)
      have hb8 := BA.out.grown gr8 BA.out.size (own_ge OA.out)
      rw [HT.out] at own8
      have O8 := Lib.hid own8
      have B8 := Lib.hid hb8
      clear own8 gr8 hb8 e0 e1 e2 e3 e4
      go_wp2
      go_roundw
      case rel => exact ⟨k + 1, by omega, by rw [show (G : Int) + ((k + 1 : Nat) : Int) = (G : Int) + (k : Int) + 1 by omega], O8.out, B8.out⟩
      case measure => simp [intOf]; omega
    · have hkm : k = m := by omega
      subst hkm
      have i2 : decide ((G : Int) + (k : Int) < S) = false := decide_eq_false (by have := HS.out; omega)
      have ho := HO.out
      rw [List.take_of_length_le (by rw [HU.out]; omega)] at ho
      obtain ⟨A, c, rfl, _⟩ := own_slice ho
      have OF := Lib.hid (own_base ho (by have := SW.out; omega : w.heap.size ≤ W.heap.size))
      have BF := Lib.hid (below_chain BW.out HB.out)
      clear ho hlt
      go_wp2
      go_ret
      exact ⟨A, c, rfl, OF.out, BF.out⟩
end Go.Proofs.Ythkkleicekhelaa.hexes
