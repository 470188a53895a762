/-
  A link with a queue of its own: the contracts of spec.l06Copy and impl.copyOfLink.
-/
import Derived.Test.YthkkleicekhelaaLkList
import Derived.Test.YthkkleicekhelaaLkBase
import Derived.Laws.AppendOwnNone
import Derived.Lib.SliceRun
namespace Go.Proofs.Ythkkleicekhelaa.hexes
open Go.RowKit

theorem own_slice {w : World} {B e size n : Nat} {v : Value} {xs : List Value} (h : w.ownsRow B e size v n xs) : ∃ A c, v = .slice A n c ∧ (A = none → c = 0) := by
  obtain ⟨A, c, rfl, _⟩ := own_form h
  exact ⟨A, c, rfl, own_nil h⟩
theorem own_rcs {w : World} {B e n c : Nat} {A : Option Addr} {zs : List Rc} (h : w.ownsRow B e 5 (.slice A n c) n (rcCells zs)) : Rcs w A zs := by
  obtain ⟨A', c', he, _, hs⟩ := Rcs.of_own h
  simp only [Value.slice.injEq, true_and] at he
  obtain ⟨rfl, rfl⟩ := he
  exact hs
theorem Blk.rowed {w w' : World} {g : Nat} {t : TypeId} {cs : Array Value} {B e size n : Nat} {v : Value} {xs : List Value} (h : Blk w g t cs) (ho : w.ownsRow B e size v n xs) (hg : w.grownBy w' v.ownBlock) (hlt : g < B) : Blk w' g t cs := by
  refine h.grown hg fun e => ?_
  have := own_ge ho g e.symm
  omega

theorem cloneRc_any (n : Nat) (zs : List Rc) (hz : zs.length = n) (A : Option Addr) (c : Nat) (hA : A = none → c = 0) (w : World) (h1 : Rcs w A zs) (hn : n ≤ 4194304) :
    Calls Try.prog 75 #[.slice A n c] w fun e w' => ∃ v, e = .returned v ∧ w'.ownsRow w.heap.size 30 5 v n (rcCells zs) ∧ Below w.heap.size w w' := by
  cases A with
  | none =>
    obtain rfl := rcs_none h1 hz
    obtain rfl := hA rfl
    obtain rfl := List.eq_nil_of_length_eq_zero hz
    clear h1 hz hA
    have q22 : ∀ (w : World) (a : Option Addr) (n c n' c' : Nat), (binOp .eql 24 (.slice a n c) (.slice none n' c')).run Try.prog w = .ok (.bool a.isNone) w := fun w a n c n' c' => Lib.run_eql_slice_nil w _ _ a n c n' c' Try.underlying24
    go_enter Try.func75, Try.ntmps75
    go_wp2
    go_ret
    exact ⟨_, rfl, World.ownsRow_nil _ _ _ _, Below.refl _ _⟩
  | some ad =>
    have hb := Below.alloc (Below.refl w.heap.size w) (Nat.le_refl _) (.cells #[] 30)
    have S := Lib.hid (h1.below hb)
    have HB := Lib.hid hb
    have HZ := Lib.hid hz
    clear h1 hz hA hb
    have q22 : ∀ (w : World) (a : Option Addr) (n c n' c' : Nat), (binOp .eql 24 (.slice a n c) (.slice none n' c')).run Try.prog w = .ok (.bool a.isNone) w := fun w a n c n' c' => Lib.run_eql_slice_nil w _ _ a n c n' c' Try.underlying24
    go_enter Try.func75, Try.ntmps75
    go_wp2_with (at_builtin; refine wpList_append_rc rfl (.tmp 5) (.tmp 6) (by rfl) w.heap.size (.slice (some ⟨w.heap.size, 0, none⟩) 0 0) 0 [] (by rfl) (World.ownsRow_lit w #[] 0 (Nat.le_refl _) (by decide) (by rfl)) (some ad) n c zs rfl (fun h => by cases h) HZ.out S.out (by omega) HB.out.size ?_; intro v' w2 own2 gr2)
    have hb2 := HB.out.grown gr2 HB.out.size (fun k hk => Nat.le_of_eq (Option.some.inj hk))
    rw [Nat.zero_add, List.nil_append] at own2
    have O2 := Lib.hid own2
    have B2 := Lib.hid hb2
    clear own2 gr2 hb2
    go_wp2
    go_ret
    exact ⟨_, rfl, O2.out, B2.out⟩

set_option maxRecDepth 100000 in
theorem specCopy_any (n : Nat) (zs : List Rc) (hz : zs.length = n) (A : Option Addr) (c : Nat) (hA : A = none → c = 0) (p a b s g : Int) (w : World) (h1 : Rcs w A zs) (hn : n ≤ 1048576) :
    Calls Try.prog 48 #[.agg #[.int .i64 p, .slice A n c, .int .i64 a, .int .i64 b, .int .i64 s, .int .i64 g]] w fun e w' => ∃ A1 c1, e = .returned (.agg #[.int .i64 p, .slice A1 n c1, .int .i64 a, .int .i64 b, .int .i64 s, .int .i64 g]) ∧ w'.ownsRow w.heap.size 30 5 (.slice A1 n c1) n (rcCells zs) ∧ Below w.heap.size w w' := by
  have H1 := Lib.hid h1
  have HZ := Lib.hid hz
  have HA := Lib.hid hA
  clear h1 hz hA
  obtain ⟨W, hW⟩ : ∃ W, ((w.alloc (.cells #[.int .i64 p, .slice A n c, .int .i64 a, .int .i64 b, .int .i64 s, .int .i64 g] 26)).alloc (.cells #[.int .i64 0, .slice none 0 0, .int .i64 0, .int .i64 0, .int .i64 0, .int .i64 0] 26)) = W := ⟨_, rfl⟩
  have B0 := Lib.hid (show Below w.heap.size w W by rw [← hW]; exact (((Below.refl _ _).alloc (by first | (simp; done) | (simp; omega) | omega) _).alloc (by first | (simp; done) | (simp; omega) | omega) _))
  have HS := Lib.hid (show W.heap.size = w.heap.size + 2 by rw [← hW]; simp)
  have K0_0 := Lib.hid (show Blk W w.heap.size 26 #[.int .i64 p, .slice A n c, .int .i64 a, .int .i64 b, .int .i64 s, .int .i64 g] by rw [← hW]; exact (Below.heap_alloc _ _ _ (by simp)).trans (Blk.new _ _ _))
  have K1_0 := Lib.hid (show Blk W (w.heap.size + 1) 26 #[.int .i64 0, .slice none 0 0, .int .i64 0, .int .i64 0, .int .i64 0, .int .i64 0] by rw [← hW]; exact (show w.heap.size + 1 = (w.alloc _).heap.size by simp) ▸ Blk.new _ _ _)
  have S := Lib.hid (rcs_alloc (H1.out.below B0.out) (.cells #[] 30))
  have HL := Lib.hid (show (W.alloc (.cells #[] 30)).heap.size = W.heap.size + 1 by simp)
  have x0_1 : W.cell? ⟨w.heap.size, 1, none⟩ = some (.slice A n c) := by rw [K0_0.out.cell]; rfl
  have x9 := alloc_keep (o := .cells #[] 30) x0_1
  go_enter Try.func48, Try.ntmps48
  go_wp2_with (at_builtin; refine wpList_append_rc rfl (.tmp 3) (.tmp 5) (by rfl) W.heap.size (.slice (some ⟨W.heap.size, 0, none⟩) 0 0) 0 [] (by rfl) (World.ownsRow_lit W #[] 0 (Nat.le_refl _) (by decide) rfl) A n c zs (by rfl) HA.out HZ.out S.out (by omega) (by rw [HL.out]; omega) ?_; intro v8 w8 own8 gr8; generalize hG : wpList _ _ _ _ _ _ = G)
  subst hG
  clear x0_1 x9
  have hb := ((Below.refl W.heap.size W).alloc (Nat.le_refl _) (.cells #[] 30)).grown gr8 (by rw [HL.out]; omega) (fun k hk => Nat.le_of_eq (Option.some.inj hk))
  rw [Nat.zero_add, List.nil_append] at own8
  obtain ⟨A8, c8, rfl, _⟩ := own_slice own8
  clear gr8 hW
  have B1 := Lib.hid (below_chain B0.out hb)
  have K0_1 := Lib.hid (K0_0.out.below hb)
  have K1_1 := Lib.hid (K1_0.out.below hb)
  clear hb B0 K0_0 K1_0
  have O_1 := Lib.hid own8
  clear own8
  have x0_0 : w8.cell? ⟨w.heap.size, 0, none⟩ = some (.int .i64 p) := by rw [K0_1.out.cell]; rfl
  have x0_1 : w8.cell? ⟨w.heap.size, 1, none⟩ = some (.slice A n c) := by rw [K0_1.out.cell]; rfl
  have x0_2 : w8.cell? ⟨w.heap.size, 2, none⟩ = some (.int .i64 a) := by rw [K0_1.out.cell]; rfl
  have x0_3 : w8.cell? ⟨w.heap.size, 3, none⟩ = some (.int .i64 b) := by rw [K0_1.out.cell]; rfl
  have x0_4 : w8.cell? ⟨w.heap.size, 4, none⟩ = some (.int .i64 s) := by rw [K0_1.out.cell]; rfl
  have x0_5 : w8.cell? ⟨w.heap.size, 5, none⟩ = some (.int .i64 g) := by rw [K0_1.out.cell]; rfl
  have y0_1 := K0_1.out.frozen 1
  have x1_0 : w8.cell? ⟨w.heap.size + 1, 0, none⟩ = some (.int .i64 0) := by rw [K1_1.out.cell]; rfl
  have y1_0 := K1_1.out.frozen 0
  have x1_1 : w8.cell? ⟨w.heap.size + 1, 1, none⟩ = some (.slice none 0 0) := by rw [K1_1.out.cell]; rfl
  have y1_1 := K1_1.out.frozen 1
  have x1_2 : w8.cell? ⟨w.heap.size + 1, 2, none⟩ = some (.int .i64 0) := by rw [K1_1.out.cell]; rfl
  have y1_2 := K1_1.out.frozen 2
  have x1_3 : w8.cell? ⟨w.heap.size + 1, 3, none⟩ = some (.int .i64 0) := by rw [K1_1.out.cell]; rfl
  have y1_3 := K1_1.out.frozen 3
  have x1_4 : w8.cell? ⟨w.heap.size + 1, 4, none⟩ = some (.int .i64 0) := by rw [K1_1.out.cell]; rfl
  have y1_4 := K1_1.out.frozen 4
  have x1_5 : w8.cell? ⟨w.heap.size + 1, 5, none⟩ = some (.int .i64 0) := by rw [K1_1.out.cell]; rfl
  have y1_5 := K1_1.out.frozen 5
  go_wp2_with fail
  clear x0_0 x0_1 x0_2 x0_3 x0_4 x0_5 y0_1 x1_0 y1_0 x1_1 y1_1 x1_2 y1_2 x1_3 y1_3 x1_4 y1_4 x1_5 y1_5
  generalize hV : (((((((w8.setCell _ _).setCell _ _).setCell _ _).setCell _ _).setCell _ _).setCell _ _).setCell _ _) = Wf
  have B2 := Lib.hid (show Below w.heap.size w Wf by rw [← hV]; exact (((((((B1.out.setCell (by first | (simp; done) | (simp; omega) | omega) _).setCell (by first | (simp; done) | (simp; omega) | omega) _).setCell (by first | (simp; done) | (simp; omega) | omega) _).setCell (by first | (simp; done) | (simp; omega) | omega) _).setCell (by first | (simp; done) | (simp; omega) | omega) _).setCell (by first | (simp; done) | (simp; omega) | omega) _).setCell (by first | (simp; done) | (simp; omega) | omega) _))
  have O_2 := Lib.hid (show Wf.ownsRow W.heap.size 30 5 (.slice A8 n c8) (n) (rcCells (zs)) by rw [← hV]; exact (own_set (own_set (own_set (own_set (own_set (own_set (own_set O_1.out _ (by have hs := HS.out; first | (simp; done) | (simp; omega) | omega)) _ (by have hs := HS.out; first | (simp; done) | (simp; omega) | omega)) _ (by have hs := HS.out; first | (simp; done) | (simp; omega) | omega)) _ (by have hs := HS.out; first | (simp; done) | (simp; omega) | omega)) _ (by have hs := HS.out; first | (simp; done) | (simp; omega) | omega)) _ (by have hs := HS.out; first | (simp; done) | (simp; omega) | omega)) _ (by have hs := HS.out; first | (simp; done) | (simp; omega) | omega)))
  have K0_2 := Lib.hid (show Blk Wf (w.heap.size) 26 #[.int .i64 p, .slice A8 n c8, .int .i64 a, .int .i64 b, .int .i64 s, .int .i64 g] by rw [← hV]; exact (((((((K0_1.out.put 1 _).other (by first | (simp; done) | (simp; omega) | omega) _).other (by first | (simp; done) | (simp; omega) | omega) _).other (by first | (simp; done) | (simp; omega) | omega) _).other (by first | (simp; done) | (simp; omega) | omega) _).other (by first | (simp; done) | (simp; omega) | omega) _).other (by first | (simp; done) | (simp; omega) | omega) _))
  have K1_2 := Lib.hid (show Blk Wf (w.heap.size + 1) 26 #[.int .i64 p, .slice A8 n c8, .int .i64 a, .int .i64 b, .int .i64 s, .int .i64 g] by rw [← hV]; exact (((((((K1_1.out.other (by first | (simp; done) | (simp; omega) | omega) _).put 0 _).put 1 _).put 2 _).put 3 _).put 4 _).put 5 _))
  clear hV B1 K0_1 K1_1 O_1
  have r1_0 : Wf.cell? ⟨w.heap.size + 1, 0, none⟩ = some (.int .i64 p) := by rw [K1_2.out.cell]; rfl
  have r1_1 : Wf.cell? ⟨w.heap.size + 1, 1, none⟩ = some (.slice A8 n c8) := by rw [K1_2.out.cell]; rfl
  have r1_2 : Wf.cell? ⟨w.heap.size + 1, 2, none⟩ = some (.int .i64 a) := by rw [K1_2.out.cell]; rfl
  have r1_3 : Wf.cell? ⟨w.heap.size + 1, 3, none⟩ = some (.int .i64 b) := by rw [K1_2.out.cell]; rfl
  have r1_4 : Wf.cell? ⟨w.heap.size + 1, 4, none⟩ = some (.int .i64 s) := by rw [K1_2.out.cell]; rfl
  have r1_5 : Wf.cell? ⟨w.heap.size + 1, 5, none⟩ = some (.int .i64 g) := by rw [K1_2.out.cell]; rfl
  exact bodyPost_ret (v := .agg #[.int .i64 p, .slice A8 n c8, .int .i64 a, .int .i64 b, .int .i64 s, .int .i64 g]) (by simp [results, Try.results48, go_sem, r1_0, r1_1, r1_2, r1_3, r1_4, r1_5]) rfl ⟨A8, c8, rfl, own_base O_2.out (by have hs := HS.out; omega), B2.out⟩

set_option maxRecDepth 100000 in
theorem implCopy_any (n : Nat) (zs : List Rc) (hz : zs.length = n) (A : Option Addr) (c : Nat) (hA : A = none → c = 0) (p a b s g : Int) (w : World) (h1 : Rcs w A zs) (hn : n ≤ 1048576) :
    Calls Try.prog 44 #[.agg #[.int .i64 p, .slice A n c, .int .i64 a, .int .i64 b, .int .i64 s, .int .i64 g]] w fun e w' => ∃ A1 c1, e = .returned (.agg #[.int .i64 p, .slice A1 n c1, .int .i64 a, .int .i64 b, .int .i64 s, .int .i64 g]) ∧ w'.ownsRow w.heap.size 30 5 (.slice A1 n c1) n (rcCells zs) ∧ Below w.heap.size w w' := by
  have H1 := Lib.hid h1
  have HZ := Lib.hid hz
  have HA := Lib.hid hA
  clear h1 hz hA
  go_enter Try.func44, Try.ntmps44
  go_wp2_with fail
  generalize hW : ((w.alloc _).alloc _) = W
  have B0 := Lib.hid (show Below w.heap.size w W by rw [← hW]; exact (((Below.refl _ _).alloc (by first | (simp; done) | (simp; omega) | omega) _).alloc (by first | (simp; done) | (simp; omega) | omega) _))
  have HS := Lib.hid (show W.heap.size = w.heap.size + 2 by rw [← hW]; simp)
  have K0_0 := Lib.hid (show Blk W (w.heap.size) 26 #[.int .i64 p, .slice A n c, .int .i64 a, .int .i64 b, .int .i64 s, .int .i64 g] by rw [← hW]; exact ((Below.heap_alloc _ _ _ (by first | (simp; done) | (simp; omega))).trans (Blk.new _ _ _)))
  have K1_0 := Lib.hid (show Blk W (w.heap.size + 1) 26 #[.int .i64 0, .slice none 0 0, .int .i64 0, .int .i64 0, .int .i64 0, .int .i64 0] by rw [← hW]; exact ((show w.heap.size + 1 = ((w.alloc _)).heap.size by simp) ▸ Blk.new _ _ _))
  clear hW
  refine (cloneRc_any n zs HZ.out A c HA.out W (H1.out.below B0.out) (by omega)).mono ?_
  rintro e w1 ⟨v, rfl, own8, hb⟩
  obtain ⟨A8, c8, rfl, _⟩ := own_slice own8
  have B1 := Lib.hid (below_chain B0.out hb)
  have K0_1 := Lib.hid (K0_0.out.below hb)
  have K1_1 := Lib.hid (K1_0.out.below hb)
  clear hb B0 K0_0 K1_0
  have O_1 := Lib.hid own8
  clear own8
  have x0_0 : w1.cell? ⟨w.heap.size, 0, none⟩ = some (.int .i64 p) := by rw [K0_1.out.cell]; rfl
  have x0_1 : w1.cell? ⟨w.heap.size, 1, none⟩ = some (.slice A n c) := by rw [K0_1.out.cell]; rfl
  have x0_2 : w1.cell? ⟨w.heap.size, 2, none⟩ = some (.int .i64 a) := by rw [K0_1.out.cell]; rfl
  have x0_3 : w1.cell? ⟨w.heap.size, 3, none⟩ = some (.int .i64 b) := by rw [K0_1.out.cell]; rfl
  have x0_4 : w1.cell? ⟨w.heap.size, 4, none⟩ = some (.int .i64 s) := by rw [K0_1.out.cell]; rfl
  have x0_5 : w1.cell? ⟨w.heap.size, 5, none⟩ = some (.int .i64 g) := by rw [K0_1.out.cell]; rfl
  have y0_1 := K0_1.out.frozen 1
  have x1_0 : w1.cell? ⟨w.heap.size + 1, 0, none⟩ = some (.int .i64 0) := by rw [K1_1.out.cell]; rfl
  have y1_0 := K1_1.out.frozen 0
  have x1_1 : w1.cell? ⟨w.heap.size + 1, 1, none⟩ = some (.slice none 0 0) := by rw [K1_1.out.cell]; rfl
  have y1_1 := K1_1.out.frozen 1
  have x1_2 : w1.cell? ⟨w.heap.size + 1, 2, none⟩ = some (.int .i64 0) := by rw [K1_1.out.cell]; rfl
  have y1_2 := K1_1.out.frozen 2
  have x1_3 : w1.cell? ⟨w.heap.size + 1, 3, none⟩ = some (.int .i64 0) := by rw [K1_1.out.cell]; rfl
  have y1_3 := K1_1.out.frozen 3
  have x1_4 : w1.cell? ⟨w.heap.size + 1, 4, none⟩ = some (.int .i64 0) := by rw [K1_1.out.cell]; rfl
  have y1_4 := K1_1.out.frozen 4
  have x1_5 : w1.cell? ⟨w.heap.size + 1, 5, none⟩ = some (.int .i64 0) := by rw [K1_1.out.cell]; rfl
  have y1_5 := K1_1.out.frozen 5
  go_wp2_with fail
  clear x0_0 x0_1 x0_2 x0_3 x0_4 x0_5 y0_1 x1_0 y1_0 x1_1 y1_1 x1_2 y1_2 x1_3 y1_3 x1_4 y1_4 x1_5 y1_5
  generalize hV : (((((((w1.setCell _ _).setCell _ _).setCell _ _).setCell _ _).setCell _ _).setCell _ _).setCell _ _) = Wf
  have B2 := Lib.hid (show Below w.heap.size w Wf by rw [← hV]; exact (((((((B1.out.setCell (by first | (simp; done) | (simp; omega) | omega) _).setCell (by first | (simp; done) | (simp; omega) | omega) _).setCell (by first | (simp; done) | (simp; omega) | omega) _).setCell (by first | (simp; done) | (simp; omega) | omega) _).setCell (by first | (simp; done) | (simp; omega) | omega) _).setCell (by first | (simp; done) | (simp; omega) | omega) _).setCell (by first | (simp; done) | (simp; omega) | omega) _))
  have O_2 := Lib.hid (show Wf.ownsRow W.heap.size 30 5 (.slice A8 n c8) (n) (rcCells (zs)) by rw [← hV]; exact (own_set (own_set (own_set (own_set (own_set (own_set (own_set O_1.out _ (by have hs := HS.out; first | (simp; done) | (simp; omega) | omega)) _ (by have hs := HS.out; first | (simp; done) | (simp; omega) | omega)) _ (by have hs := HS.out; first | (simp; done) | (simp; omega) | omega)) _ (by have hs := HS.out; first | (simp; done) | (simp; omega) | omega)) _ (by have hs := HS.out; first | (simp; done) | (simp; omega) | omega)) _ (by have hs := HS.out; first | (simp; done) | (simp; omega) | omega)) _ (by have hs := HS.out; first | (simp; done) | (simp; omega) | omega)))
  have K0_2 := Lib.hid (show Blk Wf (w.heap.size) 26 #[.int .i64 p, .slice A8 n c8, .int .i64 a, .int .i64 b, .int .i64 s, .int .i64 g] by rw [← hV]; exact (((((((K0_1.out.put 1 _).other (by first | (simp; done) | (simp; omega) | omega) _).other (by first | (simp; done) | (simp; omega) | omega) _).other (by first | (simp; done) | (simp; omega) | omega) _).other (by first | (simp; done) | (simp; omega) | omega) _).other (by first | (simp; done) | (simp; omega) | omega) _).other (by first | (simp; done) | (simp; omega) | omega) _))
  have K1_2 := Lib.hid (show Blk Wf (w.heap.size + 1) 26 #[.int .i64 p, .slice A8 n c8, .int .i64 a, .int .i64 b, .int .i64 s, .int .i64 g] by rw [← hV]; exact (((((((K1_1.out.other (by first | (simp; done) | (simp; omega) | omega) _).put 0 _).put 1 _).put 2 _).put 3 _).put 4 _).put 5 _))
  clear hV B1 K0_1 K1_1 O_1
  have r1_0 : Wf.cell? ⟨w.heap.size + 1, 0, none⟩ = some (.int .i64 p) := by rw [K1_2.out.cell]; rfl
  have r1_1 : Wf.cell? ⟨w.heap.size + 1, 1, none⟩ = some (.slice A8 n c8) := by rw [K1_2.out.cell]; rfl
  have r1_2 : Wf.cell? ⟨w.heap.size + 1, 2, none⟩ = some (.int .i64 a) := by rw [K1_2.out.cell]; rfl
  have r1_3 : Wf.cell? ⟨w.heap.size + 1, 3, none⟩ = some (.int .i64 b) := by rw [K1_2.out.cell]; rfl
  have r1_4 : Wf.cell? ⟨w.heap.size + 1, 4, none⟩ = some (.int .i64 s) := by rw [K1_2.out.cell]; rfl
  have r1_5 : Wf.cell? ⟨w.heap.size + 1, 5, none⟩ = some (.int .i64 g) := by rw [K1_2.out.cell]; rfl
  exact bodyPost_ret (v := .agg #[.int .i64 p, .slice A8 n c8, .int .i64 a, .int .i64 b, .int .i64 s, .int .i64 g]) (by simp [results, Try.results44, go_sem, r1_0, r1_1, r1_2, r1_3, r1_4, r1_5]) rfl ⟨A8, c8, rfl, own_base O_2.out (by have hs := HS.out; omega), B2.out⟩
end Go.Proofs.Ythkkleicekhelaa.hexes
