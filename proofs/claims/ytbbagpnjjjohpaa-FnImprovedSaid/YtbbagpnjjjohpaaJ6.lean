/-
  NodeOf on both sides.
-/
import Derived.Test.YtbbagpnjjjohpaaJ5
import Derived.Test.YtbbagpnjjjohpaaJ2
import Derived.Lib.SliceRun

namespace Go.Proofs.Ytbbagpnjjjohpaa.hexes
open Go.RowKit

def nd0 : Nd := (0, 0, 0, [])
/-- The node of a number; the zero node where there is none. -/
def nodeAt (gs : List Nd) (t : Int) : Nd := if 0 ≤ t then (gs[t.toNat]?).getD nd0 else nd0
def hasB (gs : List Nd) (t : Int) : Bool := decide (0 ≤ t ∧ t ≤ (gs.length : Int) - 1)

theorem nodeAt_of {gs : List Nd} {j : Nat} (hj : j < gs.length) : nodeAt gs (j : Int) = gs[j] := by
  unfold nodeAt
  rw [if_pos (by omega), Int.toNat_natCast, List.getElem?_eq_getElem hj]
  rfl
theorem nodeAt_none {gs : List Nd} {t : Int} (h : hasB gs t = false) : nodeAt gs t = nd0 := by
  unfold nodeAt
  split
  · rw [List.getElem?_eq_none]
    · rfl
    · have := of_decide_eq_false h
      omega
  · rfl
theorem hasB_nat {gs : List Nd} {t : Int} (h : hasB gs t = true) : ∃ j : Nat, t = (j : Int) ∧ j < gs.length := by
  have := of_decide_eq_true h
  exact ⟨t.toNat, by omega, by omega⟩

set_option maxRecDepth 100000 in
theorem cloneIs_any (n : Nat) (zs : List Int) (hz : zs.length = n) (A : Option Addr) (c : Nat) (hA : A = none → c = 0) (w : World) (h1 : Ints w A zs) (hn : n ≤ 4194304) :
    Calls Try.prog 93 #[.slice A n c] w fun e w' => ∃ v, e = .returned v ∧ w'.ownsRow w.heap.size 3 1 v n (isCells zs) ∧ Below w.heap.size w w' := by
  cases A with
  | none =>
    obtain rfl := is_none h1 hz
    obtain rfl := hA rfl
    obtain rfl := List.eq_nil_of_length_eq_zero hz
    clear h1 hz hA
    have q22 : ∀ (w : World) (a : Option Addr) (n c n' c' : Nat), (binOp .eql 44 (.slice a n c) (.slice none n' c')).run Try.prog w = .ok (.bool a.isNone) w := fun w a n c n' c' => Lib.run_eql_slice_nil w _ _ a n c n' c' Try.underlying44
    go_enter Try.func93, Try.ntmps93
    go_wp2
    go_ret
    exact ⟨_, rfl, World.ownsRow_nil _ _ _ _, Below.refl _ _⟩
  | some ad =>
    have hb := Below.alloc (Below.refl w.heap.size w) (Nat.le_refl _) (.cells #[] 3)
    have h1' := Lib.hid (h1.below hb)
    have HB := Lib.hid hb
    have HZ := Lib.hid hz
    clear h1 hz hA hb
    have q22 : ∀ (w : World) (a : Option Addr) (n c n' c' : Nat), (binOp .eql 44 (.slice a n c) (.slice none n' c')).run Try.prog w = .ok (.bool a.isNone) w := fun w a n c n' c' => Lib.run_eql_slice_nil w _ _ a n c n' c' Try.underlying44
    go_enter Try.func93, Try.ntmps93
    go_wp2_with (at_builtin; refine wpList_append_is rfl (.tmp 5) (.tmp 6) (by rfl) w.heap.size _ 0 [] (by rfl) (World.ownsRow_lit w #[] 0 (Nat.le_refl _) (by decide) rfl) (some ad) n c zs (by rfl) (fun h => by cases h) HZ.out h1'.out (by omega) (by simp) ?_; intro v8 w8 own8 gr8)
    have hb8 := HB.out.grown gr8 (by simp) (fun k hk => by simp [Value.ownBlock] at hk; omega)
    rw [Nat.zero_add, List.nil_append] at own8
    have O8 := Lib.hid own8
    have B8 := Lib.hid hb8
    clear own8 gr8 hb8
    go_wp2
    go_ret
    exact ⟨_, rfl, O8.out, B8.out⟩

set_option maxRecDepth 100000 in
set_option maxHeartbeats 4000000 in
theorem specNodeOf_row {gs : List Nd} {op : Int} {k a bb : Int} {zs : List Int} {m : Nat} {q : Bool} (hx : nodeAt gs op = (k, a, bb, zs)) (hm : zs.length = m) (hq : hasB gs op = q) (wk cp : Int) (A : Option Addr) (n c : Nat) (hl : gs.length = n) (hs : ∀ x ∈ gs, x.2.2.2.length ≤ 1048576) (hn : n ≤ 1048576) (w : World) (h : Nds w A gs) :
    Calls Try.prog 56 #[.agg #[.slice A n c, .int .i64 wk, .int .i64 cp], .int .i64 op] w fun e w' => ∃ A1 c1, e = .returned (.tuple #[.agg #[.int .i64 k, .int .i64 a, .int .i64 bb, .slice A1 m c1], .bool q]) ∧ Row w' w.heap.size w'.heap.size 3 1 A1 m c1 (isCells zs) ∧ Below w.heap.size w w' := by
  obtain ⟨W, hW⟩ : ∃ W, w.alloc (.cells #[.slice A n c, .int .i64 wk, .int .i64 cp] 26) = W := ⟨_, rfl⟩
  have BW := Lib.hid (show Below w.heap.size w W by rw [← hW]; exact (Below.refl w.heap.size w).alloc (Nat.le_refl _) _)
  have KW := Lib.hid (show Blk W w.heap.size 26 #[.slice A n c, .int .i64 wk, .int .i64 cp] by rw [← hW]; exact Blk.new _ _ _)
  have SW := Lib.hid (show W.heap.size = w.heap.size + 1 by rw [← hW]; simp)
  obtain ⟨V, hV⟩ : ∃ V, W.alloc (.cells #[.int .i64 0, .int .i64 0, .int .i64 0, .slice none 0 0] 46) = V := ⟨_, rfl⟩
  have BV := Lib.hid (show Below W.heap.size W V by rw [← hV]; exact (Below.refl _ _).alloc (Nat.le_refl _) _)
  have KV := Lib.hid (show Blk V W.heap.size 46 #[.int .i64 0, .int .i64 0, .int .i64 0, .slice none 0 0] by rw [← hV]; exact Blk.new _ _ _)
  have SV := Lib.hid (show V.heap.size = W.heap.size + 1 by rw [← hV]; simp)
  have KB := Lib.hid (KW.out.below BV.out)
  have H1 := Lib.hid ((h.below BW.out).below BV.out)
  have x0 : V.cell? ⟨w.heap.size, 0, none⟩ = some (.slice A n c) := by rw [KB.out.cell]; rfl
  have z0 : V.cell? ⟨W.heap.size, 0, none⟩ = some (.int .i64 0) := by rw [KV.out.cell]; rfl
  have z1 : V.cell? ⟨W.heap.size, 1, none⟩ = some (.int .i64 0) := by rw [KV.out.cell]; rfl
  have z2 : V.cell? ⟨W.heap.size, 2, none⟩ = some (.int .i64 0) := by rw [KV.out.cell]; rfl
  have z3 : V.cell? ⟨W.heap.size, 3, none⟩ = some (.slice none 0 0) := by rw [KV.out.cell]; rfl
  have f0 := KV.out.frozen 0
  have f1 := KV.out.frozen 1
  have f2 := KV.out.frozen 2
  have f3 := KV.out.frozen 3
  have mm : IntKind.i64.wrap ((n : Int) - 1) = (n : Int) - 1 := IntWalk.i64_in _ (by omega)
  have BWV := Lib.hid (below_chain BW.out BV.out)
  have E := Lib.hid (show ∀ W, Calls Try.prog 57 #[.int .i64 op, .int .i64 0, .int .i64 ((n : Int) - 1)] W fun e w' => e = .returned (.bool q) ∧ W = w' from fun W => specInN_is (by rw [← hq, ← hl]; rfl) W)
  cases q with
  | false =>
    rw [nodeAt_none hq] at hx
    unfold nd0 at hx
    simp only [Prod.mk.injEq] at hx
    obtain ⟨rfl, rfl, rfl, rfl⟩ := hx
    obtain rfl : m = 0 := by simpa using hm.symm
    clear h hl hs hm hq
    go_enter Try.func56, Try.ntmps56
    go_wp2_with fail
    refine (E.out _).mono ?_
    rintro e w1 ⟨rfl, rfl⟩
    go_wp2_with fail
    generalize hWf : (((V.setCell _ _).setCell _ _).setCell _ _).setCell _ _ = Wf
    have bf : Blk Wf W.heap.size 46 #[.int .i64 0, .int .i64 0, .int .i64 0, .slice none 0 0] := by
      rw [← hWf]
      exact ((((KV.out.put 0 _).put 1 _).put 2 _).put 3 _)
    have hb : Below w.heap.size w Wf := by
      have s := SW.out
      rw [← hWf]
      exact ((((BWV.out.setCell (by first | (simp; done) | (simp; omega) | omega) _).setCell (by first | (simp; done) | (simp; omega) | omega) _).setCell (by first | (simp; done) | (simp; omega) | omega) _).setCell (by first | (simp; done) | (simp; omega) | omega) _)
    have e0 : Wf.cell? ⟨W.heap.size, 0, none⟩ = some (.int .i64 0) := by rw [bf.cell]; rfl
    have e1 : Wf.cell? ⟨W.heap.size, 1, none⟩ = some (.int .i64 0) := by rw [bf.cell]; rfl
    have e2 : Wf.cell? ⟨W.heap.size, 2, none⟩ = some (.int .i64 0) := by rw [bf.cell]; rfl
    have e3 : Wf.cell? ⟨W.heap.size, 3, none⟩ = some (.slice none 0 0) := by rw [bf.cell]; rfl
    exact bodyPost_ret (v := .tuple #[.agg #[.int .i64 0, .int .i64 0, .int .i64 0, .slice none 0 0], .bool false]) (by simp [results, Try.results56, go_sem, e0, e1, e2, e3]) rfl ⟨none, 0, rfl, ⟨World.ownsRow_nil _ _ _ _, fun g hg => by simp [Value.ownBlock] at hg⟩, hb⟩
  | true =>
    obtain ⟨j, rfl, hj⟩ := hasB_nat hq
    rw [nodeAt_of hj] at hx
    obtain ⟨b, off, k', a', bb', zs', A1, n1, c1, rfl, hx', hz, hc1, hin, hnil, e0, e1, e2, e3⟩ := H1.out.atN hj
    rw [hx'] at hx
    simp only [Prod.mk.injEq] at hx
    obtain ⟨rfl, rfl, rfl, rfl⟩ := hx
    obtain rfl : n1 = m := by rw [← hz, hm]
    have HO : n1 ≤ 1048576 := by have := hs _ (List.getElem_mem hj); rw [hx'] at this; rw [← hz]; exact this
    obtain ⟨U, hU⟩ : ∃ U, V.alloc (.cells #[.int .i64 k', .int .i64 a', .int .i64 bb', .slice A1 n1 c1] 46) = U := ⟨_, rfl⟩
    have BU := Lib.hid (show Below V.heap.size V U by rw [← hU]; exact (Below.refl _ _).alloc (Nat.le_refl _) _)
    have KU := Lib.hid (show Blk U V.heap.size 46 #[.int .i64 k', .int .i64 a', .int .i64 bb', .slice A1 n1 c1] by rw [← hU]; exact Blk.new _ _ _)
    have SU := Lib.hid (show U.heap.size = V.heap.size + 1 by rw [← hU]; simp)
    have KVU := Lib.hid (KV.out.below BU.out)
    have IN := Lib.hid (hin.below BU.out)
    have HZ := Lib.hid hz
    have NIL := Lib.hid hnil
    have BWU := Lib.hid (below_chain BWV.out BU.out)
    have u0 : U.cell? ⟨V.heap.size, 0, none⟩ = some (.int .i64 k') := by rw [KU.out.cell]; rfl
    have u1 : U.cell? ⟨V.heap.size, 1, none⟩ = some (.int .i64 a') := by rw [KU.out.cell]; rfl
    have u2 : U.cell? ⟨V.heap.size, 2, none⟩ = some (.int .i64 bb') := by rw [KU.out.cell]; rfl
    have u3 : U.cell? ⟨V.heap.size, 3, none⟩ = some (.slice A1 n1 c1) := by rw [KU.out.cell]; rfl
    have i0 : (0 : Int) ≤ (j : Int) := by omega
    have i1 : (j : Int) < (n : Int) := by omega
    clear h hl hs hm hq hx' hz hin hnil hj z0 z1 z2 z3
    go_enter Try.func56, Try.ntmps56
    go_wp2_with fail
    refine (E.out _).mono ?_
    rintro e w1 ⟨rfl, rfl⟩
    obtain ⟨T, hT⟩ : ∃ T, U.alloc (.cells #[] 3) = T := ⟨_, rfl⟩
    have BT := Lib.hid (show Below U.heap.size U T by rw [← hT]; exact (Below.refl _ _).alloc (Nat.le_refl _) _)
    have KT := Lib.hid (KU.out.below BT.out)
    have INT := Lib.hid (IN.out.below BT.out)
    have OT := Lib.hid (show T.ownsRow U.heap.size 3 1 (.slice (some ⟨U.heap.size, 0, none⟩) 0 0) 0 (isCells []) by rw [← hT]; exact World.ownsRow_lit U #[] 0 (Nat.le_refl _) (by decide) rfl)
    have t3 : T.cell? ⟨V.heap.size, 3, none⟩ = some (.slice A1 n1 c1) := by rw [KT.out.cell]; rfl
    go_wp2_with (at_builtin; refine wpList_append_is rfl (.tmp 20) (.tmp 22) (by rfl) U.heap.size _ 0 [] (by rfl) OT.out A1 n1 c1 zs' (by rfl) NIL.out HZ.out INT.out (by omega) BT.out.size ?_; intro v8 w8 own8 gr8; generalize hG : wpList _ _ _ _ _ _ = G)
    have hb8 : Below U.heap.size U w8 := BT.out.grown gr8 BT.out.size (own_ge OT.out)
    rw [Nat.zero_add, List.nil_append] at own8
    have O8 := Lib.hid own8
    have B8 := Lib.hid hb8
    have L8 := Lib.hid hb8.size
    have BW8 := Lib.hid (below_chain BWU.out hb8)
    clear own8 gr8 hb8 t3 hT
    have K8 := Lib.hid (KU.out.below B8.out)
    have R8 := Lib.hid (KVU.out.below B8.out)
    clear u0 u1 u2 u3 e0 e1 e2 e3 f0 f1 f2 f3 x0 hU hV hW
    have u0 : w8.cell? ⟨V.heap.size, 0, none⟩ = some (.int .i64 k') := by rw [K8.out.cell]; rfl
    have u1 : w8.cell? ⟨V.heap.size, 1, none⟩ = some (.int .i64 a') := by rw [K8.out.cell]; rfl
    have u2 : w8.cell? ⟨V.heap.size, 2, none⟩ = some (.int .i64 bb') := by rw [K8.out.cell]; rfl
    have u3 : w8.cell? ⟨V.heap.size, 3, none⟩ = some (.slice A1 n1 c1) := by rw [K8.out.cell]; rfl
    have z0 : w8.cell? ⟨W.heap.size, 0, none⟩ = some (.int .i64 0) := by rw [R8.out.cell]; rfl
    have z1 : w8.cell? ⟨W.heap.size, 1, none⟩ = some (.int .i64 0) := by rw [R8.out.cell]; rfl
    have z2 : w8.cell? ⟨W.heap.size, 2, none⟩ = some (.int .i64 0) := by rw [R8.out.cell]; rfl
    have z3 : w8.cell? ⟨W.heap.size, 3, none⟩ = some (.slice none 0 0) := by rw [R8.out.cell]; rfl
    have f3 := K8.out.frozen 3
    have g0 := R8.out.frozen 0
    have g1 := R8.out.frozen 1
    have g2 := R8.out.frozen 2
    have g3 := R8.out.frozen 3
    obtain ⟨A8, c8, rfl, _⟩ := own_form O8.out
    have ne1 : ¬ W.heap.size = V.heap.size := by have := SV.out; omega
    have ne2 : ¬ V.heap.size = W.heap.size := by have := SV.out; omega
    subst hG
    go_wp2_with fail
    generalize hWf : ((((w8.setCell _ _).setCell _ _).setCell _ _).setCell _ _).setCell _ _ = Wf
    have bf : Blk Wf W.heap.size 46 #[.int .i64 k', .int .i64 a', .int .i64 bb', .slice A8 n1 c8] := by
      rw [← hWf]
      exact (((((R8.out.other (by first | (simp; done) | (simp; omega) | omega) _).put 0 _).put 1 _).put 2 _).put 3 _)
    have hb : Below w.heap.size w Wf := by
      have s := SW.out
      have s2 := SV.out
      rw [← hWf]
      exact (((((BW8.out.setCell (by first | (simp; done) | (simp; omega) | omega) _).setCell (by first | (simp; done) | (simp; omega) | omega) _).setCell (by first | (simp; done) | (simp; omega) | omega) _).setCell (by first | (simp; done) | (simp; omega) | omega) _).setCell (by first | (simp; done) | (simp; omega) | omega) _)
    have ho : Wf.ownsRow w.heap.size 3 1 (.slice A8 n1 c8) n1 (isCells zs') := by
      have s := SW.out
      have s2 := SV.out
      have s3 := SU.out
      rw [← hWf]
      exact own_base (own_set (own_set (own_set (own_set (own_set O8.out _ (by first | (simp; done) | (simp; omega) | omega)) _ (by first | (simp; done) | (simp; omega) | omega)) _ (by first | (simp; done) | (simp; omega) | omega)) _ (by first | (simp; done) | (simp; omega) | omega)) _ (by first | (simp; done) | (simp; omega) | omega)) (by omega)
    have e0 : Wf.cell? ⟨W.heap.size, 0, none⟩ = some (.int .i64 k') := by rw [bf.cell]; rfl
    have e1 : Wf.cell? ⟨W.heap.size, 1, none⟩ = some (.int .i64 a') := by rw [bf.cell]; rfl
    have e2 : Wf.cell? ⟨W.heap.size, 2, none⟩ = some (.int .i64 bb') := by rw [bf.cell]; rfl
    have e3 : Wf.cell? ⟨W.heap.size, 3, none⟩ = some (.slice A8 n1 c8) := by rw [bf.cell]; rfl
    obtain ⟨A9, c9, he, hr⟩ := row_of ho
    simp only [Value.slice.injEq, true_and] at he
    obtain ⟨rfl, rfl⟩ := he
    exact bodyPost_ret (v := .tuple #[.agg #[.int .i64 k', .int .i64 a', .int .i64 bb', .slice A8 n1 c8], .bool true]) (by simp [results, Try.results56, go_sem, e0, e1, e2, e3]) rfl ⟨A8, c8, rfl, hr, hb⟩

set_option maxRecDepth 100000 in
set_option maxHeartbeats 4000000 in
theorem implNodeOf_row {gs : List Nd} {op : Int} {k a bb : Int} {zs : List Int} {m : Nat} {q : Bool} (hx : nodeAt gs op = (k, a, bb, zs)) (hm : zs.length = m) (hq : hasB gs op = q) (wk cp : Int) (A : Option Addr) (n c : Nat) (hl : gs.length = n) (hs : ∀ x ∈ gs, x.2.2.2.length ≤ 1048576) (hn : n ≤ 1048576) (w : World) (h : Nds w A gs) :
    Calls Try.prog 62 #[.agg #[.slice A n c, .int .i64 wk, .int .i64 cp], .int .i64 op] w fun e w' => ∃ A1 c1, e = .returned (.tuple #[.agg #[.int .i64 k, .int .i64 a, .int .i64 bb, .slice A1 m c1], .bool q]) ∧ Row w' w.heap.size w'.heap.size 3 1 A1 m c1 (isCells zs) ∧ Below w.heap.size w w' := by
  obtain ⟨W, hW⟩ : ∃ W, w.alloc (.cells #[.slice A n c, .int .i64 wk, .int .i64 cp] 26) = W := ⟨_, rfl⟩
  have BW := Lib.hid (show Below w.heap.size w W by rw [← hW]; exact (Below.refl w.heap.size w).alloc (Nat.le_refl _) _)
  have KW := Lib.hid (show Blk W w.heap.size 26 #[.slice A n c, .int .i64 wk, .int .i64 cp] by rw [← hW]; exact Blk.new _ _ _)
  have SW := Lib.hid (show W.heap.size = w.heap.size + 1 by rw [← hW]; simp)
  obtain ⟨V, hV⟩ : ∃ V, W.alloc (.cells #[.int .i64 0, .int .i64 0, .int .i64 0, .slice none 0 0] 46) = V := ⟨_, rfl⟩
  have BV := Lib.hid (show Below W.heap.size W V by rw [← hV]; exact (Below.refl _ _).alloc (Nat.le_refl _) _)
  have KV := Lib.hid (show Blk V W.heap.size 46 #[.int .i64 0, .int .i64 0, .int .i64 0, .slice none 0 0] by rw [← hV]; exact Blk.new _ _ _)
  have SV := Lib.hid (show V.heap.size = W.heap.size + 1 by rw [← hV]; simp)
  have KB := Lib.hid (KW.out.below BV.out)
  have H1 := Lib.hid ((h.below BW.out).below BV.out)
  have x0 : V.cell? ⟨w.heap.size, 0, none⟩ = some (.slice A n c) := by rw [KB.out.cell]; rfl
  have z0 : V.cell? ⟨W.heap.size, 0, none⟩ = some (.int .i64 0) := by rw [KV.out.cell]; rfl
  have z1 : V.cell? ⟨W.heap.size, 1, none⟩ = some (.int .i64 0) := by rw [KV.out.cell]; rfl
  have z2 : V.cell? ⟨W.heap.size, 2, none⟩ = some (.int .i64 0) := by rw [KV.out.cell]; rfl
  have z3 : V.cell? ⟨W.heap.size, 3, none⟩ = some (.slice none 0 0) := by rw [KV.out.cell]; rfl
  have f0 := KV.out.frozen 0
  have f1 := KV.out.frozen 1
  have f2 := KV.out.frozen 2
  have f3 := KV.out.frozen 3
  have mm : IntKind.i64.wrap ((n : Int) - 1) = (n : Int) - 1 := IntWalk.i64_in _ (by omega)
  have BWV := Lib.hid (below_chain BW.out BV.out)
  have E := Lib.hid (show ∀ W, Calls Try.prog 92 #[.slice A n c, .int .i64 op] W fun e w' => e = .returned (.bool q) ∧ W = w' from fun W => hasNode_is (by rw [← hq, ← hl]; rfl) A c hn W)
  cases q with
  | false =>
    rw [nodeAt_none hq] at hx
    unfold nd0 at hx
    simp only [Prod.mk.injEq] at hx
    obtain ⟨rfl, rfl, rfl, rfl⟩ := hx
    obtain rfl : m = 0 := by simpa using hm.symm
    clear h hl hs hm hq
    go_enter Try.func62, Try.ntmps62
    go_wp2_with fail
    refine (E.out _).mono ?_
    rintro e w1 ⟨rfl, rfl⟩
    go_wp2_with fail
    generalize hWf : (((V.setCell _ _).setCell _ _).setCell _ _).setCell _ _ = Wf
    have bf : Blk Wf W.heap.size 46 #[.int .i64 0, .int .i64 0, .int .i64 0, .slice none 0 0] := by
      rw [← hWf]
      exact ((((KV.out.put 0 _).put 1 _).put 2 _).put 3 _)
    have hb : Below w.heap.size w Wf := by
      have s := SW.out
      rw [← hWf]
      exact ((((BWV.out.setCell (by first | (simp; done) | (simp; omega) | omega) _).setCell (by first | (simp; done) | (simp; omega) | omega) _).setCell (by first | (simp; done) | (simp; omega) | omega) _).setCell (by first | (simp; done) | (simp; omega) | omega) _)
    have e0 : Wf.cell? ⟨W.heap.size, 0, none⟩ = some (.int .i64 0) := by rw [bf.cell]; rfl
    have e1 : Wf.cell? ⟨W.heap.size, 1, none⟩ = some (.int .i64 0) := by rw [bf.cell]; rfl
    have e2 : Wf.cell? ⟨W.heap.size, 2, none⟩ = some (.int .i64 0) := by rw [bf.cell]; rfl
    have e3 : Wf.cell? ⟨W.heap.size, 3, none⟩ = some (.slice none 0 0) := by rw [bf.cell]; rfl
    exact bodyPost_ret (v := .tuple #[.agg #[.int .i64 0, .int .i64 0, .int .i64 0, .slice none 0 0], .bool false]) (by simp [results, Try.results62, go_sem, e0, e1, e2, e3]) rfl ⟨none, 0, rfl, ⟨World.ownsRow_nil _ _ _ _, fun g hg => by simp [Value.ownBlock] at hg⟩, hb⟩
  | true =>
    obtain ⟨j, rfl, hj⟩ := hasB_nat hq
    rw [nodeAt_of hj] at hx
    obtain ⟨b, off, k', a', bb', zs', A1, n1, c1, rfl, hx', hz, hc1, hin, hnil, e0, e1, e2, e3⟩ := H1.out.atN hj
    rw [hx'] at hx
    simp only [Prod.mk.injEq] at hx
    obtain ⟨rfl, rfl, rfl, rfl⟩ := hx
    obtain rfl : n1 = m := by rw [← hz, hm]
    have HO : n1 ≤ 1048576 := by have := hs _ (List.getElem_mem hj); rw [hx'] at this; rw [← hz]; exact this
    obtain ⟨U, hU⟩ : ∃ U, V.alloc (.cells #[.int .i64 k', .int .i64 a', .int .i64 bb', .slice A1 n1 c1] 46) = U := ⟨_, rfl⟩
    have BU := Lib.hid (show Below V.heap.size V U by rw [← hU]; exact (Below.refl _ _).alloc (Nat.le_refl _) _)
    have KU := Lib.hid (show Blk U V.heap.size 46 #[.int .i64 k', .int .i64 a', .int .i64 bb', .slice A1 n1 c1] by rw [← hU]; exact Blk.new _ _ _)
    have SU := Lib.hid (show U.heap.size = V.heap.size + 1 by rw [← hU]; simp)
    have KVU := Lib.hid (KV.out.below BU.out)
    have IN := Lib.hid (hin.below BU.out)
    have HZ := Lib.hid hz
    have NIL := Lib.hid hnil
    have BWU := Lib.hid (below_chain BWV.out BU.out)
    have u0 : U.cell? ⟨V.heap.size, 0, none⟩ = some (.int .i64 k') := by rw [KU.out.cell]; rfl
    have u1 : U.cell? ⟨V.heap.size, 1, none⟩ = some (.int .i64 a') := by rw [KU.out.cell]; rfl
    have u2 : U.cell? ⟨V.heap.size, 2, none⟩ = some (.int .i64 bb') := by rw [KU.out.cell]; rfl
    have u3 : U.cell? ⟨V.heap.size, 3, none⟩ = some (.slice A1 n1 c1) := by rw [KU.out.cell]; rfl
    have i0 : (0 : Int) ≤ (j : Int) := by omega
    have i1 : (j : Int) < (n : Int) := by omega
    clear h hl hs hm hq hx' hz hin hnil hj z0 z1 z2 z3
    go_enter Try.func62, Try.ntmps62
    go_wp2_with fail
    refine (E.out _).mono ?_
    rintro e w1 ⟨rfl, rfl⟩
    go_wp2_with fail
    refine (cloneIs_any n1 zs' HZ.out A1 c1 NIL.out _ IN.out (by omega)).mono ?_
    rintro e w8 ⟨v8, rfl, o8, hb8⟩
    have O8 := Lib.hid o8
    have B8 := Lib.hid hb8
    have L8 := Lib.hid hb8.size
    have BW8 := Lib.hid (below_chain BWU.out hb8)
    clear o8 hb8
    have K8 := Lib.hid (KU.out.below B8.out)
    have R8 := Lib.hid (KVU.out.below B8.out)
    clear u0 u1 u2 u3 e0 e1 e2 e3 f0 f1 f2 f3 x0 hU hV hW
    have u0 : w8.cell? ⟨V.heap.size, 0, none⟩ = some (.int .i64 k') := by rw [K8.out.cell]; rfl
    have u1 : w8.cell? ⟨V.heap.size, 1, none⟩ = some (.int .i64 a') := by rw [K8.out.cell]; rfl
    have u2 : w8.cell? ⟨V.heap.size, 2, none⟩ = some (.int .i64 bb') := by rw [K8.out.cell]; rfl
    have u3 : w8.cell? ⟨V.heap.size, 3, none⟩ = some (.slice A1 n1 c1) := by rw [K8.out.cell]; rfl
    have z0 : w8.cell? ⟨W.heap.size, 0, none⟩ = some (.int .i64 0) := by rw [R8.out.cell]; rfl
    have z1 : w8.cell? ⟨W.heap.size, 1, none⟩ = some (.int .i64 0) := by rw [R8.out.cell]; rfl
    have z2 : w8.cell? ⟨W.heap.size, 2, none⟩ = some (.int .i64 0) := by rw [R8.out.cell]; rfl
    have z3 : w8.cell? ⟨W.heap.size, 3, none⟩ = some (.slice none 0 0) := by rw [R8.out.cell]; rfl
    have f3 := K8.out.frozen 3
    have g0 := R8.out.frozen 0
    have g1 := R8.out.frozen 1
    have g2 := R8.out.frozen 2
    have g3 := R8.out.frozen 3
    obtain ⟨A8, c8, rfl, _⟩ := own_form O8.out
    have ne1 : ¬ W.heap.size = V.heap.size := by have := SV.out; omega
    have ne2 : ¬ V.heap.size = W.heap.size := by have := SV.out; omega
    go_wp2_with fail
    generalize hWf : ((((w8.setCell _ _).setCell _ _).setCell _ _).setCell _ _).setCell _ _ = Wf
    have bf : Blk Wf W.heap.size 46 #[.int .i64 k', .int .i64 a', .int .i64 bb', .slice A8 n1 c8] := by
      rw [← hWf]
      exact (((((R8.out.other (by first | (simp; done) | (simp; omega) | omega) _).put 0 _).put 1 _).put 2 _).put 3 _)
    have hb : Below w.heap.size w Wf := by
      have s := SW.out
      have s2 := SV.out
      rw [← hWf]
      exact (((((BW8.out.setCell (by first | (simp; done) | (simp; omega) | omega) _).setCell (by first | (simp; done) | (simp; omega) | omega) _).setCell (by first | (simp; done) | (simp; omega) | omega) _).setCell (by first | (simp; done) | (simp; omega) | omega) _).setCell (by first | (simp; done) | (simp; omega) | omega) _)
    have ho : Wf.ownsRow w.heap.size 3 1 (.slice A8 n1 c8) n1 (isCells zs') := by
      have s := SW.out
      have s2 := SV.out
      have s3 := SU.out
      rw [← hWf]
      exact own_base (own_set (own_set (own_set (own_set (own_set O8.out _ (by first | (simp; done) | (simp; omega) | omega)) _ (by first | (simp; done) | (simp; omega) | omega)) _ (by first | (simp; done) | (simp; omega) | omega)) _ (by first | (simp; done) | (simp; omega) | omega)) _ (by first | (simp; done) | (simp; omega) | omega)) (by omega)
    have e0 : Wf.cell? ⟨W.heap.size, 0, none⟩ = some (.int .i64 k') := by rw [bf.cell]; rfl
    have e1 : Wf.cell? ⟨W.heap.size, 1, none⟩ = some (.int .i64 a') := by rw [bf.cell]; rfl
    have e2 : Wf.cell? ⟨W.heap.size, 2, none⟩ = some (.int .i64 bb') := by rw [bf.cell]; rfl
    have e3 : Wf.cell? ⟨W.heap.size, 3, none⟩ = some (.slice A8 n1 c8) := by rw [bf.cell]; rfl
    obtain ⟨A9, c9, he, hr⟩ := row_of ho
    simp only [Value.slice.injEq, true_and] at he
    obtain ⟨rfl, rfl⟩ := he
    exact bodyPost_ret (v := .tuple #[.agg #[.int .i64 k', .int .i64 a', .int .i64 bb', .slice A8 n1 c8], .bool true]) (by simp [results, Try.results62, go_sem, e0, e1, e2, e3]) rfl ⟨A8, c8, rfl, hr, hb⟩

end Go.Proofs.Ytbbagpnjjjohpaa.hexes

