/-
  spec.l08Copy.
-/
import Derived.Test.YtjplkoglibagkaaJ35
import Derived.Deep.CutBlock
import Derived.Deep.DeepCutAuto

namespace Go.Proofs.Ytjplkoglibagkaa.hexes
open Go.RowKit

/-- The nodes copied so far: each with a list of its own. -/
def Copied (b wx : World) (gs : List Nd) (vs : List Nv) : Prop :=
  ∀ i (h1 : i < vs.length) (h2 : i < gs.length), vs[i].1 = gs[i].1 ∧ vs[i].2.1 = gs[i].2.1 ∧ vs[i].2.2.1 = gs[i].2.2.1 ∧ vs[i].2.2.2.2.1 = gs[i].2.2.2.length ∧ wx.ownsRow b.heap.size 3 1 (.slice vs[i].2.2.2.1 vs[i].2.2.2.2.1 vs[i].2.2.2.2.2) vs[i].2.2.2.2.1 (isCells gs[i].2.2.2)

structure CpSt (b wx : World) (r x : Nat) (A2 : Option Addr) (k c2 : Nat) (wk cp : Int) (gs : List Nd) (vs : List Nv) : Prop where
  br : b.heap.size ≤ r
  bx : b.heap.size ≤ x
  rx : r ≠ x
  be : Below b.heap.size b wx
  kr : Blk wx r 26 #[.slice none 0 0, .int .i64 0, .int .i64 0]
  kx : Blk wx x 26 #[.slice A2 k c2, .int .i64 wk, .int .i64 cp]
  row : wx.ownsRow b.heap.size 37 4 (.slice A2 k c2) k (nvCells vs)
  vl : vs.length = k
  inn : Copied b wx gs vs

variable {b wx w' : World} {r x k c2 : Nat} {A2 : Option Addr} {wk cp : Int} {gs : List Nd} {vs : List Nv}

theorem CpSt.fresh (S : CpSt b wx r x A2 k c2 wk cp gs vs) (hb : Below wx.heap.size wx w') : CpSt b w' r x A2 k c2 wk cp gs vs :=
  ⟨S.br, S.bx, S.rx, below_chain S.be hb, S.kr.below hb, S.kx.below hb, own_below S.row hb, S.vl, fun i h1 h2 => by
    obtain ⟨f0, f1, f2, f3, fo⟩ := S.inn i h1 h2
    exact ⟨f0, f1, f2, f3, own_below fo hb⟩⟩

/-- A block of another type than int was turned. -/
theorem Copied.kept {row : Option Nat} (h : Copied b wx gs vs) (hg : wx.grownBy w' row) (hr : ∀ g, row = some g → ∃ (t : TypeId) (cs : Array Value), Blk wx g t cs ∧ t ≠ 3) : Copied b w' gs vs := fun i h1 h2 => by
  obtain ⟨f0, f1, f2, f3, fo⟩ := h i h1 h2
  refine ⟨f0, f1, f2, f3, fo.kept hg ?_⟩
  cases e : (Value.slice vs[i].2.2.2.1 vs[i].2.2.2.2.1 vs[i].2.2.2.2.2).ownBlock with
  | none => exact .inl rfl
  | some q =>
    refine .inr fun e2 => ?_
    obtain ⟨t, cs, hb, ht⟩ := hr q e2.symm
    exact own_type fo hb ht e

theorem row_blk {w : World} {B n c : Nat} {A : Option Addr} {xs : List Value} (h : w.ownsRow B 37 4 (.slice A n c) n xs) : ∀ g, (Value.slice A n c).ownBlock = some g → ∃ (t : TypeId) (cs : Array Value), Blk w g t cs ∧ t ≠ 3 := fun g hg => by
  rcases h.2 with ⟨h0, _⟩ | ⟨g', cap', cur, hv, _, hgg, _⟩
  · rw [h0] at hg; simp [Value.ownBlock] at hg
  · rw [hv] at hg
    obtain rfl : g' = g := by simpa [Value.ownBlock] using hg
    exact ⟨_, _, hgg, by decide⟩

/-- Behind an append of the next node and the store of its result. -/
theorem CpSt.app (S : CpSt b wx r x A2 k c2 wk cp gs vs) {u : Nv} {v : Value} (hk : k < gs.length) (hO : w'.ownsRow b.heap.size 37 4 v (k + 1) (nvCells (vs ++ [u]))) (hG : wx.grownBy w' (Value.slice A2 k c2).ownBlock)
    (hu : u.1 = gs[k].1 ∧ u.2.1 = gs[k].2.1 ∧ u.2.2.1 = gs[k].2.2.1 ∧ u.2.2.2.2.1 = gs[k].2.2.2.length ∧ wx.ownsRow b.heap.size 3 1 (.slice u.2.2.2.1 u.2.2.2.2.1 u.2.2.2.2.2) u.2.2.2.2.1 (isCells gs[k].2.2.2)) :
    ∃ A3 c3, v = .slice A3 (k + 1) c3 ∧ CpSt b (w'.setCell ⟨x, 0, none⟩ v) r x A3 (k + 1) c3 wk cp gs (vs ++ [u]) := by
  obtain ⟨A3, c3, rfl, _⟩ := own_form hO
  have k1 := S.kr.grown hG (Ne.symm (own_type S.row S.kr (by decide)))
  have k2 := S.kx.grown hG (Ne.symm (own_type S.row S.kx (by decide)))
  have be := S.be.grown hG S.be.size (own_ge S.row)
  have ii : Copied b wx gs (vs ++ [u]) := fun i h1 h2 => by
    by_cases e : i < vs.length
    · rw [List.getElem_append_left e]
      exact S.inn i e h2
    · obtain rfl : i = k := by have := S.vl; simp at h1; omega
      rw [List.getElem_append_right (by omega)]
      simp only [S.vl, Nat.sub_self, List.getElem_cons_zero]
      exact hu
  refine ⟨A3, c3, rfl, S.br, S.bx, S.rx, be.setCell (by simpa using S.bx) _, k1.other (by simpa using S.rx) _, k2.put 0 _, hO.kept (grown_set w' ⟨x, 0, none⟩ _) (.inr (own_type hO k2 (by decide))), by simp [S.vl], ?_⟩
  exact (ii.kept hG (row_blk S.row)).kept (grown_set w' ⟨x, 0, none⟩ _) (fun g hg => by
    obtain rfl : x = g := by simpa using hg
    exact ⟨_, _, k2, by decide⟩)

/-- What was copied reads as the list that it was copied from. -/
theorem copied_nds {w : World} {B n c : Nat} {A : Option Addr} (hr : w.ownsRow B 37 4 (.slice A n c) n (nvCells vs)) (hl : vs.length = n) (hgl : gs.length = n) (hB : b.heap.size = B) (hi : Copied b w gs vs) : NdsF B w A gs := fun hp => by
  subst hB
  have hn : 0 < n := by omega
  obtain ⟨A', c', he, hf⟩ := own_form hr
  simp only [Value.slice.injEq, true_and] at he
  obtain ⟨rfl, rfl⟩ := he
  obtain ⟨g, rfl⟩ := hf hn
  refine ⟨g, 0, rfl, own_ge hr g rfl, own_lt hr, fun j hj => ?_⟩
  have hjv : j < vs.length := by omega
  obtain ⟨e0, e1, e2, e3⟩ := nvCells_at vs j hjv
  obtain ⟨f0, f1, f2, f3, fo⟩ := hi j hjv hj
  obtain ⟨A2, c2, he, _, hs⟩ := Ints.of_own fo
  simp only [Value.slice.injEq, true_and] at he
  obtain ⟨e5, e6⟩ := he
  have hcap : vs[j].2.2.2.2.1 ≤ vs[j].2.2.2.2.2 := by
    rcases fo.2 with ⟨h0, h00⟩ | ⟨g', cap, cur, hv, _, _, hnc, _⟩
    · omega
    · simp only [Value.slice.injEq, true_and] at hv
      omega
  refine ⟨vs[j], ⟨f0, f1, f2, f3.symm, hcap, by rw [e5]; exact hs, own_nil fo⟩, fun b' off' e => ?_, ?_, ?_, ?_, ?_⟩
  · rcases fo.2 with ⟨h0, h00⟩ | ⟨g', cap, cur, hv, hB, _⟩
    · simp only [Value.slice.injEq] at h0
      rw [h0.1] at e; cases e
    · simp only [Value.slice.injEq] at hv
      rw [hv.1] at e
      cases e
      exact hB
  · rw [Nat.zero_add, hr.cellAt (j * 4) (by omega)]; exact e0
  · rw [Nat.zero_add, hr.cellAt (j * 4 + 1) (by omega)]; exact e1
  · rw [Nat.zero_add, hr.cellAt (j * 4 + 2) (by omega)]; exact e2
  · rw [Nat.zero_add, hr.cellAt (j * 4 + 3) (by omega)]; exact e3

set_option maxRecDepth 100000 in
set_option maxHeartbeats 8000000 in
theorem copy_any (gs : List Nd) (n : Nat) (hl : gs.length = n) (hs : ∀ y ∈ gs, y.2.2.2.length ≤ 1048576) (hn : n ≤ 1000000) (wk cp : Int) (A : Option Addr) (c : Nat) (w : World) (h : Nds w A gs) :
    Calls Try.prog 52 #[.agg #[.slice A n c, .int .i64 wk, .int .i64 cp]] w fun e w' => ∃ A' c', e = .returned (.agg #[.slice A' n c', .int .i64 wk, .int .i64 cp]) ∧ NdsF w.heap.size w' A' gs ∧ Below w.heap.size w w' := by
  obtain ⟨W1, hW1⟩ : ∃ z, w.alloc (.cells #[.slice A n c, .int .i64 wk, .int .i64 cp] 26) = z := ⟨_, rfl⟩
  have b1 : Below w.heap.size w W1 := by rw [← hW1]; exact (Below.refl _ _).alloc (Nat.le_refl _) _
  have k1 : Blk W1 w.heap.size 26 #[.slice A n c, .int .i64 wk, .int .i64 cp] := by rw [← hW1]; exact Blk.new _ _ _
  obtain ⟨W2, hW2⟩ : ∃ z, W1.alloc (.cells #[.slice none 0 0, .int .i64 0, .int .i64 0] 26) = z := ⟨_, rfl⟩
  have b2 : Below W1.heap.size W1 W2 := by rw [← hW2]; exact (Below.refl _ _).alloc (Nat.le_refl _) _
  have kr : Blk W2 W1.heap.size 26 #[.slice none 0 0, .int .i64 0, .int .i64 0] := by rw [← hW2]; exact Blk.new _ _ _
  obtain ⟨W3, hW3⟩ : ∃ z, W2.alloc (.cells #[.slice A n c, .int .i64 wk, .int .i64 cp] 26) = z := ⟨_, rfl⟩
  have b3 : Below W2.heap.size W2 W3 := by rw [← hW3]; exact (Below.refl _ _).alloc (Nat.le_refl _) _
  have kx : Blk W3 W2.heap.size 26 #[.slice A n c, .int .i64 wk, .int .i64 cp] := by rw [← hW3]; exact Blk.new _ _ _
  obtain ⟨W4, hW4⟩ : ∃ z, W3.alloc (.cells #[] 37) = z := ⟨_, rfl⟩
  have b4 : Below W3.heap.size W3 W4 := by rw [← hW4]; exact (Below.refl _ _).alloc (Nat.le_refl _) _
  have o4 : W4.ownsRow W1.heap.size 37 4 (.slice (some ⟨W3.heap.size, 0, none⟩) 0 0) 0 (nvCells []) := by rw [← hW4]; exact World.ownsRow_lit W3 #[] 0 (Nat.le_trans b2.size b3.size) (by decide) rfl
  have l1 : w.heap.size < W1.heap.size := k1.lt
  have l2 : W1.heap.size < W2.heap.size := kr.lt
  have K1 := Lib.hid k1
  have x0 : W2.cell? ⟨w.heap.size, 0, none⟩ = some (.slice A n c) := by rw [(k1.below b2).cell]; rfl
  have x1 : W2.cell? ⟨w.heap.size, 1, none⟩ = some (.int .i64 wk) := by rw [(k1.below b2).cell]; rfl
  have x2 : W2.cell? ⟨w.heap.size, 2, none⟩ = some (.int .i64 cp) := by rw [(k1.below b2).cell]; rfl
  have kx4 := kx.below b4
  have y0 : W4.cell? ⟨W2.heap.size, 0, none⟩ = some (.slice A n c) := by rw [kx4.cell]; rfl
  have yf := kx4.frozen 0
  obtain ⟨V, hV⟩ : ∃ z, W4.setCell ⟨W2.heap.size, 0, none⟩ (.slice (some ⟨W3.heap.size, 0, none⟩) 0 0) = z := ⟨_, rfl⟩
  have S0 := Lib.hid (show CpSt W1 V W1.heap.size W2.heap.size (some ⟨W3.heap.size, 0, none⟩) 0 0 wk cp gs [] from by
    rw [← hV]
    refine ⟨Nat.le_refl _, by omega, by omega, (below_chain (below_chain b2 b3) b4).setCell (by simp; omega) _, (((kr.below b3).below b4).other (by simp; omega) _), kx4.put 0 _, o4.kept (grown_set W4 ⟨W2.heap.size, 0, none⟩ _) (.inr (own_type o4 kx4 (by decide))), rfl, fun i h1 => absurd h1 (by simp)⟩)
  have H1 := Lib.hid (h.below b1)
  have HL := Lib.hid hl
  have HS := Lib.hid hs
  have BW := Lib.hid b1
  clear k1 kr kx kx4 o4 b1 b2 b3 b4 h hl hs
  go_enter Try.func52, Try.ntmps52
  go_wp2
  clear x0 x1 x2 y0 yf hW1 hW2 hW3 hW4 hV
  go_loopw [4] (fun i wr => ∃ (k : Nat) (A2 : Option Addr) (c2 : Nat) (vs : List Nv), k ≤ n ∧ i = .int .i64 (k : Int) ∧ CpSt W1 wr W1.heap.size W2.heap.size A2 k c2 wk cp gs vs) (fun i _ => n - (intOf i).toNat)
  case atStart => exact ⟨0, _, _, [], Nat.zero_le _, rfl, S0.out⟩
  case round =>
    obtain ⟨k, A2, c2, vs, hk, rfl, hS⟩ := hrel
    have S := Lib.hid hS
    have KR := Lib.hid (K1.out.below hS.be)
    have x0 : wr.cell? ⟨w.heap.size, 0, none⟩ = some (.slice A n c) := by rw [KR.out.cell]; rfl
    clear hS S0
    by_cases hlt : k < n
    · have lg : k < gs.length := by rw [HL.out]; exact hlt
      obtain ⟨b, off, kd, a, bb, zs, A1, m, c1, rfl, hx, hz, hc1, hin, hnil, e0, e1, e2, e3⟩ := (H1.out.below S.out.be).atN lg
      have hm : m ≤ 1048576 := by have := HS.out _ (List.getElem_mem lg); rw [hx] at this; rw [← hz]; exact this
      have X := Lib.hid hx
      have HZ := Lib.hid hz
      have NIL := Lib.hid hnil
      obtain ⟨U, hU⟩ : ∃ z, wr.alloc (.cells #[.int .i64 kd, .int .i64 a, .int .i64 bb, .slice A1 m c1] 37) = z := ⟨_, rfl⟩
      have BU := Lib.hid (show Below wr.heap.size wr U by rw [← hU]; exact (Below.refl _ _).alloc (Nat.le_refl _) _)
      have KU := Lib.hid (show Blk U wr.heap.size 37 #[.int .i64 kd, .int .i64 a, .int .i64 bb, .slice A1 m c1] by rw [← hU]; exact Blk.new _ _ _)
      obtain ⟨T, hT⟩ : ∃ z, U.alloc (.cells #[] 3) = z := ⟨_, rfl⟩
      have BT := Lib.hid (show Below U.heap.size U T by rw [← hT]; exact (Below.refl _ _).alloc (Nat.le_refl _) _)
      have KT := Lib.hid (KU.out.below BT.out)
      have INT := Lib.hid ((hin.below BU.out).below BT.out)
      have lw : W1.heap.size ≤ U.heap.size := Nat.le_trans S.out.be.size BU.out.size
      have OT := Lib.hid (show T.ownsRow W1.heap.size 3 1 (.slice (some ⟨U.heap.size, 0, none⟩) 0 0) 0 (isCells []) by rw [← hT]; exact World.ownsRow_lit U #[] 0 lw (by decide) rfl)
      have t3 : T.cell? ⟨wr.heap.size, 3, none⟩ = some (.slice A1 m c1) := by rw [KT.out.cell]; rfl
      have lU : wr.heap.size < U.heap.size := KU.out.lt
      have i0 : (0 : Int) ≤ (k : Int) := by omega
      have i1 : (k : Int) < (n : Int) := by omega
      have lT : W1.heap.size ≤ T.heap.size := Nat.le_trans lw BT.out.size
      clear hx hz hin hnil
      go_wp2_with (at_builtin; refine wpList_append_is rfl (.tmp 21) (.tmp 23) (by rfl) W1.heap.size _ 0 [] (by rfl) OT.out A1 m c1 zs (by rfl) NIL.out HZ.out INT.out (by omega) lT ?_; intro v8 w8 own8 gr8; generalize hG : wpList _ _ _ _ _ _ = G)
      obtain ⟨A8, c8, rfl, _⟩ := own_form own8
      rw [Nat.zero_add, List.nil_append] at own8
      have hb8 : Below wr.heap.size wr w8 := by
        refine (below_chain BU.out BT.out).grown gr8 (below_chain BU.out BT.out).size (fun q hq => ?_)
        have : U.heap.size = q := by simpa [Value.ownBlock] using hq
        omega
      have k8 : Blk w8 wr.heap.size 37 #[.int .i64 kd, .int .i64 a, .int .i64 bb, .slice A1 m c1] := KT.out.grown gr8 (by simp [Value.ownBlock]; omega)
      have z3 : w8.cell? ⟨wr.heap.size, 3, none⟩ = some (.slice A1 m c1) := by rw [k8.cell]; rfl
      have zf := k8.frozen 3
      have O8 := Lib.hid own8
      have B8 := Lib.hid hb8
      have K8 := Lib.hid k8
      clear own8 gr8 hb8 k8 e0 e1 e2 e3 t3 x0 hU hT
      subst hG
      rw [Nat.zero_add]
      go_upto_region 8 with fail
      clear z3 zf
      generalize hV8 : w8.setCell _ _ = V8
      have B9 := Lib.hid (show Below wr.heap.size wr V8 by rw [← hV8]; exact B8.out.setCell (by simp) _)
      have K9 := Lib.hid (show Blk V8 wr.heap.size 37 #[.int .i64 kd, .int .i64 a, .int .i64 bb, .slice A8 m c8] by rw [← hV8]; exact K8.out.put 3 _)
      have O9 := Lib.hid (show V8.ownsRow W1.heap.size 3 1 (.slice A8 m c8) m (isCells zs) by rw [← hV8]; exact O8.out.kept (grown_set w8 ⟨wr.heap.size, 3, none⟩ _) (.inr (own_type O8.out K8.out (by decide))))
      have S9 := Lib.hid (S.out.fresh B9.out)
      clear hV8 S K8 O8 B8
      have x0 : V8.cell? ⟨W2.heap.size, 0, none⟩ = some (.slice A2 k c2) := by rw [S9.out.kx.cell]; rfl
      have v0 : V8.cell? ⟨wr.heap.size, 0, none⟩ = some (.int .i64 kd) := by rw [K9.out.cell]; rfl
      have v1 : V8.cell? ⟨wr.heap.size, 1, none⟩ = some (.int .i64 a) := by rw [K9.out.cell]; rfl
      have v2 : V8.cell? ⟨wr.heap.size, 2, none⟩ = some (.int .i64 bb) := by rw [K9.out.cell]; rfl
      have v3 : V8.cell? ⟨wr.heap.size, 3, none⟩ = some (.slice A8 m c8) := by rw [K9.out.cell]; rfl
      obtain ⟨P, hP⟩ : ∃ z, V8.alloc (.cells #[.int .i64 kd, .int .i64 a, .int .i64 bb, .slice A8 m c8] 37) = z := ⟨_, rfl⟩
      have bP : Below V8.heap.size V8 P := by rw [← hP]; exact (Below.refl _ _).alloc (Nat.le_refl _) _
      have KP := Lib.hid (show Blk P V8.heap.size 37 (nvCells [(kd, a, bb, A8, m, c8)]).toArray by rw [← hP]; exact Blk.new _ _ _)
      have SP := Lib.hid (S9.out.fresh bP)
      have OP := Lib.hid (own_below O9.out bP)
      have gP : W1.heap.size ≤ P.heap.size := SP.out.be.size
      clear bP S9 O9
      go_wp2_with (at_builtin; refine wpList_append_nd rfl (.tmp 27) (.tmp 29) (by rfl) W1.heap.size _ k vs (by rfl) SP.out.row V8.heap.size (kd, a, bb, A8, m, c8) (by rfl) KP.out (by omega) gP ?_; intro v10 w10 own10 gr10; generalize hG : wpList _ _ _ _ _ _ = G)
      obtain ⟨A3, c3, rfl, hS2⟩ := SP.out.app lg own10 gr10 (by
        rw [X.out]
        exact ⟨rfl, rfl, rfl, HZ.out.symm, OP.out⟩)
      have kx10 := SP.out.kx.grown gr10 (Ne.symm (own_type SP.out.row SP.out.kx (by decide)))
      have u0 : w10.cell? ⟨W2.heap.size, 0, none⟩ = some (.slice A2 k c2) := by rw [kx10.cell]; rfl
      have uf := kx10.frozen 0
      have SN := Lib.hid hS2
      clear own10 gr10 kx10 hS2 SP OP KP x0 v0 v1 v2 v3 hP X lg
      subst hG
      go_wp2
      go_roundw
      case rel => exact ⟨k + 1, A3, c3, _, by omega, by go_num, SN.out⟩
      case measure => simp [intOf]; omega
    · obtain rfl : k = n := by omega
      have x0 : wr.cell? ⟨W2.heap.size, 0, none⟩ = some (.slice A2 k c2) := by rw [S.out.kx.cell]; rfl
      have x1 : wr.cell? ⟨W2.heap.size, 1, none⟩ = some (.int .i64 wk) := by rw [S.out.kx.cell]; rfl
      have x2 : wr.cell? ⟨W2.heap.size, 2, none⟩ = some (.int .i64 cp) := by rw [S.out.kx.cell]; rfl
      have z0 : wr.cell? ⟨w.heap.size, 0, none⟩ = some (.slice A k c) := by rw [KR.out.cell]; rfl
      have y0 : wr.cell? ⟨W1.heap.size, 0, none⟩ = some (.slice none 0 0) := by rw [S.out.kr.cell]; rfl
      have y1 : wr.cell? ⟨W1.heap.size, 1, none⟩ = some (.int .i64 0) := by rw [S.out.kr.cell]; rfl
      have y2 : wr.cell? ⟨W1.heap.size, 2, none⟩ = some (.int .i64 0) := by rw [S.out.kr.cell]; rfl
      have f0 := S.out.kr.frozen 0
      have f1 := S.out.kr.frozen 1
      have f2 := S.out.kr.frozen 2
      go_wp2_with fail
      generalize hWf : ((wr.setCell _ _).setCell _ _).setCell _ _ = Wf
      have kf : Blk Wf W1.heap.size 26 #[.slice A2 k c2, .int .i64 wk, .int .i64 cp] := by rw [← hWf]; exact ((S.out.kr.put 0 _).put 1 _).put 2 _
      have bf : Below W1.heap.size W1 Wf := by rw [← hWf]; exact ((S.out.be.setCell (Nat.le_refl _) _).setCell (Nat.le_refl _) _).setCell (Nat.le_refl _) _
      have o0 := S.out.row.kept (grown_set wr ⟨W1.heap.size, 0, none⟩ (.slice A2 k c2)) (.inr (own_type S.out.row S.out.kr (by decide)))
      have o1 := o0.kept (grown_set _ ⟨W1.heap.size, 1, none⟩ (.int .i64 wk)) (.inr (own_type o0 (S.out.kr.put 0 _) (by decide)))
      have o2 := o1.kept (grown_set _ ⟨W1.heap.size, 2, none⟩ (.int .i64 cp)) (.inr (own_type o1 ((S.out.kr.put 0 _).put 1 _) (by decide)))
      have one : ∀ (V : World) (cs : Array Value), Blk V W1.heap.size 26 cs → ∀ g, some W1.heap.size = some g → ∃ (t : TypeId) (cs : Array Value), Blk V g t cs ∧ t ≠ 3 := fun V cs hb g hg => by
        obtain rfl : W1.heap.size = g := by simpa using hg
        exact ⟨_, _, hb, by decide⟩
      have i2 := ((S.out.inn.kept (grown_set wr ⟨W1.heap.size, 0, none⟩ (.slice A2 k c2)) (one _ _ S.out.kr)).kept (grown_set _ ⟨W1.heap.size, 1, none⟩ (.int .i64 wk)) (one _ _ (S.out.kr.put 0 _))).kept (grown_set _ ⟨W1.heap.size, 2, none⟩ (.int .i64 cp)) (one _ _ ((S.out.kr.put 0 _).put 1 _))
      rw [hWf] at o2 i2
      have nf := (copied_nds o2 S.out.vl HL.out rfl i2).lower (Nat.le_of_lt l1)
      have e0 : Wf.cell? ⟨W1.heap.size, 0, none⟩ = some (.slice A2 k c2) := by rw [kf.cell]; rfl
      have e1 : Wf.cell? ⟨W1.heap.size, 1, none⟩ = some (.int .i64 wk) := by rw [kf.cell]; rfl
      have e2 : Wf.cell? ⟨W1.heap.size, 2, none⟩ = some (.int .i64 cp) := by rw [kf.cell]; rfl
      exact bodyPost_ret (v := .agg #[.slice A2 k c2, .int .i64 wk, .int .i64 cp]) (by simp [results, Try.results52, go_sem, e0, e1, e2]) rfl ⟨A2, c2, rfl, nf, below_chain BW.out bf⟩

end Go.Proofs.Ytjplkoglibagkaa.hexes

