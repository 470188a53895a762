/-
  The cursor over the bytes of a draw: what it holds, and the contract of spec.l01Byte.
  Minimal as a function on lists: its answer is the one ascending list of the least stamps.
  Owned rows of stamps: what an append takes, what a row's cells are.
  Lists of stamps put behind an owned list: the law for the walk, and the contracts of slices.Clone, spec.MergeFronts and spec.FrontierOk.
  Rows between two bounds: what an exact law keeps of the lists that it holds, whatever is called and written beside them; the laws' own functions on stamps in these words.
  Lists of ints in memory: how they lie there, and the contracts of the laws' own functions on them.
  A block beside a store elsewhere.
-/
import Derived.Test.YtbbagpnjjjohpaaJ0
import Derived.Laws.BitsLemmas
import Derived.WalkSpells
import Derived.WalkLawsBesides
import Derived.Laws.Pointers
import Derived.Laws.AppendOwnNone
import Derived.Lib.SliceRun
import Derived.Deep.Slices
import Derived.ChangeSame
import Derived.OpenShut

namespace Go.Proofs.Ytbbagpnjjjohpaa.hexes
open Go.RowKit

theorem i64_and255 (n : Int) : bits .and .i64 n 255 = n % 256 := by
  have h255 : (BitVec.ofInt 64 255).toNat = 2 ^ 8 - 1 := by decide
  have key : (BitVec.ofInt 64 n &&& BitVec.ofInt 64 255).toNat = (n % ((2 ^ 64 : Nat) : Int)).toNat % 2 ^ 8 := by
    rw [BitVec.toNat_and, BitVec.toNat_ofInt, h255, Nat.and_two_pow_sub_one_eq_mod]
  show IntKind.i64.wrap ((BitVec.ofInt 64 n &&& BitVec.ofInt 64 255).toNat : Nat) = n % 256
  rw [key, IntKind.wrap_i64]
  omega

/-- Block g is just the cells cs of element type t, none frozen. -/
def Blk (w : World) (g : Nat) (t : TypeId) (cs : Array Value) : Prop := w.heap[g]? = some (.cells cs t (0, 0))
theorem Blk.lt {w : World} {g : Nat} {t : TypeId} {cs : Array Value} (h : Blk w g t cs) : g < w.heap.size := by
  rcases Nat.lt_or_ge g w.heap.size with hlt | hge
  · exact hlt
  · unfold Blk at h; rw [Array.getElem?_eq_none hge] at h; cases h
theorem Blk.cell {w : World} {g : Nat} {t : TypeId} {cs : Array Value} (h : Blk w g t cs) (i : Nat) : w.cell? ⟨g, i, none⟩ = cs[i]? := cell_of_row w g i cs t (0, 0) h
theorem Blk.frozen {w : World} {g : Nat} {t : TypeId} {cs : Array Value} (h : Blk w g t cs) (i : Nat) : w.frozen? ⟨g, i, none⟩ = false := by
  unfold Blk at h
  simp [World.frozen?, h]
theorem Blk.put {w : World} {g : Nat} {t : TypeId} {cs : Array Value} (h : Blk w g t cs) (i : Nat) (u : Value) : Blk (w.setCell ⟨g, i, none⟩ u) g t (cs.setIfInBounds i u) := by
  unfold Blk at h ⊢
  simp [World.setCell, Array.getElem?_modify, h]
theorem Blk.drewN {w : World} {g : Nat} {t : TypeId} {cs : Array Value} (h : Blk w g t cs) (n : Nat) : Blk (w.drewN n) g t cs := h
theorem Blk.new (w : World) (t : TypeId) (cs : Array Value) : Blk (w.alloc (.cells cs t)) w.heap.size t cs := heap_alloc_new w _
theorem Blk.below {w w' : World} {g : Nat} {t : TypeId} {cs : Array Value} (h : Blk w g t cs) (hb : Below w.heap.size w w') : Blk w' g t cs := (hb.block g h.lt).trans h
theorem Blk.grown {w w' : World} {g : Nat} {t : TypeId} {cs : Array Value} {row : Option Nat} (h : Blk w g t cs) (hb : w.grownBy w' row) (hg : some g ≠ row) : Blk w' g t cs := (hb.block g h.lt hg).trans h

theorem only_drewN {a w : World} {row : Option Nat} (h : a.grownBy w row) (n : Nat) : a.grownBy (w.drewN n) row := ⟨h.os, h.tape, h.output, h.size, h.block⟩
theorem only_setCell {a w : World} {g : Nat} (h : a.grownBy w (some g)) (j : Nat) (u : Value) : a.grownBy (w.setCell ⟨g, j, none⟩ u) (some g) :=
  ⟨h.os, h.tape, h.output, by simpa [World.setCell] using h.size, fun i hi hne => (Below.heap_setCell w ⟨g, j, none⟩ u i (by rintro rfl; exact hne rfl)).trans (h.block i hi hne)⟩

/-- The bytes that a draw reads: a slice that came in, outside block c. -/
def Bytes8 (w : World) (c : Nat) (A : Option Addr) (len : Nat) : Prop :=
  0 < len → ∃ b off, A = some ⟨b, off, none⟩ ∧ b ≠ c ∧ b < w.heap.size ∧ ∀ j, j < len → ∃ z : Nat, z ≤ 255 ∧ w.cell? ⟨b, off + j, none⟩ = some (.int .u8 (z : Int))

theorem Bytes8.grown {w w' : World} {c : Nat} {A : Option Addr} {len : Nat} (h : Bytes8 w c A len) (hg : w.grownBy w' (some c)) : Bytes8 w' c A len := fun hl => by
  obtain ⟨b, off, hA, hne, hlt, hc⟩ := h hl
  refine ⟨b, off, hA, hne, Nat.lt_of_lt_of_le hlt hg.size, fun j hj => ?_⟩
  obtain ⟨z, hz, hcell⟩ := hc j hj
  exact ⟨z, hz, (World.cell?_of_block (a := ⟨b, off + j, none⟩) (hg.block b hlt (by simpa using hne))).trans hcell⟩
theorem Bytes8.below {w w' : World} {c : Nat} {A : Option Addr} {len : Nat} (h : Bytes8 w c A len) (hb : Below w.heap.size w w') : Bytes8 w' c A len := fun hl => by
  obtain ⟨b, off, hA, hne, hlt, hc⟩ := h hl
  refine ⟨b, off, hA, hne, Nat.lt_of_lt_of_le hlt hb.size, fun j hj => ?_⟩
  obtain ⟨z, hz, hcell⟩ := hc j hj
  exact ⟨z, hz, (hb.cell (p := ⟨b, off + j, none⟩) hlt).trans hcell⟩

/-- The cursor in block c over the bytes. -/
structure Cursor (w : World) (c : Nat) (A : Option Addr) (len cap : Nat) : Prop where
  at_ : ∃ (i : Nat) (h : Int), i ≤ len ∧ Blk w c 116 #[.slice A len cap, .int .i64 (i : Int), .int .i64 h]
  bytes : Bytes8 w c A len

def ByteEnd (w : World) (c : Nat) (A : Option Addr) (len cap : Nat) (e : Ending) (w' : World) : Prop :=
  ∃ x : Nat, x ≤ 255 ∧ e = .returned (.int .i64 (x : Int)) ∧ Cursor w' c A len cap ∧ w.grownBy w' (some c)

set_option maxRecDepth 100000 in
set_option maxHeartbeats 1000000 in
theorem byte_any (w : World) (c : Nat) (A : Option Addr) (len cap : Nat) (hlen : len ≤ 2097152) (hcur : Cursor w c A len cap) :
    Calls Try.prog 85 #[.pointer (some ⟨c, 0, none⟩)] w (ByteEnd w c A len cap) := by
  obtain ⟨⟨i, h, hi, hblk⟩, hby⟩ := hcur
  have c0 : w.cell? ⟨c, 0, none⟩ = some (.slice A len cap) := by rw [hblk.cell]; rfl
  have c1 : w.cell? ⟨c, 1, none⟩ = some (.int .i64 (i : Int)) := by rw [hblk.cell]; rfl
  have c2 : w.cell? ⟨c, 2, none⟩ = some (.int .i64 h) := by rw [hblk.cell]; rfl
  have f1 := hblk.frozen 1
  have f2 := hblk.frozen 2
  have HB := Lib.hid hblk
  have HY := Lib.hid hby
  clear hblk hby
  go_enter Try.func85, Try.ntmps85
  go_wp2_with fail
  generalize wrap64 (wrap64 (h * 6364136223846793005) + 1442695040888963407) = h2
  generalize hw1 : w.setCell ⟨c, 2, none⟩ (.int .i64 h2) = w1
  have blk1 : Blk w1 c 116 #[.slice A len cap, .int .i64 (i : Int), .int .i64 h2] := by rw [← hw1]; exact HB.out.put 2 _
  have g1 : w.grownBy w1 (some c) := by rw [← hw1]; exact only_setCell (grown_refl _ _) 2 _
  clear c0 c1 c2 f1 f2 hw1
  have c0 : w1.cell? ⟨c, 0, none⟩ = some (.slice A len cap) := by rw [blk1.cell]; rfl
  have c1 : w1.cell? ⟨c, 1, none⟩ = some (.int .i64 (i : Int)) := by rw [blk1.cell]; rfl
  have c2 : w1.cell? ⟨c, 2, none⟩ = some (.int .i64 h2) := by rw [blk1.cell]; rfl
  have f1 := blk1.frozen 1
  have B1 := Lib.hid blk1
  have G1 := Lib.hid g1
  have Y1 := Lib.hid (HY.out.grown g1)
  clear blk1 g1 HB HY
  go_quiet (fail)
  go_wp2_with fail
  generalize hx : bits BinOp.and IntKind.i64 _ 255 = x
  rw [i64_and255] at hx
  obtain ⟨xn, rfl, hxn⟩ : ∃ xn : Nat, x = (xn : Int) ∧ xn ≤ 255 := ⟨x.toNat, by omega, by omega⟩
  clear hx
  by_cases hlt : i < len
  · obtain ⟨b, off, rfl, hbc, hbl, hz⟩ := Y1.out (by omega)
    obtain ⟨z, hz1, hcell⟩ := hz i hlt
    clear hz
    have hd : decide ((i : Int) < (len : Int)) = true := by simp; omega
    have hd2 : decide (i < len) = true := by simp; omega
    have j0 : (0 : Int) ≤ (i : Int) := by omega
    have j1 : (i : Int) < (len : Int) := by omega
    go_quiet (fail)
    go_wp2_with fail
    go_quiet (fail)
    go_wp2_with fail
    generalize hy : bits BinOp.and IntKind.i64 _ 255 = y
    rw [i64_and255] at hy
    obtain ⟨yn, rfl, hyn⟩ : ∃ yn : Nat, y = (yn : Int) ∧ yn ≤ 255 := ⟨y.toNat, by omega, by omega⟩
    clear hy
    go_wp2
    go_ret
    exact ⟨yn, hyn, rfl, ⟨⟨i + 1, h2, by omega, (B1.out.drewN _).put 1 _⟩, Y1.out.grown (only_setCell (only_drewN (grown_refl _ _) _) 1 _)⟩, only_setCell (only_drewN G1.out _) 1 _⟩
  · have hd : decide ((i : Int) < (len : Int)) = false := by simp; omega
    have hd2 : decide (i < len) = false := by simp; omega
    go_quiet (fail)
    go_wp2
    go_ret
    exact ⟨xn, hxn, rfl, ⟨⟨i, h2, by omega, (B1.out.drewN _).drewN _⟩, Y1.out⟩, only_drewN (only_drewN G1.out _) _⟩

/-- How a drawn number below n ends: the number, the cursor, nothing else written. -/
def BelowEnd (n : Nat) (w : World) (c : Nat) (A : Option Addr) (len cap : Nat) (e : Ending) (w' : World) : Prop :=
  ∃ x : Nat, x < n ∧ e = .returned (.int .i64 (x : Int)) ∧ Cursor w' c A len cap ∧ w.grownBy w' (some c)

set_option maxRecDepth 100000 in
theorem below_small (n : Nat) (h0 : 0 < n) (h1 : n ≤ 256) (w : World) (c : Nat) (A : Option Addr) (len cap : Nat) (hlen : len ≤ 2097152) (hcur : Cursor w c A len cap) :
    Calls Try.prog 54 #[.pointer (some ⟨c, 0, none⟩), .int .i64 (n : Int)] w (BelowEnd n w c A len cap) := by
  have q0 : decide ((n : Int) ≤ 0) = false := by simp; omega
  have q1 : decide ((n : Int) ≤ 256) = true := by simp; omega
  have HC := Lib.hid hcur
  clear hcur
  go_enter Try.func54, Try.ntmps54
  go_wp2_with fail
  refine (byte_any w c A len cap hlen HC.out).mono ?_
  rintro e w1 ⟨x, hx, rfl, hc1, g1⟩
  have C1 := Lib.hid hc1
  have G1 := Lib.hid g1
  clear hc1 g1
  have hm : (x : Int) % (n : Int) = ((x % n : Nat) : Int) := by simp
  have HM := Lib.hid hm
  clear hm
  go_wp2
  go_ret
  exact ⟨x % n, Nat.mod_lt _ h0, by rw [← HM.out]; rfl, C1.out, G1.out⟩

set_option maxRecDepth 100000 in
theorem below_large (n : Nat) (h0 : 256 < n) (h1 : n ≤ 4294967296) (w : World) (c : Nat) (A : Option Addr) (len cap : Nat) (hlen : len ≤ 2097152) (hcur : Cursor w c A len cap) :
    Calls Try.prog 54 #[.pointer (some ⟨c, 0, none⟩), .int .i64 (n : Int)] w (BelowEnd n w c A len cap) := by
  have q0 : decide ((n : Int) ≤ 0) = false := by simp; omega
  have q1 : decide ((n : Int) ≤ 256) = false := by simp; omega
  have HC := Lib.hid hcur
  clear hcur
  go_enter Try.func54, Try.ntmps54
  go_wp2_with fail
  refine (byte_any w c A len cap hlen HC.out).mono ?_
  rintro e w1 ⟨x, hx, rfl, hc1, g1⟩
  have C1 := Lib.hid hc1
  have G1 := Lib.hid g1
  clear hc1 g1
  go_wp2_with fail
  refine (byte_any w1 c A len cap hlen C1.out).mono ?_
  rintro e w2 ⟨y, hy, rfl, hc1, g1⟩
  have C2 := Lib.hid hc1
  have G2 := Lib.hid (grown_trans G1.out g1)
  clear hc1 g1
  go_wp2_with fail
  refine (byte_any w2 c A len cap hlen C2.out).mono ?_
  rintro e w3 ⟨z, hz, rfl, hc1, g1⟩
  have C3 := Lib.hid hc1
  have G3 := Lib.hid (grown_trans G2.out g1)
  clear hc1 g1
  go_wp2_with fail
  refine (byte_any w3 c A len cap hlen C3.out).mono ?_
  rintro e w4 ⟨t, ht, rfl, hc1, g1⟩
  have C4 := Lib.hid hc1
  have G4 := Lib.hid (grown_trans G3.out g1)
  clear hc1 g1
  go_wp2
  go_ret
  exact ⟨(x * 16777216 + y * 65536 + z * 256 + t) % n, Nat.mod_lt _ (by omega), by simp, C4.out, G4.out⟩

theorem below_any (n : Nat) (h0 : 0 < n) (h1 : n ≤ 4294967296) (w : World) (c : Nat) (A : Option Addr) (len cap : Nat) (hlen : len ≤ 2097152) (hcur : Cursor w c A len cap) :
    Calls Try.prog 54 #[.pointer (some ⟨c, 0, none⟩), .int .i64 (n : Int)] w (BelowEnd n w c A len cap) := by
  by_cases h : n ≤ 256
  · exact below_small n h0 h w c A len cap hlen hcur
  · exact below_large n (by omega) h1 w c A len cap hlen hcur

/-- How a new cursor ends: a pointer to a new block. -/
def NewEnd (w : World) (A : Option Addr) (len cap : Nat) (e : Ending) (w' : World) : Prop :=
  ∃ c, e = .returned (.pointer (some ⟨c, 0, none⟩)) ∧ w.heap.size ≤ c ∧ Cursor w' c A len cap ∧ Below w.heap.size w w'

/-- What came in as code: nil, or bytes. -/
def Came (w : World) (A : Option Addr) (len : Nat) : Prop :=
  0 < len → ∃ b off, A = some ⟨b, off, none⟩ ∧ b < w.heap.size ∧ ∀ j, j < len → ∃ z : Nat, z ≤ 255 ∧ w.cell? ⟨b, off + j, none⟩ = some (.int .u8 (z : Int))

theorem Came.bytes {w w' : World} {A : Option Addr} {len c : Nat} (h : Came w A len) (hb : Below w.heap.size w w') (hc : w.heap.size ≤ c) : Bytes8 w' c A len := fun hl => by
  obtain ⟨b, off, hA, hlt, hz⟩ := h hl
  refine ⟨b, off, hA, by omega, Nat.lt_of_lt_of_le hlt hb.size, fun j hj => ?_⟩
  obtain ⟨z, hz1, hcell⟩ := hz j hj
  exact ⟨z, hz1, (hb.cell (p := ⟨b, off + j, none⟩) hlt).trans hcell⟩
theorem Came.below {w w' : World} {A : Option Addr} {len : Nat} (h : Came w A len) (hb : Below w.heap.size w w') : Came w' A len := fun hl => by
  obtain ⟨b, off, hA, hlt, hz⟩ := h hl
  refine ⟨b, off, hA, Nat.lt_of_lt_of_le hlt hb.size, fun j hj => ?_⟩
  obtain ⟨z, hz1, hcell⟩ := hz j hj
  exact ⟨z, hz1, (hb.cell (p := ⟨b, off + j, none⟩) hlt).trans hcell⟩

set_option maxRecDepth 100000 in
theorem new_any (w : World) (A : Option Addr) (len cap : Nat) (hlen : len ≤ 2097152) (hcame : Came w A len) :
    Calls Try.prog 49 #[.slice A len cap] w (NewEnd w A len cap) := by
  have HC := Lib.hid hcame
  clear hcame
  go_enter Try.func49, Try.ntmps49
  go_wp2
  go_loop [3, 4] (fun h i => ∃ (k : Nat) (hv : Int), k ≤ len ∧ i = .int .i64 (k : Int) ∧ h = .int .i64 hv) (fun _ i => len - (intOf i).toNat)
  case atStart => exact ⟨0, _, Nat.zero_le _, rfl, rfl⟩
  case round =>
    obtain ⟨k, hv, hk, rfl, rfl⟩ := hrel
    have fin : ∀ W : World, W = w.alloc (.cells #[.slice A len cap, .int .i64 ((0 : Nat) : Int), .int .i64 hv] 116) → NewEnd w A len cap (.returned (.pointer (some ⟨w.heap.size, 0, none⟩))) W := fun W hW => by
      subst hW
      exact ⟨_, rfl, Nat.le_refl _, ⟨⟨0, hv, Nat.zero_le _, Blk.new _ _ _⟩, HC.out.bytes ((Below.refl _ _).alloc (Nat.le_refl _) _) (Nat.le_refl _)⟩, (Below.refl _ _).alloc (Nat.le_refl _) _⟩
    have HF := Lib.hid fin
    clear fin
    by_cases hlt : k < len
    · by_cases h4 : k < 4000
      · obtain ⟨b, off, rfl, hbl, hz⟩ := HC.out (by omega)
        obtain ⟨z, hz1, hcell⟩ := hz k hlt
        clear hz
        go_wp2
        go_round
        case rel => exact ⟨k + 1, _, by omega, by go_num, rfl⟩
        case measure => simp [intOf]; omega
      · go_wp2
        go_ret
        exact HF.out _ rfl
    · go_wp2
      go_ret
      exact HF.out _ rfl
end Go.Proofs.Ytbbagpnjjjohpaa.hexes

namespace Go.Proofs.Ytbbagpnjjjohpaa.hexes

/-- Ascending StampOrder. -/
def ltS (a b : Int × Int) : Prop := a.1 < b.1 ∨ (a.1 = b.1 ∧ a.2 < b.2)
instance (a b : Int × Int) : Decidable (ltS a b) := by unfold ltS; infer_instance

end Go.Proofs.Ytbbagpnjjjohpaa.hexes

namespace Go.Proofs.Ytbbagpnjjjohpaa.hexes
open Go.RowKit

theorem Blk.news {w : World} {g : Nat} {t : TypeId} {cs : Array Value} (h : Blk w g t cs) (j : Nat) (u : Value) (hu : cs.toList[j]? = some u) : w.cell? (Addr.add ⟨g, 0, none⟩ j) = some u := by
  rw [show (Addr.add ⟨g, 0, none⟩ j) = ⟨g, j, none⟩ by unfold Addr.add; split <;> simp_all, h.cell]
  simpa using hu
theorem own_cap {w : World} {base e g n cap size : Nat} {xs : List Value} (h : w.ownsRow base e size (.slice (some ⟨g, 0, none⟩) n cap) n xs) : n ≤ cap := by
  rcases h.2 with ⟨h', _⟩ | ⟨g', cap', cur, h', _, _, hnc, _⟩
  · simp at h'
  · simp only [Value.slice.injEq, Option.some.injEq, Addr.mk.injEq, and_true, true_and] at h'
    omega
theorem addr_add0 (g j : Nat) : (Addr.add ⟨g, 0, none⟩ j) = ⟨g, j, none⟩ := by unfold Addr.add; split <;> simp_all

theorem addr_add1 (g o j : Nat) : (Addr.add ⟨g, o, none⟩ j) = ⟨g, o + j, none⟩ := by unfold Addr.add; split <;> simp_all

end Go.Proofs.Ytbbagpnjjjohpaa.hexes

namespace Go.Proofs.Ytbbagpnjjjohpaa.hexes
open Go.RowKit

theorem Sts.news {w : World} {ad : Addr} {ys : List (Int × Int)} (h : Sts w (some ad) ys) (j : Nat) (u : Value) (hu : (stCells ys)[j]? = some u) : w.cell? (ad.add j) = some u := by
  have hj : j < ys.length * 2 := by rw [← stCells_length]; exact (List.getElem?_eq_some_iff.1 hu).1
  obtain ⟨b, off, hA, _, hz⟩ := h (by omega)
  obtain rfl : ad = ⟨b, off, none⟩ := Option.some.inj hA
  rw [addr_add1]
  have hk : j / 2 < ys.length := by omega
  have e := stCells_at ys (j / 2) hk
  have z := hz (j / 2) hk
  rcases Nat.mod_two_eq_zero_or_one j with h2 | h2
  · rw [show j / 2 * 2 = j by omega] at e z
    rw [z.1, ← hu, e.1]
  · rw [show off + j / 2 * 2 + 1 = off + j by omega] at z
    rw [show j / 2 * 2 + 1 = j by omega] at e
    rw [z.2, ← hu, e.2]

theorem own_nil {w : World} {B e size n c : Nat} {A : Option Addr} {xs : List Value} (h : w.ownsRow B e size (.slice A n c) n xs) (hA : A = none) : c = 0 := by
  rcases h.2 with ⟨h', _⟩ | ⟨g, cap, cur, h', _⟩
  · simp only [Value.slice.injEq] at h'
    exact h'.2.2
  · subst hA
    simp at h'

end Go.Proofs.Ytbbagpnjjjohpaa.hexes

namespace Go.Proofs.Ytbbagpnjjjohpaa.hexes
open Go.RowKit

/-- A row of n elements whose block lies from lo on and below hi. -/
structure Row (w : World) (lo hi e size : Nat) (A : Option Addr) (n c : Nat) (xs : List Value) : Prop where
  own : w.ownsRow lo e size (.slice A n c) n xs
  lt : ∀ g, (Value.slice A n c).ownBlock = some g → g < hi

/-- Only a block from lo on and below hi was written. -/
def Wrote (w w' : World) (lo hi : Nat) : Prop := ∃ row, w.grownBy w' row ∧ ∀ g, row = some g → lo ≤ g ∧ g < hi

theorem Row.below {w w' : World} {lo hi e size n c : Nat} {A : Option Addr} {xs : List Value} (h : Row w lo hi e size A n c xs) (hb : Below w.heap.size w w') : Row w' lo hi e size A n c xs := ⟨own_below h.own hb, h.lt⟩
theorem Row.wrote {w w' : World} {lo hi lo' hi' e size n c : Nat} {A : Option Addr} {xs : List Value} (h : Row w lo hi e size A n c xs) (hw : Wrote w w' lo' hi') (hd : hi ≤ lo' ∨ hi' ≤ lo) : Row w' lo hi e size A n c xs := by
  obtain ⟨row, hg, hr⟩ := hw
  refine ⟨h.own.kept hg ?_, h.lt⟩
  cases hv : (Value.slice A n c).ownBlock with
  | none => exact .inl rfl
  | some g =>
    refine .inr fun e => ?_
    have h1 := hr g e.symm
    have h2 := h.lt g hv
    have h3 := own_ge h.own g hv
    omega
theorem Row.nil {w : World} {lo hi e size n c : Nat} {A : Option Addr} {xs : List Value} (h : Row w lo hi e size A n c xs) : A = none → c = 0 := own_nil h.own
theorem Row.len {w : World} {lo hi e n c : Nat} {A : Option Addr} {zs : List (Int × Int)} (h : Row w lo hi e 2 A n c (stCells zs)) : zs.length = n := by
  have := h.own.1; rw [stCells_length] at this; omega
theorem Wrote.size {w w' : World} {lo hi : Nat} (h : Wrote w w' lo hi) : w.heap.size ≤ w'.heap.size := by
  obtain ⟨row, hg, _⟩ := h
  exact hg.size

theorem row_of {w w' : World} {e size n : Nat} {v : Value} {xs : List Value} (h : w'.ownsRow w.heap.size e size v n xs) : ∃ A c, v = .slice A n c ∧ Row w' w.heap.size w'.heap.size e size A n c xs := by
  obtain ⟨A, c, rfl, hf⟩ := own_form h
  refine ⟨A, c, rfl, h, fun g hg => ?_⟩
  rcases h.2 with ⟨h', _⟩ | ⟨g', cap, cur, h', _, hgg, _⟩
  · rw [h'] at hg; simp [Value.ownBlock] at hg
  · rw [h'] at hg
    obtain rfl : g' = g := by simpa [Value.ownBlock] using hg
    exact (Array.getElem?_eq_some_iff.1 hgg).1

end Go.Proofs.Ytbbagpnjjjohpaa.hexes

namespace Go.Proofs.Ytbbagpnjjjohpaa.hexes
open Go.RowKit Go.ChangeShapes Go.WideShapes Go.Deep

/-- A list of ints as a row of cells. -/
def isCells (zs : List Int) : List Value := zs.map fun z => Value.int .i64 z

theorem isCells_append (a b : List Int) : isCells (a ++ b) = isCells a ++ isCells b := by simp [isCells]

theorem isCells_length (zs : List Int) : (isCells zs).length = zs.length := by simp [isCells]

theorem isCells_at (zs : List Int) (j : Nat) (h : j < zs.length) : (isCells zs)[j]? = some (.int .i64 zs[j]) := by simp [isCells, h]

theorem isCells_one {zs : List Int} {u : Value} (h : u ∈ isCells zs) : u.oneCell' = true := by
  simp only [isCells, List.mem_map] at h
  obtain ⟨z, _, rfl⟩ := h
  rfl

/-- A list of ints that can be read at A. -/
def Ints (w : World) (A : Option Addr) (zs : List Int) : Prop :=
  0 < zs.length → ∃ b off, A = some ⟨b, off, none⟩ ∧ b < w.heap.size ∧ ∀ j, (h : j < zs.length) → w.cell? ⟨b, off + j, none⟩ = some (.int .i64 zs[j])

theorem Ints.below {w w' : World} {A : Option Addr} {zs : List Int} (h : Ints w A zs) (hb : Below w.heap.size w w') : Ints w' A zs := fun hl => by
  obtain ⟨b, off, hA, hlt, hz⟩ := h hl
  exact ⟨b, off, hA, Nat.lt_of_lt_of_le hlt hb.size, fun j hj => below_keep hb (hz j hj)⟩

theorem Ints.of_own {w : World} {B e n : Nat} {v : Value} {zs : List Int} (h : w.ownsRow B e 1 v n (isCells zs)) : ∃ A cap, v = .slice A n cap ∧ zs.length = n ∧ Ints w A zs := by
  have hl : zs.length = n := by have := h.1; rw [isCells_length] at this; omega
  rcases h.2 with ⟨rfl, rfl⟩ | ⟨g, cap, cur, rfl, _, hg, hnc, _, hcs, htk⟩
  · exact ⟨none, 0, rfl, hl, fun h => absurd h (by omega)⟩
  · refine ⟨some ⟨g, 0, none⟩, cap, rfl, hl, fun hp => ⟨g, 0, rfl, ?_, fun j hj => ?_⟩⟩
    · rcases Nat.lt_or_ge g w.heap.size with hlt | hge
      · exact hlt
      · rw [Array.getElem?_eq_none hge] at hg; cases hg
    · rw [Nat.zero_add, h.cellAt j (by omega)]
      exact isCells_at zs j hj

/-- The k-th entry of a list that can be read. -/
theorem Ints.at {w : World} {A : Option Addr} {zs : List Int} (h : Ints w A zs) {k : Nat} (hk : k < zs.length) : ∃ b off p, A = some ⟨b, off, none⟩ ∧ zs[k] = p ∧ w.cell? ⟨b, off + k, none⟩ = some (.int .i64 p) := by
  obtain ⟨b, off, hA, _, hz⟩ := h (by omega)
  exact ⟨b, off, zs[k], hA, rfl, hz k hk⟩

theorem Ints.news {w : World} {ad : Addr} {ys : List Int} (h : Ints w (some ad) ys) (j : Nat) (u : Value) (hu : (isCells ys)[j]? = some u) : w.cell? (ad.add j) = some u := by
  have hj : j < ys.length := by rw [← isCells_length]; exact (List.getElem?_eq_some_iff.1 hu).1
  obtain ⟨b, off, hA, _, hz⟩ := h (by omega)
  obtain rfl : ad = ⟨b, off, none⟩ := Option.some.inj hA
  rw [addr_add1, hz j hj, ← hu, isCells_at ys j hj]

theorem is_none {w : World} {n : Nat} {zs : List Int} (h : Ints w none zs) (hz : zs.length = n) : n = 0 := by
  rcases Nat.eq_zero_or_pos n with h0 | h0
  · exact h0
  · obtain ⟨b, off, hA, _⟩ := h (by omega)
    cases hA

theorem isinfo : (Try.prog.info? 3).map (fun i => (i.zero, i.size, i.bytes)) = some (some (.int .i64 0), 1, 8) := by kernel_rfl

/-- An append of a list of ints to an owned one. -/
theorem wpList_append_is {w : World} {ops : Array Oper} {rest : List Oper} {o : Oper} {a : Act} {Q : Exit → Act → World → Prop} (hgd : o.guard = none) (s x : Operand)
    (ho : o.op = .call { callee := .builtin .append, args := #[s, x], argTypes := #[44, 44] })
    (base : Nat) (v : Value) (n : Nat) (zs : List Int) (hs : a.eval s = v) (hown : w.ownsRow base 3 1 v n (isCells zs))
    (A : Option Addr) (m c : Nat) (ys : List Int) (hx : a.eval x = .slice A m c) (hA : A = none → c = 0) (hl : ys.length = m) (hsts : Ints w A ys)
    (hb : n + m ≤ 4194304) (hbase : base ≤ w.heap.size)
    (h : ∀ v' w', w'.ownsRow base 3 1 v' (n + m) (isCells (zs ++ ys)) → w.grownBy w' v.ownBlock → wpList Try.prog ops Q rest (a.put o.dst v') w') : wpList Try.prog ops Q (o :: rest) a w := by
  obtain ⟨i0, hi, hz0, hz1, hz2⟩ := info_parts isinfo
  cases A with
  | none =>
    obtain rfl := is_none hsts hl
    obtain rfl := hA rfl
    obtain rfl := List.eq_nil_of_length_eq_zero hl
    exact wpList_append_own_none hgd s x 44 ho base 3 i0 1 Try.underlying44 hi v n (isCells zs) hs hown hx (h v w (by simpa using hown) (grown_refl _ _))
  | some ad =>
    refine wpList_append_own w hgd s x 44 ho base 3 i0 (.int .i64 0) 1 8 Try.underlying44 hi hz0 hz1 hz2 rfl (by decide) v n (isCells zs) hs hown ad m c (isCells ys) hx (by rw [isCells_length, hl]; omega) hsts.news (fun u hu => isCells_one hu) (by unfold maxLen; omega) (by omega) hbase ?_
    intro v' w' h2 h3 _
    rw [← isCells_append] at h2
    exact h v' w' h2 h3

theorem Row.is {w : World} {lo hi e n c : Nat} {A : Option Addr} {zs : List Int} (h : Row w lo hi e 1 A n c (isCells zs)) : Ints w A zs := by
  obtain ⟨A', c', he, _, hs⟩ := Ints.of_own h.own
  simp only [Value.slice.injEq, true_and] at he
  obtain ⟨rfl, rfl⟩ := he
  exact hs

end Go.Proofs.Ytbbagpnjjjohpaa.hexes

namespace Go.Proofs.Ytbbagpnjjjohpaa.hexes
open Go.RowKit
theorem Blk.other {w : World} {g : Nat} {t : TypeId} {cs : Array Value} (h : Blk w g t cs) {p : Addr} (hne : g ≠ p.block) (u : Value) : Blk (w.setCell p u) g t cs := (Below.heap_setCell w p u g hne).trans h
end Go.Proofs.Ytbbagpnjjjohpaa.hexes

