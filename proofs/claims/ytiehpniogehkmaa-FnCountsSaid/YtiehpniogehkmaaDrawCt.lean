/-
  Drawn count tables: the contracts of spec.l04Table, l04Any and of chapter 4's draws.
-/
import Derived.Test.YtiehpniogehkmaaSpecAdd
import Derived.Test.YtiehpniogehkmaaDrawStamps
import Derived.Test.YtiehpniogehkmaaDrawFrontBase
namespace Go.Proofs.Ytiehpniogehkmaa.hexes
open Go.RowKit

theorem Cursor.below {w w' : World} {c len cap : Nat} {A : Option Addr} (h : Cursor w c A len cap) (hb : Below w.heap.size w w') : Cursor w' c A len cap := by
  obtain ⟨i, hh, hi, hblk⟩ := h.at_
  exact ⟨⟨i, hh, hi, hblk.below hb⟩, h.bytes.below hb⟩

/-- How a drawn table ends. -/
def CtEnd (lim : Nat) (w : World) (c : Nat) (A : Option Addr) (len cap : Nat) (e : Ending) (w' : World) : Prop :=
  ∃ (n : Nat) (zs : List Ct) (v : Value), n ≤ lim ∧ zs.length = n ∧ e = .returned v ∧ w'.ownsRow w.heap.size 62 3 v n (ctCells zs) ∧ Cursor w' c A len cap ∧ w.grownBy w' (some c)

set_option maxRecDepth 100000 in
set_option maxHeartbeats 1000000 in
theorem table_draw (w : World) (c : Nat) (A : Option Addr) (len cap : Nat) (hlen : len ≤ 2097152) (hcur : Cursor w c A len cap) :
    Calls Try.prog 61 #[.pointer (some ⟨c, 0, none⟩)] w (CtEnd 5 w c A len cap) := by
  have hc := hcur.lt
  have HC := Lib.hid hcur
  clear hcur
  go_enter Try.func61, Try.ntmps61
  go_wp2
  go_loopw [3, 4] (fun v i wr => ∃ (k l : Nat) (zs : List Ct), k ≤ 5 ∧ l ≤ k ∧ zs.length = l ∧ i = .int .i64 k ∧ wr.ownsRow w.heap.size 62 3 v l (ctCells zs) ∧ Cursor wr c A len cap ∧ w.grownBy wr (some c)) (fun _ i _ => 5 - (intOf i).toNat)
  case atStart => exact ⟨0, 0, [], by omega, by omega, rfl, rfl, World.ownsRow_lit w #[] 0 (Nat.le_refl _) (by decide) rfl, HC.out.grown (World.grownBy_alloc w _ none), World.grownBy_alloc w _ _⟩
  case round =>
    obtain ⟨k, l, zs, hk, hlk, hzl, rfl, hown, hcur, hg⟩ := hrel
    have O := Lib.hid hown
    have C := Lib.hid hcur
    have G := Lib.hid hg
    have ZL := Lib.hid hzl
    clear hown hcur hg hzl
    go_wp2_with fail
    refine (below_any 6 (by omega) (by omega) _ c A len cap hlen C.out).mono ?_
    rintro e w1 ⟨x, hx, rfl, hc1, g1⟩
    have C1 := Lib.hid hc1
    have G1 := Lib.hid (grown_trans G.out g1)
    have O1 := Lib.hid (own_kept_c O.out g1 hc)
    clear hc1 g1 C G O
    by_cases hlt : k < x
    · have hd : decide ((k : Int) < (x : Int)) = true := by simp; omega
      go_wp2_with fail
      refine (stamp_draw _ c A len cap hlen C1.out).mono ?_
      rintro e w2 ⟨p, q, _, _, rfl, hc2, g2⟩
      have C2 := Lib.hid hc2
      have G2 := Lib.hid (grown_trans G1.out g2)
      have O2 := Lib.hid (own_kept_c O1.out g2 hc)
      clear hc2 g2 C1 G1 O1
      go_wp2_with fail
      refine (below_any 7 (by omega) (by omega) _ c A len cap hlen C2.out).mono ?_
      rintro e w3 ⟨r, hr, rfl, hc3, g3⟩
      have C3 := Lib.hid hc3
      have G3 := Lib.hid (grown_trans G2.out g3)
      have o3 := own_kept_c O2.out g3 hc
      obtain ⟨A3, c3, rfl, _, s3⟩ := Cts.of_own o3
      have N3 := Lib.hid (own_nil o3)
      have S3 := Lib.hid s3
      clear hc3 g3 o3 s3 C2 G2 O2
      go_wp2_with fail
      refine (specAdj_any l zs ZL.out A3 c3 N3.out p q _ w3 S3.out (by omega)).mono ?_
      rintro e w4 ⟨v4, rfl, o4, b4⟩
      have hle := adjL_len zs (p, q) ((r : Int) - 3)
      rw [ZL.out] at hle
      have C4 := Lib.hid (C3.out.below b4)
      have G4 := Lib.hid (grown_below G3.out b4)
      have O4 := Lib.hid (own_base o4 G3.out.size)
      clear o4 b4 C3 G3
      go_wp2
      go_roundw
      case rel => exact ⟨k + 1, _, _, by omega, by omega, rfl, by go_num, O4.out, C4.out, G4.out⟩
      case measure => simp [intOf]; omega
    · have hd : decide ((k : Int) < (x : Int)) = false := by simp; omega
      go_wp2
      go_ret
      exact ⟨l, zs, _, by omega, ZL.out, rfl, O1.out, C1.out, G1.out⟩

set_option maxRecDepth 100000 in
set_option maxHeartbeats 1000000 in
theorem anyCt_draw (w : World) (c : Nat) (A : Option Addr) (len cap : Nat) (hlen : len ≤ 2097152) (hcur : Cursor w c A len cap) :
    Calls Try.prog 41 #[.pointer (some ⟨c, 0, none⟩)] w (CtEnd 6 w c A len cap) := by
  have hc := hcur.lt
  have HC := Lib.hid hcur
  clear hcur
  go_enter Try.func41, Try.ntmps41
  go_wp2_with fail
  refine (table_draw w c A len cap hlen HC.out).mono ?_
  rintro e w1 ⟨n, zs, v1, hn, hzl, rfl, own1, hc1, g1⟩
  have O1 := Lib.hid own1
  have C1 := Lib.hid hc1
  have G1 := Lib.hid g1
  have ZL := Lib.hid hzl
  clear own1 hc1 g1 hzl
  go_wp2_with fail
  refine (below_any 10 (by omega) (by omega) _ c A len cap hlen C1.out).mono ?_
  rintro e w2 ⟨x, hx, rfl, hc2, g2⟩
  have C2 := Lib.hid hc2
  have G2 := Lib.hid (grown_trans G1.out g2)
  have O2 := Lib.hid (own_kept_c O1.out g2 hc)
  clear hc2 g2 C1 G1 O1
  by_cases x0 : x = 0
  · subst x0
    go_wp2_with fail
    refine (any_draw _ c A len cap hlen C2.out).mono ?_
    rintro e w3 ⟨p, q, _, _, rfl, hc3, g3⟩
    have C3 := Lib.hid hc3
    have G3 := Lib.hid (grown_trans G2.out g3)
    have O3 := Lib.hid (own_kept_c O2.out g3 hc)
    clear hc3 g3 C2 G2 O2
    go_wp2_with fail
    refine (below_any 3 (by omega) (by omega) _ c A len cap hlen C3.out).mono ?_
    rintro e w4 ⟨r, hr, rfl, hc4, g4⟩
    have C4 := Lib.hid hc4
    have G4 := Lib.hid (grown_trans G3.out g4)
    have O4 := Lib.hid (own_kept_c O3.out g4 hc)
    clear hc4 g4 C3 G3 O3
    go_wp2_with (at_builtin; refine wpList_append_ct rfl (.tmp 10) (.tmp 16) (by rfl) w.heap.size _ n zs (by rfl) (O4.out.alloc _) (some ⟨w4.heap.size, 0, none⟩) 1 1 [((p, q), (r : Int))] (by rfl) (fun h => by cases h) rfl (ct_new w4 p q r) (by omega) (Nat.le_trans G4.out.size (by simp)) ?_; intro v5 w5 own5 gr5)
    have g5 := grown_new (grown_trans G4.out (World.grownBy_alloc w4 _ _)) gr5 (own_ge O4.out)
    have k5 : w5.heap[c]? = w4.heap[c]? := (gr5.block c (by have := C4.out.lt; simp; omega) (fun e => by have := own_ge O4.out c e.symm; omega)).trans (Below.heap_alloc _ _ _ C4.out.lt)
    have C5 := Lib.hid (HC.out.back C4.out g5 k5)
    have G5 := Lib.hid g5
    have O5 := Lib.hid own5
    clear own5 gr5 g5 k5 C4 G4 O4
    go_wp2
    go_ret
    exact ⟨n + 1, zs ++ [((p, q), (r : Int))], _, by omega, by simp [ZL.out], rfl, O5.out, C5.out, G5.out⟩
  · by_cases x1 : x = 1
    · subst x1
      go_wp2_with fail
      generalize hW3 : w2.alloc _ = W3
      have g3 : w2.grownBy W3 none := by rw [← hW3]; exact World.grownBy_alloc w2 _ none
      have p3 : Blk W3 w2.heap.size 3 (([1000000, 1000001, -1000000, 0] : List Int).map fun n => Value.int .i64 n).toArray := by rw [← hW3]; exact Blk.new _ _ _
      have o3 : W3.ownsRow w.heap.size 62 3 v1 n (ctCells zs) := by rw [← hW3]; exact O2.out.alloc _
      have hc2 := C2.out.lt
      refine (pickInt_any W3 c w2.heap.size A len cap 4 [1000000, 1000001, -1000000, 0] rfl (by omega) (by omega) hlen (C2.out.grown g3) (by omega) p3).mono ?_
      rintro e w4 ⟨r, hr, rfl, hc4, g4⟩
      have C4 := Lib.hid hc4
      have G4 := Lib.hid (grown_trans (grown_trans G2.out (grown_wide g3)) g4)
      have O4 := Lib.hid (own_kept_c o3 g4 hc)
      clear hc4 g4 C2 G2 O2 o3 p3 g3 hW3 hr hc2
      go_wp2_with (at_builtin; refine wpList_append_ct rfl (.tmp 20) (.tmp 26) (by rfl) w.heap.size _ n zs (by rfl) (O4.out.alloc _) (some ⟨w4.heap.size, 0, none⟩) 1 1 [((3, 6), r)] (by rfl) (fun h => by cases h) rfl (ct_new w4 3 6 r) (by omega) (Nat.le_trans G4.out.size (by simp)) ?_; intro v5 w5 own5 gr5)
      have g5 := grown_new (grown_trans G4.out (World.grownBy_alloc w4 _ _)) gr5 (own_ge O4.out)
      have k5 : w5.heap[c]? = w4.heap[c]? := (gr5.block c (by have := C4.out.lt; simp; omega) (fun e => by have := own_ge O4.out c e.symm; omega)).trans (Below.heap_alloc _ _ _ C4.out.lt)
      have C5 := Lib.hid (HC.out.back C4.out g5 k5)
      have G5 := Lib.hid g5
      have O5 := Lib.hid own5
      clear own5 gr5 g5 k5 C4 G4 O4
      go_wp2
      go_ret
      exact ⟨n + 1, zs ++ [((3, 6), r)], _, by omega, by simp [ZL.out], rfl, O5.out, C5.out, G5.out⟩
    · have q0 : ((x : Int) == 0) = false := by simp; omega
      have q1 : ((x : Int) == 1) = false := by simp; omega
      go_wp2
      go_ret
      exact ⟨n, zs, _, by omega, ZL.out, rfl, O2.out, C2.out, G2.out⟩

/-- A table that a draw hands out. -/
structure DrawnCt (w : World) (A : Option Addr) (n c : Nat) (zs : List Ct) : Prop where
  few : n ≤ 6
  len : zs.length = n
  nil : A = none → c = 0
  cts : Cts w A zs
theorem DrawnCt.below {w w' : World} {A : Option Addr} {n c : Nat} {zs : List Ct} (h : DrawnCt w A n c zs) (hb : Below w.heap.size w w') : DrawnCt w' A n c zs := ⟨h.few, h.len, h.nil, h.cts.below hb⟩
theorem DrawnCt.of_own {w : World} {B n : Nat} {v : Value} {zs : List Ct} (hf : n ≤ 6) (h : w.ownsRow B 62 3 v n (ctCells zs)) : ∃ A c, v = .slice A n c ∧ DrawnCt w A n c zs := by
  obtain ⟨A, c, rfl, hl, hs⟩ := Cts.of_own h
  exact ⟨A, c, rfl, hf, hl, own_nil h, hs⟩

set_option maxRecDepth 100000 in
set_option maxHeartbeats 1000000 in
theorem drawAddCt_any (w : World) (A : Option Addr) (len cap : Nat) (hlen : len ≤ 2097152) (hcame : Came w A len) :
    Calls Try.prog 18 #[.slice A len cap] w fun e w' => ∃ (A1 : Option Addr) (n1 c1 : Nat) (zs : List Ct) (A2 : Option Addr) (n2 c2 : Nat) (ys : List Ct), e = .returned (.tuple #[.slice A1 n1 c1, .slice A2 n2 c2]) ∧ DrawnCt w' A1 n1 c1 zs ∧ DrawnCt w' A2 n2 c2 ys ∧ Below w.heap.size w w' := by
  have HC := Lib.hid hcame
  clear hcame
  go_enter Try.func18, Try.ntmps18
  go_wp2_with fail
  refine (new_any w A len cap hlen HC.out).mono ?_
  rintro e w1 ⟨c, rfl, hcw, hcur, hb1⟩
  have hck : ∀ k, some c = some k → w.heap.size ≤ k := fun k hk => by simp at hk; omega
  have C1 := Lib.hid hcur
  have B1 := Lib.hid hb1
  clear hcur hb1 HC
  go_wp2_with fail
  refine (anyCt_draw w1 c A len cap hlen C1.out).mono ?_
  rintro e w2 ⟨n, zs, v, hn, hzl, rfl, hown, hc2, g2⟩
  have hcl := C1.out.lt
  have O2 := Lib.hid hown
  have C2 := Lib.hid hc2
  have B2 := Lib.hid (B1.out.grown g2 B1.out.size hck)
  clear hown hc2 g2 B1
  go_wp2_with fail
  refine (anyCt_draw w2 c A len cap hlen C2.out).mono ?_
  rintro e w3 ⟨m, ys, v3, hm, hyl, rfl, own3, hc3, g3⟩
  obtain ⟨A1, c1, rfl, d1⟩ := DrawnCt.of_own hn (own_kept_c O2.out g3 hcl)
  obtain ⟨A2, c2, rfl, d2⟩ := DrawnCt.of_own hm own3
  have D1 := Lib.hid d1
  have D2 := Lib.hid d2
  have B3 := Lib.hid (B2.out.grown g3 B2.out.size hck)
  clear hc3 g3 d1 d2 own3
  go_wp2
  exact bodyPost_ret (v := .tuple #[.slice A1 n c1, .slice A2 m c2]) (by simp [results, Try.results18, go_sem]) rfl ⟨A1, n, c1, zs, A2, m, c2, ys, rfl, D1.out, D2.out, B3.out⟩

set_option maxRecDepth 100000 in
set_option maxHeartbeats 1000000 in
theorem drawEpochCt_any (w : World) (A : Option Addr) (len cap : Nat) (hlen : len ≤ 2097152) (hcame : Came w A len) :
    Calls Try.prog 21 #[.slice A len cap] w fun e w' => ∃ (A1 : Option Addr) (n1 c1 : Nat) (zs : List Ct) (x : Int), e = .returned (.tuple #[.slice A1 n1 c1, .int .i64 x]) ∧ DrawnCt w' A1 n1 c1 zs ∧ Below w.heap.size w w' := by
  have HC := Lib.hid hcame
  clear hcame
  go_enter Try.func21, Try.ntmps21
  go_wp2_with fail
  refine (new_any w A len cap hlen HC.out).mono ?_
  rintro e w1 ⟨c, rfl, hcw, hcur, hb1⟩
  have hck : ∀ k, some c = some k → w.heap.size ≤ k := fun k hk => by simp at hk; omega
  have C1 := Lib.hid hcur
  have B1 := Lib.hid hb1
  clear hcur hb1 HC
  go_wp2_with fail
  refine (anyCt_draw w1 c A len cap hlen C1.out).mono ?_
  rintro e w2 ⟨n, zs, v, hn, hzl, rfl, hown, hc2, g2⟩
  have hcl := C1.out.lt
  have O2 := Lib.hid hown
  have C2 := Lib.hid hc2
  have B2 := Lib.hid (B1.out.grown g2 B1.out.size hck)
  clear hown hc2 g2 B1
  go_wp2_with fail
  refine (below_any 6 (by omega) (by omega) _ c A len cap hlen C2.out).mono ?_
  rintro e w3 ⟨x, hx, rfl, hc3, g3⟩
  obtain ⟨A1, c1, rfl, d1⟩ := DrawnCt.of_own hn (own_kept_c O2.out g3 hcl)
  have D1 := Lib.hid d1
  have B3 := Lib.hid (B2.out.grown g3 B2.out.size hck)
  clear hc3 g3 d1
  go_wp2
  exact bodyPost_ret (v := .tuple #[.slice A1 n c1, .int .i64 ((x : Int) - 1)]) (by simp [results, Try.results21, go_sem]) rfl ⟨A1, n, c1, zs, _, rfl, D1.out, B3.out⟩

end Go.Proofs.Ytiehpniogehkmaa.hexes
