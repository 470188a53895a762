/-
  Drawn lists of stamps: the contracts of spec.l03List, l03Two and chapter 3's draws.
-/
import Derived.Test.YtjnmpcfclkahlaaAppendSt
import Derived.Test.YtjnmpcfclkahlaaDrawStamps
namespace Go.Proofs.Ytjnmpcfclkahlaa.hexes
open Go.RowKit

theorem grown_new {a b c : World} {row row' : Option Nat} (h : a.grownBy b row) (k : b.grownBy c row') (hr : ∀ g, row' = some g → a.heap.size ≤ g) : a.grownBy c row :=
  ⟨k.os.trans h.os, k.tape.trans h.tape, k.output.trans h.output, Nat.le_trans h.size k.size, fun i hi hne => (k.block i (Nat.lt_of_lt_of_le hi h.size) (fun e => by have := hr i e.symm; omega)).trans (h.block i hi hne)⟩

theorem own_kept_c {w w' : World} {B e size n c : Nat} {v : Value} {xs : List Value} (h : w.ownsRow B e size v n xs) (hg : w.grownBy w' (some c)) (hc : c < B) : w'.ownsRow B e size v n xs := by
  refine h.kept hg ?_
  cases hv : v.ownBlock with
  | none => exact .inl rfl
  | some g =>
    refine .inr fun e => ?_
    have := own_ge h g hv
    have := Option.some.inj e
    omega

theorem sts_new (w : World) (x y : Int) : Sts (w.alloc (.cells #[.int .i64 x, .int .i64 y] 32)) (some ⟨w.heap.size, 0, none⟩) [(x, y)] := fun _ =>
  ⟨w.heap.size, 0, rfl, by simp, fun j hj => by
    obtain rfl : j = 0 := by simpa using hj
    exact ⟨alloc_cells rfl rfl, alloc_cells rfl rfl⟩⟩

/-- How a drawn list ends. -/
def ListEnd (w : World) (c : Nat) (A : Option Addr) (len cap : Nat) (e : Ending) (w' : World) : Prop :=
  ∃ (n : Nat) (zs : List (Int × Int)) (v : Value), n ≤ 5 ∧ zs.length = n ∧ e = .returned v ∧ w'.ownsRow w.heap.size 32 2 v n (stCells zs) ∧ Cursor w' c A len cap ∧ w.grownBy w' (some c)

set_option maxRecDepth 100000 in
set_option maxHeartbeats 1000000 in
theorem list_draw (w : World) (c : Nat) (A : Option Addr) (len cap : Nat) (hlen : len ≤ 2097152) (hcur : Cursor w c A len cap) :
    Calls Try.prog 46 #[.pointer (some ⟨c, 0, none⟩)] w (ListEnd w c A len cap) := by
  have hc := hcur.lt
  have HC := Lib.hid hcur
  clear hcur
  go_enter Try.func46, Try.ntmps46
  go_wp2
  go_loopw [3, 4] (fun v i wr => ∃ (k : Nat) (zs : List (Int × Int)), k ≤ 5 ∧ zs.length = k ∧ i = .int .i64 k ∧ wr.ownsRow w.heap.size 32 2 v k (stCells zs) ∧ Cursor wr c A len cap ∧ w.grownBy wr (some c)) (fun _ i _ => 5 - (intOf i).toNat)
  case atStart => exact ⟨0, [], by omega, rfl, rfl, World.ownsRow_lit w #[] 0 (Nat.le_refl _) (by decide) rfl, HC.out.grown (World.grownBy_alloc w _ none), World.grownBy_alloc w _ _⟩
  case round =>
    obtain ⟨k, zs, hk, hzl, rfl, hown, hcur, hg⟩ := hrel
    have O := Lib.hid hown
    have C := Lib.hid hcur
    have G := Lib.hid hg
    have ZL := Lib.hid hzl
    clear hown hcur hg hzl
    go_wp2_with fail
    refine (below_any 6 (by omega) (by omega) _ c A len cap hlen C.out).mono ?_
    rintro e w1 ⟨x, hx, rfl, hc1, g1⟩
    have C1 := Lib.hid hc1
    have G1 := Lib.hid (grown_trans G.out g1)
    have O1 := Lib.hid (own_kept_c O.out g1 hc)
    clear hc1 g1 C G O
    by_cases hlt : k < x
    · have hd : decide ((k : Int) < (x : Int)) = true := by simp; omega
      go_wp2_with fail
      refine (once_any 6 (by omega) (by omega) _ c A len cap hlen C1.out).mono ?_
      rintro e w2 ⟨b, rfl, hc2, g2⟩
      have C2 := Lib.hid hc2
      have G2 := Lib.hid (grown_trans G1.out g2)
      have O2 := Lib.hid (own_kept_c O1.out g2 hc)
      clear hc2 g2 C1 G1 O1
      cases b with
      | true =>
        go_wp2_with fail
        refine (any_draw _ c A len cap hlen C2.out).mono ?_
        rintro e w3 ⟨p, q, _, _, rfl, hc3, g3⟩
        have C3 := Lib.hid hc3
        have G3 := Lib.hid (grown_trans G2.out g3)
        have O3 := Lib.hid (own_kept_c O2.out g3 hc)
        clear hc3 g3 C2 G2 O2
        go_wp2_with (at_builtin; refine wpList_append_sts rfl (.tmp 14) (.tmp 17) (by rfl) w.heap.size _ k zs (by rfl) (O3.out.alloc _) (some ⟨w3.heap.size, 0, none⟩) 1 1 [(p, q)] (by rfl) (fun h => by cases h) rfl (sts_new w3 p q) (by omega) (Nat.le_trans G3.out.size (by simp)) ?_; intro v4 w4 own4 gr4)
        have g4 := grown_new (grown_trans G3.out (World.grownBy_alloc w3 _ _)) gr4 (own_ge O3.out)
        have k4 : w4.heap[c]? = w3.heap[c]? := (gr4.block c (by have := C3.out.lt; simp; omega) (fun e => by have := own_ge O3.out c e.symm; omega)).trans (Below.heap_alloc _ _ _ C3.out.lt)
        have C4 := Lib.hid (HC.out.back C3.out g4 k4)
        have G4 := Lib.hid g4
        have O4 := Lib.hid own4
        clear own4 gr4 g4 k4 C3 G3 O3
        go_wp2
        go_roundw
        case rel => exact ⟨k + 1, zs ++ [(p, q)], by omega, by simp [ZL.out], by go_num, O4.out, C4.out, G4.out⟩
        case measure => simp [intOf]; omega
      | false =>
        go_wp2_with fail
        refine (stamp_draw _ c A len cap hlen C2.out).mono ?_
        rintro e w3 ⟨p, q, _, _, rfl, hc3, g3⟩
        have C3 := Lib.hid hc3
        have G3 := Lib.hid (grown_trans G2.out g3)
        have O3 := Lib.hid (own_kept_c O2.out g3 hc)
        clear hc3 g3 C2 G2 O2
        go_wp2_with (at_builtin; refine wpList_append_sts rfl (.tmp 19) (.tmp 22) (by rfl) w.heap.size _ k zs (by rfl) (O3.out.alloc _) (some ⟨w3.heap.size, 0, none⟩) 1 1 [(p, q)] (by rfl) (fun h => by cases h) rfl (sts_new w3 p q) (by omega) (Nat.le_trans G3.out.size (by simp)) ?_; intro v4 w4 own4 gr4)
        have g4 := grown_new (grown_trans G3.out (World.grownBy_alloc w3 _ _)) gr4 (own_ge O3.out)
        have k4 : w4.heap[c]? = w3.heap[c]? := (gr4.block c (by have := C3.out.lt; simp; omega) (fun e => by have := own_ge O3.out c e.symm; omega)).trans (Below.heap_alloc _ _ _ C3.out.lt)
        have C4 := Lib.hid (HC.out.back C3.out g4 k4)
        have G4 := Lib.hid g4
        have O4 := Lib.hid own4
        clear own4 gr4 g4 k4 C3 G3 O3
        go_wp2
        go_roundw
        case rel => exact ⟨k + 1, zs ++ [(p, q)], by omega, by simp [ZL.out], by go_num, O4.out, C4.out, G4.out⟩
        case measure => simp [intOf]; omega
    · have hd : decide ((k : Int) < (x : Int)) = false := by simp; omega
      go_wp2
      go_ret
      exact ⟨k, zs, _, hk, ZL.out, rfl, O1.out, C1.out, G1.out⟩

/-- A list of stamps that a draw hands out. -/
structure Drawn (w : World) (A : Option Addr) (n c : Nat) (zs : List (Int × Int)) : Prop where
  few : n ≤ 5
  len : zs.length = n
  nil : A = none → c = 0
  sts : Sts w A zs

theorem Drawn.below {w w' : World} {A : Option Addr} {n c : Nat} {zs : List (Int × Int)} (h : Drawn w A n c zs) (hb : Below w.heap.size w w') : Drawn w' A n c zs := ⟨h.few, h.len, h.nil, h.sts.below hb⟩
theorem Drawn.of_own {w : World} {B n : Nat} {v : Value} {zs : List (Int × Int)} (hf : n ≤ 5) (h : w.ownsRow B 32 2 v n (stCells zs)) : ∃ A c, v = .slice A n c ∧ Drawn w A n c zs := by
  obtain ⟨A, c, rfl, hl, hs⟩ := Sts.of_own h
  exact ⟨A, c, rfl, hf, hl, own_nil h, hs⟩

/-- How a draw of two lists ends. -/
def ListsEnd (w : World) (e : Ending) (w' : World) : Prop :=
  ∃ (A1 : Option Addr) (n1 c1 : Nat) (zs : List (Int × Int)) (A2 : Option Addr) (n2 c2 : Nat) (ys : List (Int × Int)), e = .returned (.tuple #[.slice A1 n1 c1, .slice A2 n2 c2]) ∧ Drawn w' A1 n1 c1 zs ∧ Drawn w' A2 n2 c2 ys ∧ Below w.heap.size w w'

set_option maxRecDepth 100000 in
set_option maxHeartbeats 1000000 in
theorem lists_draw (w : World) (A : Option Addr) (len cap : Nat) (hlen : len ≤ 2097152) (hcame : Came w A len) :
    Calls Try.prog 38 #[.slice A len cap] w (ListsEnd w) := by
  have HC := Lib.hid hcame
  clear hcame
  go_enter Try.func38, Try.ntmps38
  go_wp2_with fail
  refine (new_any w A len cap hlen HC.out).mono ?_
  rintro e w1 ⟨c, rfl, hcw, hcur, hb1⟩
  have hck : ∀ k, some c = some k → w.heap.size ≤ k := fun k hk => by simp at hk; omega
  have C1 := Lib.hid hcur
  have B1 := Lib.hid hb1
  clear hcur hb1 HC
  go_wp2_with fail
  refine (list_draw w1 c A len cap hlen C1.out).mono ?_
  rintro e w2 ⟨n, zs, v, hn, hzl, rfl, hown, hc2, g2⟩
  have hcl := C1.out.lt
  have O2 := Lib.hid hown
  have C2 := Lib.hid hc2
  have B2 := Lib.hid (B1.out.grown g2 B1.out.size hck)
  clear hown hc2 g2 B1
  go_wp2_with fail
  refine (once_any 4 (by omega) (by omega) _ c A len cap hlen C2.out).mono ?_
  rintro e w3 ⟨b, rfl, hc3, g3⟩
  have O3 := Lib.hid (own_kept_c O2.out g3 hcl)
  have C3 := Lib.hid hc3
  have B3 := Lib.hid (B2.out.grown g3 B2.out.size hck)
  clear hc3 g3 B2 C2 O2
  obtain ⟨A1, c1, rfl, d1⟩ := Drawn.of_own hn O3.out
  have D1 := Lib.hid d1
  clear d1
  cases b with
  | true =>
    have ba := Below.alloc (Below.refl w3.heap.size w3) (Nat.le_refl _) (.cells #[] 32)
    have HBA := Lib.hid ba
    clear ba
    go_wp2_with (at_builtin; refine wpList_append_sts rfl (.tmp 13) (.tmp 14) (by rfl) w3.heap.size (.slice (some ⟨w3.heap.size, 0, none⟩) 0 0) 0 [] (by rfl) (World.ownsRow_lit w3 #[] 0 (Nat.le_refl _) (by decide) (by rfl)) A1 n c1 zs (by rfl) D1.out.nil D1.out.len (D1.out.sts.below HBA.out) (by omega) HBA.out.size ?_; intro v4 w4 own4 gr4)
    have hb4 := HBA.out.grown gr4 HBA.out.size (fun k hk => Nat.le_of_eq (Option.some.inj hk))
    rw [Nat.zero_add, List.nil_append] at own4
    obtain ⟨A2, c2, rfl, d2⟩ := Drawn.of_own hn own4
    have D2 := Lib.hid d2
    have B4 := Lib.hid hb4
    clear own4 gr4 hb4 d2
    go_wp2
    exact bodyPost_ret (v := .tuple #[.slice A1 n c1, .slice A2 n c2]) (by simp [results, Try.results38, go_sem]) rfl ⟨A1, n, c1, zs, A2, n, c2, zs, rfl, D1.out.below B4.out, D2.out, below_chain B3.out B4.out⟩
  | false =>
    have hc3 := C3.out.lt
    go_wp2_with fail
    refine (list_draw w3 c A len cap hlen C3.out).mono ?_
    rintro e w4 ⟨m, ys, v4, hm, hyl, rfl, own4, hc4, g4⟩
    have o1 := own_kept_c O3.out g4 hcl
    obtain ⟨A2, c2, rfl, d2⟩ := Drawn.of_own hm own4
    obtain ⟨A1', c1', he, d1⟩ := Drawn.of_own hn o1
    simp only [Value.slice.injEq, true_and] at he
    obtain ⟨rfl, rfl⟩ := he
    have B4 := Lib.hid (B3.out.grown g4 B3.out.size hck)
    have D2 := Lib.hid d2
    have D4 := Lib.hid d1
    clear own4 hc4 g4 o1 d1 d2
    go_wp2
    exact bodyPost_ret (v := .tuple #[.slice A1 n c1, .slice A2 m c2]) (by simp [results, Try.results38, go_sem]) rfl ⟨A1, n, c1, zs, A2, m, c2, ys, rfl, D4.out, D2.out, B4.out⟩

set_option maxRecDepth 100000 in
theorem drawMerge_any (w : World) (A : Option Addr) (len cap : Nat) (hlen : len ≤ 2097152) (hcame : Came w A len) :
    Calls Try.prog 13 #[.slice A len cap] w (ListsEnd w) := by
  have HC := Lib.hid hcame
  clear hcame
  go_enter Try.func13, Try.ntmps13
  go_wp2_with fail
  refine (lists_draw w A len cap hlen HC.out).mono ?_
  rintro e w1 ⟨A1, n1, c1, zs, A2, n2, c2, ys, rfl, d1, d2, hb⟩
  have D1 := Lib.hid d1
  have D2 := Lib.hid d2
  have B := Lib.hid hb
  clear d1 d2 hb
  go_wp2
  exact bodyPost_ret (v := .tuple #[.slice A1 n1 c1, .slice A2 n2 c2]) (by simp [results, Try.results13, go_sem]) rfl ⟨A1, n1, c1, zs, A2, n2, c2, ys, rfl, D1.out, D2.out, B.out⟩

set_option maxRecDepth 100000 in
theorem drawSame_any (w : World) (A : Option Addr) (len cap : Nat) (hlen : len ≤ 2097152) (hcame : Came w A len) :
    Calls Try.prog 27 #[.slice A len cap] w (ListsEnd w) := by
  have HC := Lib.hid hcame
  clear hcame
  go_enter Try.func27, Try.ntmps27
  go_wp2_with fail
  refine (lists_draw w A len cap hlen HC.out).mono ?_
  rintro e w1 ⟨A1, n1, c1, zs, A2, n2, c2, ys, rfl, d1, d2, hb⟩
  have D1 := Lib.hid d1
  have D2 := Lib.hid d2
  have B := Lib.hid hb
  clear d1 d2 hb
  go_wp2
  exact bodyPost_ret (v := .tuple #[.slice A1 n1 c1, .slice A2 n2 c2]) (by simp [results, Try.results27, go_sem]) rfl ⟨A1, n1, c1, zs, A2, n2, c2, ys, rfl, D1.out, D2.out, B.out⟩

set_option maxRecDepth 100000 in
set_option maxHeartbeats 1000000 in
theorem drawOver_any (w : World) (A : Option Addr) (len cap : Nat) (hlen : len ≤ 2097152) (hcame : Came w A len) :
    Calls Try.prog 26 #[.slice A len cap] w fun e w' => ∃ (A1 : Option Addr) (n1 c1 : Nat) (zs : List (Int × Int)) (x : Int), e = .returned (.tuple #[.slice A1 n1 c1, .int .i64 x]) ∧ Drawn w' A1 n1 c1 zs ∧ Below w.heap.size w w' := by
  have HC := Lib.hid hcame
  clear hcame
  go_enter Try.func26, Try.ntmps26
  go_wp2_with fail
  refine (new_any w A len cap hlen HC.out).mono ?_
  rintro e w1 ⟨c, rfl, hcw, hcur, hb1⟩
  have hck : ∀ k, some c = some k → w.heap.size ≤ k := fun k hk => by simp at hk; omega
  have C1 := Lib.hid hcur
  have B1 := Lib.hid hb1
  clear hcur hb1 HC
  go_wp2_with fail
  refine (list_draw w1 c A len cap hlen C1.out).mono ?_
  rintro e w2 ⟨n, zs, v, hn, hzl, rfl, hown, hc2, g2⟩
  have hcl := C1.out.lt
  have O2 := Lib.hid hown
  have C2 := Lib.hid hc2
  have B2 := Lib.hid (B1.out.grown g2 B1.out.size hck)
  clear hown hc2 g2 B1
  go_wp2_with fail
  refine (below_any 6 (by omega) (by omega) _ c A len cap hlen C2.out).mono ?_
  rintro e w3 ⟨x, hx, rfl, hc3, g3⟩
  obtain ⟨A1, c1, rfl, d1⟩ := Drawn.of_own hn (own_kept_c O2.out g3 hcl)
  have D1 := Lib.hid d1
  have B3 := Lib.hid (B2.out.grown g3 B2.out.size hck)
  clear hc3 g3 d1
  go_wp2
  exact bodyPost_ret (v := .tuple #[.slice A1 n c1, .int .i64 ((x : Int) - 1)]) (by simp [results, Try.results26, go_sem]) rfl ⟨A1, n, c1, zs, _, rfl, D1.out, B3.out⟩

set_option maxRecDepth 100000 in
set_option maxHeartbeats 1000000 in
theorem drawAhead_any (w : World) (A : Option Addr) (len cap : Nat) (hlen : len ≤ 2097152) (hcame : Came w A len) :
    Calls Try.prog 23 #[.slice A len cap] w fun e w' => ∃ (A1 : Option Addr) (n1 c1 : Nat) (zs : List (Int × Int)) (x y : Int), e = .returned (.tuple #[.slice A1 n1 c1, .agg #[.int .i64 x, .int .i64 y]]) ∧ Drawn w' A1 n1 c1 zs ∧ Below w.heap.size w w' := by
  have HC := Lib.hid hcame
  clear hcame
  go_enter Try.func23, Try.ntmps23
  go_wp2_with fail
  generalize hW : w.alloc _ = W
  have b0 : Below w.heap.size w W := by rw [← hW]; exact (Below.refl _ _).alloc (Nat.le_refl _) _
  have r0 : Blk W w.heap.size 32 #[.int .i64 0, .int .i64 0] := by rw [← hW]; exact Blk.new _ _ _
  refine (new_any W A len cap hlen (HC.out.below b0)).mono ?_
  rintro e w1 ⟨c, rfl, hcw, hcur, hb1⟩
  have hrl := r0.lt
  have hck : ∀ k, some c = some k → w.heap.size ≤ k := fun k hk => by simp at hk; omega
  have C1 := Lib.hid hcur
  have B1 := Lib.hid (below_chain b0 hb1)
  have R1 := Lib.hid (r0.below hb1)
  clear hcur hb1 HC b0 r0 hW
  go_wp2_with fail
  refine (list_draw w1 c A len cap hlen C1.out).mono ?_
  rintro e w2 ⟨n, zs, v, hn, hzl, rfl, hown, hc2, g2⟩
  have hcl := C1.out.lt
  have hrl1 := R1.out.lt
  have O2 := Lib.hid hown
  have C2 := Lib.hid hc2
  have B2 := Lib.hid (B1.out.grown g2 B1.out.size hck)
  have R2 := Lib.hid (R1.out.grown g2 (by simp; omega))
  clear hown hc2 g2 B1 R1
  go_wp2_with fail
  refine (any_draw _ c A len cap hlen C2.out).mono ?_
  rintro e w3 ⟨x, y, _, _, rfl, hc3, g3⟩
  have o3 := own_kept_c O2.out g3 hcl
  obtain ⟨A1, c1, rfl, d1⟩ := Drawn.of_own hn o3
  have hne : ∀ g, (Value.slice A1 n c1).ownBlock = some g → w.heap.size ≠ g := fun g hg => by have := own_ge o3 g hg; omega
  have r3 := R2.out.grown g3 (by simp; omega)
  have d0 : w3.cell? ⟨w.heap.size, 0, none⟩ = some (.int .i64 0) := by rw [r3.cell]; rfl
  have d1' : w3.cell? ⟨w.heap.size, 1, none⟩ = some (.int .i64 0) := by rw [r3.cell]; rfl
  have f0 := r3.frozen 0
  have f1 := r3.frozen 1
  have R3 := Lib.hid r3
  have O3 := Lib.hid o3
  have B3 := Lib.hid (B2.out.grown g3 B2.out.size hck)
  clear hc3 g3 d1 r3 o3
  go_wp2_with fail
  generalize hW3 : (w3.setCell _ _).setCell _ _ = W3
  have b3 : Blk W3 w.heap.size 32 #[.int .i64 x, .int .i64 y] := by rw [← hW3]; exact (R3.out.put 0 _).put 1 _
  have g3 : w3.grownBy W3 (some w.heap.size) := by rw [← hW3]; exact only_setCell (only_setCell (grown_refl _ _) 0 _) 1 _
  have e0 : W3.cell? ⟨w.heap.size, 0, none⟩ = some (.int .i64 x) := by rw [b3.cell]; rfl
  have e1 : W3.cell? ⟨w.heap.size, 1, none⟩ = some (.int .i64 y) := by rw [b3.cell]; rfl
  obtain ⟨A1', c1', he, d1⟩ := Drawn.of_own hn (own_kept_c O3.out g3 hrl1)
  simp only [Value.slice.injEq, true_and] at he
  obtain ⟨rfl, rfl⟩ := he
  exact bodyPost_ret (v := .tuple #[.slice A1 n c1, .agg #[.int .i64 x, .int .i64 y]]) (by simp [results, Try.results23, go_sem, e0, e1]) rfl ⟨A1, n, c1, zs, x, y, rfl, d1, B3.out.grown g3 B3.out.size (fun k hk => Nat.le_of_eq (Option.some.inj hk))⟩

end Go.Proofs.Ytjnmpcfclkahlaa.hexes
