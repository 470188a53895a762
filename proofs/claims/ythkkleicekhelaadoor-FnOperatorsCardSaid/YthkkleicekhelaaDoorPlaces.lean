/-
  Twelve drawn numbers of 0 to 9999: the contract of spec.DrawPlaces.
-/
import Derived.Test.YthkkleicekhelaaDoorCursor
namespace Go.Proofs.YthkkleicekhelaaDoor.hexes
open Go.RowKit

theorem intinfo : (Tryd.prog.info? 3).map (fun i => (i.zero, i.size, i.bytes)) = some (some (.int .i64 0), 1, 8) := by kernel_rfl

def nums (xs : List Nat) : List Value := xs.map fun (x : Nat) => Value.int .i64 (x : Int)

def PlacesEnd (w : World) (e : Ending) (w' : World) : Prop :=
  ∃ (v : Value) (xs : List Nat), xs.length = 12 ∧ (∀ x ∈ xs, x < 10000) ∧ e = .returned v ∧ w'.ownsRow w.heap.size 3 1 v 12 (nums xs) ∧ Below w.heap.size w w'

/-- An owned row's block is not one below its base. -/
theorem own_not {w : World} {base e size n c : Nat} {v : Value} {xs : List Value} (h : w.ownsRow base e size v n xs) (hc : c < base) : v.ownBlock ≠ some c := fun e => by
  have := own_ge h c e
  omega

/-- The cursor behind an append to a row of later blocks. -/
theorem Cursor.later {w0 w w' : World} {c len cap base e size n : Nat} {A : Option Addr} {v : Value} {xs : List Value} (h : Cursor w c A len cap) (hcame : Came w0 A len) (hc0 : w0.heap.size ≤ c) (ho : w.ownsRow base e size v n xs) (hc : c < base) (hg : w.grownBy w' v.ownBlock) (hb : Below w0.heap.size w0 w') : Cursor w' c A len cap := by
  obtain ⟨i, hh, hi, hblk⟩ := h.at_
  exact ⟨⟨i, hh, hi, hblk.grown hg (Ne.symm (own_not ho hc))⟩, hcame.bytes hb hc0⟩

theorem Cursor.alloc {w0 w : World} {c len cap : Nat} {A : Option Addr} (h : Cursor w c A len cap) (hcame : Came w0 A len) (hc0 : w0.heap.size ≤ c) (hb : Below w0.heap.size w0 w) (hs : w0.heap.size ≤ w.heap.size) (o : Obj) : Cursor (w.alloc o) c A len cap := by
  obtain ⟨i, hh, hi, hblk⟩ := h.at_
  exact ⟨⟨i, hh, hi, (Below.heap_alloc w o c hblk.lt).trans hblk⟩, hcame.bytes (hb.alloc hs o) hc0⟩

set_option maxRecDepth 100000 in
set_option maxHeartbeats 1000000 in
theorem places_any (w : World) (A : Option Addr) (len cap : Nat) (hlen : len ≤ 2097152) (hcame : Came w A len) :
    Calls Tryd.prog 18 #[.slice A len cap] w (PlacesEnd w) := by
  obtain ⟨i0, hi, hz0, hz1, hz2⟩ := info_parts intinfo
  have HC := Lib.hid hcame
  clear hcame
  go_enter Tryd.func18, Tryd.ntmps18
  go_wp2_with fail
  refine (new_any w A len cap hlen HC.out).mono ?_
  rintro e w1 ⟨c, rfl, hcw, hcur, hb1⟩
  have hs1 := hb1.size
  have hc1 : c < w1.heap.size := by obtain ⟨i, h, _, hblk⟩ := hcur.at_; exact hblk.lt
  have C1 := Lib.hid hcur
  have B1 := Lib.hid hb1
  clear hcur hb1
  go_wp2
  go_loopw [4, 5] (fun v i wr => ∃ (k : Nat) (xs : List Nat), k ≤ 12 ∧ i = .int .i64 (k : Int) ∧ xs.length = k ∧ (∀ x ∈ xs, x < 10000) ∧ wr.ownsRow w1.heap.size 3 1 v k (nums xs) ∧ Cursor wr c A len cap ∧ Below w.heap.size w wr ∧ w1.heap.size ≤ wr.heap.size) (fun _ i _ => 12 - (intOf i).toNat)
  case atStart => exact ⟨0, [], Nat.zero_le _, rfl, rfl, (fun x hx => by cases hx), World.ownsRow_lit w1 #[] 0 (Nat.le_refl _) (by decide) rfl, C1.out.alloc HC.out hcw B1.out B1.out.size _, B1.out.alloc B1.out.size _, by simp⟩
  case round =>
    obtain ⟨k, xs, hk, rfl, hl, hall, hown, hcur, hbel, hsz⟩ := hrel
    have HL := Lib.hid hl
    have HA := Lib.hid hall
    have HO := Lib.hid hown
    have HB := Lib.hid hbel
    have HCu := Lib.hid hcur
    clear hl hall hown hbel hcur
    by_cases hlt : k < 12
    · go_wp2_with fail
      refine (below_any 10000 (by omega) (by omega) wr c A len cap hlen HCu.out).mono ?_
      rintro e w2 ⟨x, hx, rfl, hcur2, g2⟩
      have O2 := Lib.hid (HO.out.kept g2 (.inr (own_not HO.out hc1)))
      have B2 := Lib.hid (HB.out.grown g2 HB.out.size (fun k hk => by have hk' : c = k := (by simpa using hk); omega))
      have hsz2 : w1.heap.size ≤ w2.heap.size := Nat.le_trans hsz g2.size
      have C2 := Lib.hid hcur2
      clear g2 hcur2
      go_wp2_with (at_builtin; refine wpList_append_own _ rfl _ _ 24 rfl w1.heap.size 3 i0 (.int .i64 0) 1 8 Tryd.underlying24 hi hz0 hz1 hz2 rfl (by decide) _ _ _ rfl (O2.out.alloc _) ⟨w2.heap.size, 0, none⟩ 1 1 [.int .i64 (x : Int)] rfl rfl (World.news_of_block (heap_alloc_new w2 _)) (by simp [Value.oneCell']) (by unfold maxLen; omega) (by omega) (by simp; omega) ?_; intro v1 w3 hown3 hgrow3 _)
      have B3 : Below w.heap.size w w3 := (B2.out.alloc B2.out.size _).grown hgrow3 (by simp; omega) (fun k hk => Nat.le_trans hs1 (own_ge O2.out k hk))
      have C3 := (C2.out.alloc HC.out hcw B2.out B2.out.size (.cells #[.int .i64 (x : Int)] 3)).later HC.out hcw (O2.out.alloc _) hc1 hgrow3 B3
      have O3 : w3.ownsRow w1.heap.size 3 1 v1 (k + 1) (nums (xs ++ [x])) := by
        have : nums (xs ++ [x]) = nums xs ++ [.int .i64 (x : Int)] := by simp [nums]
        rw [this]
        exact hown3
      have S4 : w2.heap.size + 1 ≤ w3.heap.size := by simpa using hgrow3.size
      have S3 : w1.heap.size ≤ w3.heap.size := by omega
      clear S4
      clear hown3 hgrow3
      go_roundw
      case rel => exact ⟨k + 1, xs ++ [x], by omega, by go_num, by rw [List.length_append, HL.out]; rfl, fun y hy => (by
        rcases List.mem_append.1 hy with h | h
        · exact HA.out y h
        · obtain rfl : y = x := by simpa using h
          exact hx), O3, C3, B3, S3⟩
      case measure => simp [intOf]; omega
    · have hk12 : k = 12 := by omega
      subst hk12
      go_wp2
      go_ret
      exact ⟨_, xs, HL.out, HA.out, rfl, own_base HO.out hs1, HB.out⟩
end Go.Proofs.YthkkleicekhelaaDoor.hexes
