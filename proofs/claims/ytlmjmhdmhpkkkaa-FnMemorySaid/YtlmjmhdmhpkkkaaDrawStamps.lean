/-
  Drawn stamps: the contracts of spec.l02Stamp, l02Any and l02Two.
-/
import Derived.Test.YtlmjmhdmhpkkkaaStamps
import Derived.Test.YtlmjmhdmhpkkkaaCursor
import Derived.Test.YtlmjmhdmhpkkkaaDrawBlk
namespace Go.Proofs.Ytlmjmhdmhpkkkaa.hexes
open Go.RowKit

def In64 (x : Int) : Prop := -9223372036854775808 ≤ x ∧ x ≤ 9223372036854775807

/-- The cursor in a world that has only grown. -/
theorem Cursor.grown {w w' : World} {c len cap : Nat} {A : Option Addr} (h : Cursor w c A len cap) (hg : w.grownBy w' none) : Cursor w' c A len cap := by
  obtain ⟨i, hh, hi, hblk⟩ := h.at_
  exact ⟨⟨i, hh, hi, hblk.grown hg (by simp)⟩, h.bytes.grown ⟨hg.os, hg.tape, hg.output, hg.size, fun k hk _ => hg.block k hk (by simp)⟩⟩
theorem Cursor.lt {w : World} {c len cap : Nat} {A : Option Addr} (h : Cursor w c A len cap) : c < w.heap.size := by
  obtain ⟨i, hh, hi, hblk⟩ := h.at_
  exact hblk.lt

theorem Cursor.back {w w2 w3 : World} {c len cap : Nat} {A : Option Addr} (h : Cursor w c A len cap) (h2 : Cursor w2 c A len cap) (hg : w.grownBy w3 (some c)) (hb : w3.heap[c]? = w2.heap[c]?) : Cursor w3 c A len cap := by
  obtain ⟨i, hh, hi, hblk⟩ := h2.at_
  exact ⟨⟨i, hh, hi, hb.trans hblk⟩, h.bytes.grown hg⟩
theorem grown_set_new {a w : World} {row : Option Nat} (h : a.grownBy w row) {p : Addr} (hp : a.heap.size ≤ p.block) (u : Value) : a.grownBy (w.setCell p u) row :=
  ⟨h.os, h.tape, h.output, by simpa [World.setCell] using h.size, fun i hi hne => (Below.heap_setCell w p u i (by omega)).trans (h.block i hi hne)⟩
theorem grown_wide {a w : World} {row : Option Nat} (h : a.grownBy w none) : a.grownBy w row := ⟨h.os, h.tape, h.output, h.size, fun k hk _ => h.block k hk (by simp)⟩

/-- How a drawn stamp ends: a stamp, the cursor, nothing else written. -/
def StampEnd (w : World) (c : Nat) (A : Option Addr) (len cap : Nat) (e : Ending) (w' : World) : Prop :=
  ∃ x y : Int, In64 x ∧ In64 y ∧ e = .returned (.agg #[.int .i64 x, .int .i64 y]) ∧ Cursor w' c A len cap ∧ w.grownBy w' (some c)

theorem once_any (n : Nat) (h0 : 0 < n) (h1 : n ≤ 4294967296) (w : World) (c : Nat) (A : Option Addr) (len cap : Nat) (hlen : len ≤ 2097152) (hcur : Cursor w c A len cap) :
    Calls Try.prog 55 #[.pointer (some ⟨c, 0, none⟩), .int .i64 (n : Int)] w fun e w' => ∃ b : Bool, e = .returned (.bool b) ∧ Cursor w' c A len cap ∧ w.grownBy w' (some c) := by
  have HC := Lib.hid hcur
  clear hcur
  go_enter Try.func55, Try.ntmps55
  go_wp2_with fail
  refine (below_any n h0 h1 w c A len cap hlen HC.out).mono ?_
  rintro e w1 ⟨x, hx, rfl, hc1, g1⟩
  have C1 := Lib.hid hc1
  have G1 := Lib.hid g1
  clear hc1 g1
  go_wp2
  go_ret
  exact ⟨_, rfl, C1.out, G1.out⟩

/-- How a picked number ends. -/
def PickEnd (w : World) (c : Nat) (A : Option Addr) (len cap : Nat) (ns : List Int) (e : Ending) (w' : World) : Prop :=
  ∃ n ∈ ns, e = .returned (.int .i64 n) ∧ Cursor w' c A len cap ∧ w.grownBy w' (some c)

set_option maxRecDepth 100000 in
theorem pickInt_any (w : World) (c g : Nat) (A : Option Addr) (len cap m : Nat) (ns : List Int) (hm : ns.length = m) (h0 : 0 < m) (h1 : m ≤ 256) (hlen : len ≤ 2097152) (hcur : Cursor w c A len cap) (hgc : g ≠ c)
    (hblk : Blk w g 3 (ns.map fun n => Value.int .i64 n).toArray) :
    Calls Try.prog 40 #[.pointer (some ⟨c, 0, none⟩), .slice (some ⟨g, 0, none⟩) m m] w (PickEnd w c A len cap ns) := by
  have HC := Lib.hid hcur
  have HB := Lib.hid hblk
  clear hcur hblk
  go_enter Try.func40, Try.ntmps40
  go_wp2_with fail
  refine (below_any m h0 (by omega) w c A len cap hlen HC.out).mono ?_
  rintro e w1 ⟨x, hx, rfl, hc1, g1⟩
  have hb1 := HB.out.grown g1 (by simpa using hgc)
  have hxl : x < ns.length := by omega
  have d0 : w1.cell? ⟨g, x, none⟩ = some (.int .i64 (ns[x])) := by rw [hb1.cell]; simp [hxl]
  have C1 := Lib.hid hc1
  have G1 := Lib.hid g1
  have j0 : (0 : Int) ≤ (x : Int) := by omega
  have j1 : (x : Int) < (m : Int) := by omega
  clear hc1 g1 hb1 HC HB
  go_wp2
  go_ret
  exact ⟨_, List.getElem_mem hxl, rfl, C1.out, G1.out⟩

end Go.Proofs.Ytlmjmhdmhpkkkaa.hexes
