/-
  NodeText on both sides.
-/
import Derived.Test.YthkkleicekhelaaDoorKind
import Derived.Test.YthkkleicekhelaaDoorIntKit
import Derived.Test.YthkkleicekhelaaDoorDrawBlk
import Derived.Test.YthkkleicekhelaaDoorSpecDecimal
import Derived.Test.YthkkleicekhelaaDoorImplDecimal
import Derived.Test.YthkkleicekhelaaDoorRegY1
import Derived.Deep.RegionHeld3
import Derived.Lib.Join
namespace Go.Proofs.YthkkleicekhelaaDoor.hexes
open Go.RowKit

def J64 (x : Int) : Prop := -9223372036854775808 ≤ x ∧ x ≤ 9223372036854775807
def decT (x : Int) : ByteArray := ⟨(Lib.itoa x).toArray⟩
def ndHead (k a b : Int) : ByteArray := (((nameB k ++ ⟨#[32]⟩) ++ decT a) ++ ⟨#[32]⟩) ++ decT b
def ndText (k a b : Int) (zs : List Int) : ByteArray := zs.foldl (fun s z => (s ++ ⟨#[32]⟩) ++ decT z) (ndHead k a b)
def ndParts (k a b : Int) (zs : List Int) : List ByteArray := nameB k :: decT a :: decT b :: zs.map decT
def strs (ss : List ByteArray) : List Value := ss.map Value.string

theorem decT_size {x : Int} (hx : J64 x) : (decT x).size ≤ 21 := by
  rw [show (decT x).size = (Lib.itoa x).length from List.size_toArray]; exact Lib.itoa_length_le x hx.1 hx.2
theorem nameB_size (k : Int) : (nameB k).size ≤ 4 := by
  unfold nameB
  repeat' split
  all_goals decide
theorem sp_size : (ByteArray.mk #[32]).size = 1 := rfl
theorem ndText_succ {k a b : Int} {zs : List Int} {j : Nat} {p : Int} (hj : j < zs.length) (hp : zs[j] = p) : ndText k a b (zs.take (j + 1)) = (ndText k a b (zs.take j) ++ ⟨#[32]⟩) ++ decT p := by
  rw [List.take_succ_eq_append_getElem hj, hp]
  unfold ndText
  rw [List.foldl_append]
  rfl
theorem ndHead_size {k a b : Int} (ha : J64 a) (hb : J64 b) : (ndHead k a b).size ≤ 48 := by
  have h1 := decT_size ha
  have h2 := decT_size hb
  have h3 := nameB_size k
  unfold ndHead
  rw [ByteArray.size_append, ByteArray.size_append, ByteArray.size_append, ByteArray.size_append, sp_size]
  omega
theorem fold_size (zs : List Int) (h : ∀ z ∈ zs, J64 z) : ∀ s : ByteArray, (zs.foldl (fun s z => (s ++ ⟨#[32]⟩) ++ decT z) s).size ≤ s.size + 22 * zs.length := by
  induction zs with
  | nil => intro s; simp
  | cons z zs ih =>
    intro s
    have h1 := ih (fun x hx => h x (by simp [hx])) ((s ++ ⟨#[32]⟩) ++ decT z)
    have h2 := decT_size (h z (by simp))
    rw [ByteArray.size_append, ByteArray.size_append, sp_size] at h1
    simp only [List.foldl_cons, List.length_cons]
    omega
theorem ndText_size {k a b : Int} {zs : List Int} (ha : J64 a) (hb : J64 b) (h : ∀ z ∈ zs, J64 z) : (ndText k a b zs).size ≤ 48 + 22 * zs.length := by
  have h1 := fold_size zs h (ndHead k a b)
  have h2 := ndHead_size (k := k) ha hb
  unfold ndText
  omega
theorem tail_snoc (x : List UInt8) (r : List (List UInt8)) : Lib.joinTail [32] (x :: r) = [32] ++ x ++ Lib.joinTail [32] r := by simp [Lib.joinTail]
theorem fold_join (zs : List Int) : ∀ s : ByteArray, (zs.foldl (fun s z => (s ++ ⟨#[32]⟩) ++ decT z) s).data.toList = s.data.toList ++ Lib.joinTail [32] (zs.map fun z => (decT z).data.toList) := by
  induction zs with
  | nil => intro s; simp [Lib.joinTail]
  | cons z zs ih =>
    intro s
    rw [List.foldl_cons, ih, List.map_cons, tail_snoc]
    simp [ByteArray.data_append]
theorem nd_join (k a b : Int) (zs : List Int) : ByteArray.mk (Lib.join ((ndParts k a b zs).map (·.data.toList)) [32]).toArray = ndText k a b zs := by
  apply ByteArray.ext
  apply Array.ext'
  unfold ndParts ndText
  rw [fold_join, List.map_cons, Lib.join_cons, List.map_cons, List.map_cons, tail_snoc, tail_snoc, List.map_map]
  simp [ndHead, ByteArray.data_append]
  rfl
theorem nd_join_len {k a b : Int} {zs : List Int} (ha : J64 a) (hb : J64 b) (h : ∀ z ∈ zs, J64 z) : (Lib.join ((ndParts k a b zs).map (·.data.toList)) [32]).length ≤ 48 + 22 * zs.length := by
  have h1 := ndText_size (k := k) ha hb h
  rw [← nd_join] at h1
  exact h1
theorem parts_succ {k a b : Int} {zs : List Int} {j : Nat} {p : Int} (hj : j < zs.length) (hp : zs[j] = p) : strs (ndParts k a b (zs.take (j + 1))) = strs (ndParts k a b (zs.take j)) ++ [.string (decT p)] := by
  rw [List.take_succ_eq_append_getElem hj, hp]
  simp [strs, ndParts]
theorem strs_at {ss : List ByteArray} {j : Nat} {x : ByteArray} (h : ss[j]? = some x) : (strs ss)[j]? = some (.string x) := by simp [strs, h]

set_option maxRecDepth 100000 in
set_option maxHeartbeats 2000000 in
theorem specNdText_any (k a b : Int) (A : Option Addr) (n c : Nat) (zs : List Int) (hz : zs.length = n) (ha : J64 a) (hb : J64 b) (hw : ∀ z ∈ zs, J64 z) (w : World) (h1 : Ints w A zs) (hn : n ≤ 1048576) :
    Calls Tryd.prog 12 #[.agg #[.int .i64 k, .int .i64 a, .int .i64 b, .slice A n c]] w fun e w' => e = .returned (.string (ndText k a b zs)) ∧ Below w.heap.size w w' := by
  have s0 := nameB_size k
  have s1 := decT_size ha
  have s2 := decT_size hb
  have HT0 := Lib.hid (show ndText k a b (zs.take 0) = ndHead k a b from rfl)
  have SZ := Lib.hid (fun j => ndText_size (k := k) ha hb (zs := zs.take j) (fun z hz => hw z (List.mem_of_mem_take hz)))
  have E0 := Lib.hid (fun W => specName_any k W)
  have E1 := Lib.hid (show ∀ W : World, Calls Tryd.prog 32 #[.int .i64 a] W fun e w' => e = .returned (.string (decT a)) ∧ Below W.heap.size W w' from fun W => specDec_any a ha.1 ha.2 W)
  have E2 := Lib.hid (show ∀ W : World, Calls Tryd.prog 32 #[.int .i64 b] W fun e w' => e = .returned (.string (decT b)) ∧ Below W.heap.size W w' from fun W => specDec_any b hb.1 hb.2 W)
  have EZ := Lib.hid (show ∀ p : Int, J64 p → ∀ W : World, Calls Tryd.prog 32 #[.int .i64 p] W fun e w' => e = .returned (.string (decT p)) ∧ Below W.heap.size W w' from fun p hp W => specDec_any p hp.1 hp.2 W)
  have HW := Lib.hid hw
  have HZ := Lib.hid hz
  have H1 := Lib.hid h1
  have q1 : ¬9223372036854775807 < (nameB k).size + 1 := by omega
  have q2 : ¬9223372036854775807 < (nameB k).size + 1 + (decT a).size := by omega
  have q3 : ¬9223372036854775807 < (nameB k).size + 1 + (decT a).size + 1 := by omega
  have q4 : ¬9223372036854775807 < (nameB k).size + 1 + (decT a).size + 1 + (decT b).size := by omega
  have K0 := Lib.hid (show Blk (w.alloc (.cells #[.int .i64 k, .int .i64 a, .int .i64 b, .slice A n c] 26)).drew w.heap.size 26 #[.int .i64 k, .int .i64 a, .int .i64 b, .slice A n c] from (Blk.new _ _ _).drewN 1)
  have B0 := Lib.hid (show Below w.heap.size w (w.alloc (.cells #[.int .i64 k, .int .i64 a, .int .i64 b, .slice A n c] 26)).drew from ((Below.refl _ _).alloc (Nat.le_refl _) _).drew)
  clear hz h1 ha hb hw s0 s1 s2
  go_enter Tryd.func12, Tryd.ntmps12
  go_wp2_with fail
  go_region_held3 (fun w' => w'.cell? ⟨w.heap.size, 0, none⟩ = some (.int .i64 k) ∧ w'.cell? ⟨w.heap.size, 1, none⟩ = some (.int .i64 a) ∧ w'.cell? ⟨w.heap.size, 2, none⟩ = some (.int .i64 b))
    (((try go_split_ands); refine ⟨?_, ?_, ?_⟩ <;> (repeat (first | with_reducible assumption | with_reducible refine drew_keep ?_ | with_reducible refine below_keep hbd ?_ | with_reducible exact alloc_cells rfl rfl))))
    (first | (go_at_call 15; (try go_split_ands); with_reducible refine (E0.out _).mono ?_; rintro e w2 ⟨rfl, hbd⟩; have hb0 := hbd) | (go_at_call 32; (try go_split_ands); with_reducible refine (E1.out _).mono ?_; rintro e w2 ⟨rfl, hbd⟩; have hb1 := hbd) | (go_at_call 32; (try go_split_ands); with_reducible refine (E2.out _).mono ?_; rintro e w2 ⟨rfl, hbd⟩; have hb2 := hbd))
  have BA := Lib.hid (below_chain (below_chain (below_chain B0.out hb0) hb1) hb2)
  have KA := Lib.hid (((K0.out.below hb0).below hb1).below hb2)
  clear hb0 hb1 hb2 hbd q1 q2 q3 q4
  go_wp2
  go_loopw [3, 4] (fun s i wr => ∃ j : Nat, j ≤ n ∧ i = .int .i64 j ∧ s = .string (ndText k a b (zs.take j)) ∧ Blk wr w.heap.size 26 #[.int .i64 k, .int .i64 a, .int .i64 b, .slice A n c] ∧ Below w.heap.size w wr) (fun _ i _ => n - (intOf i).toNat)
  case atStart => exact ⟨0, Nat.zero_le _, rfl, rfl, KA.out, BA.out⟩
  case round =>
    obtain ⟨j, hj, rfl, rfl, hk, hb⟩ := hrel
    have K := Lib.hid hk
    have B := Lib.hid hb
    have x3 : wr.cell? ⟨w.heap.size, 3, none⟩ = some (.slice A n c) := by rw [hk.cell]; rfl
    clear HT0 hk KA BA E0 E1 E2
    by_cases hlt : j < n
    · have l1 : j < zs.length := by rw [HZ.out]; exact hlt
      obtain ⟨b1, o1, p, rfl, x1, e1⟩ := (H1.out.below hb).at l1
      have hp : J64 p := HW.out p (by rw [← x1]; exact List.getElem_mem l1)
      have HS := ndText_succ (k := k) (a := a) (b := b) l1 x1
      have sz := SZ.out j
      rw [List.length_take_of_le (by omega)] at sz
      have dz := decT_size hp
      have E := Lib.hid (EZ.out p hp)
      have i0 : (0 : Int) ≤ (j : Int) := by omega
      have i1 : (j : Int) < (n : Int) := by omega
      generalize ndText k a b (zs.take j) = t at *
      have HS2 := Lib.hid HS
      have q1 : ¬9223372036854775807 < t.size + 1 := by omega
      have q2 : ¬9223372036854775807 < t.size + 1 + (decT p).size := by omega
      clear hb x1 HS sz dz hp l1
      go_wp2_with fail
      refine (E.out _).mono ?_
      rintro e w3 ⟨rfl, hb3⟩
      have K3 := Lib.hid (K.out.below hb3)
      have B3 := Lib.hid (below_chain B.out hb3)
      clear hb3 x3 e1 B K
      go_wp2
      go_roundw
      case rel => exact ⟨j + 1, by omega, by go_num, congrArg Value.string HS2.out.symm, K3.out, B3.out⟩
      case measure => simp [intOf]; omega
    · have hjn : j = n := by omega
      have HE := Lib.hid (show ndText k a b (zs.take j) = ndText k a b zs by rw [List.take_of_length_le (by rw [HZ.out]; omega)])
      clear hb hjn
      go_wp2
      go_ret
      exact ⟨congrArg (fun t => Ending.returned (Value.string t)) HE.out, B.out⟩

/-- What NodeText's first statement reads: the node, the table of powers. -/
structure HeldN (g : Nat) (k a b : Int) (w : World) : Prop where
  c0 : w.cell? ⟨g, 0, none⟩ = some (.int .i64 k)
  c1 : w.cell? ⟨g, 1, none⟩ = some (.int .i64 a)
  c2 : w.cell? ⟨g, 2, none⟩ = some (.int .i64 b)
  tb : Lib.TabIs Tryd.prog w "internal/strconv.uint64pow10" .u64 Lib.pow10Tab
theorem HeldN.below {g : Nat} {k a b : Int} {w w' : World} (h : HeldN g k a b w) (hb : Below w.heap.size w w') : HeldN g k a b w' := ⟨below_keep hb h.c0, below_keep hb h.c1, below_keep hb h.c2, pow10_below h.tb hb⟩
theorem strinfo : (Tryd.prog.info? 9).map (fun i => (i.zero, i.size, i.bytes)) = some (some (.string ⟨#[]⟩), 1, 16) := by kernel_rfl
theorem ints_lt {w : World} {A : Option Addr} {zs : List Int} (h : Ints w A zs) (hl : 0 < zs.length) : ∀ b off, A = some ⟨b, off, none⟩ → b < w.heap.size := fun b off hA => by
  obtain ⟨b', off', hA', hlt, _⟩ := h hl
  rw [hA] at hA'
  simp only [Option.some.injEq, Addr.mk.injEq, and_true] at hA'
  omega

/-- The texts joined. -/
theorem ndJoin_any (k a b : Int) (zs : List Int) (ha : J64 a) (hb : J64 b) (hw : ∀ z ∈ zs, J64 z) (hl : zs.length ≤ 1048576) (B n : Nat) (hn : n = 3 + zs.length) (v : Value) (w : World) (hown : w.ownsRow B 9 1 v n (strs (ndParts k a b zs))) :
    Calls Tryd.prog 31 #[v, .string ⟨#[32]⟩] w fun e w' => e = .returned (.string (ndText k a b zs)) ∧ Below w.heap.size w w' := by
  obtain ⟨A, c, rfl, hf⟩ := own_form hown
  obtain ⟨g, rfl⟩ := hf (by omega)
  have hpl : (ndParts k a b zs).length = n := by simp [ndParts]; omega
  have hcap : n ≤ c := by
    rcases hown.2 with ⟨h0, _⟩ | ⟨g', cap, cur, hv, _, _, hnc, _⟩
    · simp at h0
    · simp only [Value.slice.injEq, true_and] at hv
      obtain ⟨_, rfl⟩ := hv
      exact hnc
  have hlen := nd_join_len (k := k) ha hb hw
  have h := Tryd.strings_Join g 0 c (ndParts k a b zs) ⟨#[32]⟩ w (fun j x hx => by
    have hj : j < n := by rw [← hpl]; exact (List.getElem?_eq_some_iff.1 hx).1
    rw [Nat.zero_add, hown.cellAt j (by omega)]
    exact strs_at hx) (own_lt hown) (by rw [hpl]; omega) (by rw [hpl]; exact hcap) (Nat.le_trans hlen (by omega))
  rw [hpl] at h
  refine h.mono ?_
  rintro e w' ⟨rfl, hb'⟩
  exact ⟨congrArg (fun t => Ending.returned (Value.string t)) (nd_join k a b zs), hb'⟩

set_option maxRecDepth 100000 in
set_option maxHeartbeats 2000000 in
theorem implNdText_any (k a b : Int) (A : Option Addr) (n c : Nat) (zs : List Int) (hz : zs.length = n) (ha : J64 a) (hb : J64 b) (hw : ∀ z ∈ zs, J64 z) (w : World) (h1 : Ints w A zs) (hn : n ≤ 1048576) (htab : Lib.TabIs Tryd.prog w "internal/strconv.uint64pow10" .u64 Lib.pow10Tab) :
    Calls Tryd.prog 11 #[.agg #[.int .i64 k, .int .i64 a, .int .i64 b, .slice A n c]] w fun e w' => e = .returned (.string (ndText k a b zs)) ∧ Below w.heap.size w w' := by
  obtain ⟨i0, hi, hz0, hz1, hz2⟩ := info_parts strinfo
  have E0' := (fun W => implName_any k W)
  have E1' := (show ∀ W : World, Lib.TabIs Tryd.prog W "internal/strconv.uint64pow10" .u64 Lib.pow10Tab → Calls Tryd.prog 30 #[.int .i64 a] W fun e w' => e = .returned (.string (decT a)) ∧ Below W.heap.size W w' from fun W h => implDec_any a ha.1 ha.2 W h)
  have E2' := (show ∀ W : World, Lib.TabIs Tryd.prog W "internal/strconv.uint64pow10" .u64 Lib.pow10Tab → Calls Tryd.prog 30 #[.int .i64 b] W fun e w' => e = .returned (.string (decT b)) ∧ Below W.heap.size W w' from fun W h => implDec_any b hb.1 hb.2 W h)
  have EZ := Lib.hid (show ∀ p : Int, J64 p → ∀ W : World, Lib.TabIs Tryd.prog W "internal/strconv.uint64pow10" .u64 Lib.pow10Tab → Calls Tryd.prog 30 #[.int .i64 p] W fun e w' => e = .returned (.string (decT p)) ∧ Below W.heap.size W w' from fun p hp W h => implDec_any p hp.1 hp.2 W h)
  have EJ := Lib.hid (fun B n hn v W h => ndJoin_any k a b zs ha hb hw (by omega) B n hn v W h)
  have HP0' := (show strs (ndParts k a b (zs.take 0)) = [.string (nameB k), .string (decT a), .string (decT b)] from rfl)
  generalize nameB k = t0 at E0' HP0'
  generalize decT a = t1 at E1' HP0'
  generalize decT b = t2 at E2' HP0'
  have HP0 := Lib.hid HP0'
  have E0 := Lib.hid E0'
  have E1 := Lib.hid E1'
  have E2 := Lib.hid E2'
  have HW := Lib.hid hw
  have HZ := Lib.hid hz
  have H1 := Lib.hid h1
  have HTB := Lib.hid htab
  have K1 := Lib.hid (show Blk (w.alloc (.cells #[.int .i64 k, .int .i64 a, .int .i64 b, .slice A n c] 26)).drew w.heap.size 26 #[.int .i64 k, .int .i64 a, .int .i64 b, .slice A n c] from (Blk.new _ _ _).drewN 1)
  have B1 := Lib.hid (show Below w.heap.size w (w.alloc (.cells #[.int .i64 k, .int .i64 a, .int .i64 b, .slice A n c] 26)).drew from ((Below.refl _ _).alloc (Nat.le_refl _) _).drew)
  have S0 := Lib.hid (show HeldN w.heap.size k a b (w.alloc (.cells #[.int .i64 k, .int .i64 a, .int .i64 b, .slice A n c] 26)).drew from ⟨drew_keep (by simp), drew_keep (by simp), drew_keep (by simp), pow10_below htab (((Below.refl _ _).alloc (Nat.le_refl _) _).drew)⟩)
  clear hz h1 ha hb hw htab E0' E1' E2' HP0'
  go_enter Tryd.func11, Tryd.ntmps11
  go_wp2_with fail
  refine wp_region_held_drew (S := HeldN w.heap.size k a b) (by kernel_rfl) ?_ (fun hHeld => ?_)
  · skip
    exact S0.out
  change wpAnyH _ _ opsY1 _ _ 11 (LY1 0) _ _
  refine tY1_0 (.pointer (some ⟨w.heap.size, 0, none⟩)) (fun _ _ _ h => h) (Or.inl ⟨by rfl, fun W hSw => ?_⟩) hHeld ?_
  · skip
    unfold qY1_0
    go_simp
  try simp only [Act.put, List.setIfInBounds_toArray, List.set_cons_zero, List.set_cons_succ]
  refine tY1_1 (.int .i64 k) (fun _ _ _ h => h) (Or.inl ⟨by rfl, fun W hSw => ?_⟩) hHeld ?_
  · skip
    unfold qY1_1
    obtain ⟨c0, c1, c2, tb⟩ := hSw
    go_simp
  try simp only [Act.put, List.setIfInBounds_toArray, List.set_cons_zero, List.set_cons_succ]
  refine tY1_2 (.pointer (some ⟨w.heap.size, 1, none⟩)) (fun _ _ _ h => h) (Or.inl ⟨by rfl, fun W hSw => ?_⟩) hHeld ?_
  · skip
    unfold qY1_3
    go_simp
  try simp only [Act.put, List.setIfInBounds_toArray, List.set_cons_zero, List.set_cons_succ]
  refine tY1_3 (.int .i64 a) (fun _ _ _ h => h) (Or.inl ⟨by rfl, fun W hSw => ?_⟩) hHeld ?_
  · skip
    unfold qY1_4
    obtain ⟨c0, c1, c2, tb⟩ := hSw
    go_simp
  try simp only [Act.put, List.setIfInBounds_toArray, List.set_cons_zero, List.set_cons_succ]
  refine tY1_4 (.pointer (some ⟨w.heap.size, 2, none⟩)) (fun _ _ _ h => h) (Or.inl ⟨by rfl, fun W hSw => ?_⟩) hHeld ?_
  · skip
    unfold qY1_6
    go_simp
  try simp only [Act.put, List.setIfInBounds_toArray, List.set_cons_zero, List.set_cons_succ]
  refine tY1_5 (.int .i64 b) (fun _ _ _ h => h) (Or.inl ⟨by rfl, fun W hSw => ?_⟩) hHeld ?_
  · skip
    unfold qY1_7
    obtain ⟨c0, c1, c2, tb⟩ := hSw
    go_simp
  try simp only [Act.put, List.setIfInBounds_toArray, List.set_cons_zero, List.set_cons_succ]
  refine cY1_6 (fun K hK => ?_)
  rw [if_pos (by rfl)]
  unfold qY1_2
  go_simp
  refine (E0.out _).mono ?_
  rintro e w2 ⟨rfl, hb2⟩
  have B2 := Lib.hid (below_chain B1.out hb2)
  have K2 := Lib.hid (K1.out.below hb2)
  refine Shut.out hK _ _ ?_ (fun hHeld => ?_)
  · exact hHeld.below hb2
  clear hb2
  clear hK K
  try simp only [Act.put, List.setIfInBounds_toArray, List.set_cons_zero, List.set_cons_succ]
  refine cY1_7 (fun K hK => ?_)
  rw [if_pos (by rfl)]
  unfold qY1_5
  go_simp
  refine (E1.out _ hHeld.tb).mono ?_
  rintro e w3 ⟨rfl, hb3⟩
  have B3 := Lib.hid (below_chain B2.out hb3)
  have K3 := Lib.hid (K2.out.below hb3)
  refine Shut.out hK _ _ ?_ (fun hHeld => ?_)
  · exact hHeld.below hb3
  clear hb3
  clear hK K
  try simp only [Act.put, List.setIfInBounds_toArray, List.set_cons_zero, List.set_cons_succ]
  refine cY1_8 (fun K hK => ?_)
  rw [if_pos (by rfl)]
  unfold qY1_8
  go_simp
  refine (E2.out _ hHeld.tb).mono ?_
  rintro e w4 ⟨rfl, hb4⟩
  have B4 := Lib.hid (below_chain B3.out hb4)
  have K4 := Lib.hid (K3.out.below hb4)
  refine Shut.out hK _ _ ?_ (fun hHeld => ?_)
  · exact hHeld.below hb4
  clear hb4
  clear hK K
  try simp only [Act.put, List.setIfInBounds_toArray, List.set_cons_zero, List.set_cons_succ]
  refine cY1_9 (fun K hK => ?_)
  rw [if_pos (by rfl)]
  unfold qY1_9
  go_simp
  refine Shut.out hK _ _ ?_ (fun hHeld => ?_)
  · exact hHeld.below ((Below.refl _ _).alloc (Nat.le_refl _) _)
  clear hK K
  try simp only [Act.put, List.setIfInBounds_toArray, List.set_cons_zero, List.set_cons_succ]
  refine tY1_10 (.slice (some ⟨w4.heap.size, 0, none⟩) 3 3) (fun _ _ _ h => h) (Or.inl ⟨by rfl, fun W hSw => ?_⟩) hHeld ?_
  · skip
    unfold qY1_10
    go_simp
  try simp only [Act.put, List.setIfInBounds_toArray, List.set_cons_zero, List.set_cons_succ]
  refine wpAnyH_done (by kernel_rfl) ?_ _
  clear hHeld
  generalize hV : (w4.alloc _) = V
  have KV := Lib.hid (show Blk V w.heap.size 26 #[.int .i64 k, .int .i64 a, .int .i64 b, .slice A n c] by rw [← hV]; exact (Below.heap_alloc _ _ _ K4.out.lt).trans K4.out)
  have BV := Lib.hid (show Below w.heap.size w V by rw [← hV]; exact B4.out.alloc B4.out.size _)
  have OV := Lib.hid (show V.ownsRow (w.heap.size + 1) 9 1 (.slice (some ⟨w4.heap.size, 0, none⟩) 3 3) 3 (strs (ndParts k a b (zs.take 0))) by
    rw [← hV, HP0.out]
    exact own_base (World.ownsRow_lit w4 #[.string t0, .string t1, .string t2] 3 (Nat.le_refl _) (by decide) rfl) K4.out.lt)
  clear hV B1 B2 B3 B4 K1 K2 K3 K4
  have x3 : V.cell? ⟨w.heap.size, 3, none⟩ = some (.slice A n c) := by rw [KV.out.cell]; rfl
  go_wp2
  clear x3
  go_loopw [3, 19] (fun s i wr => ∃ j : Nat, j ≤ n ∧ i = .int .i64 j ∧ wr.ownsRow (w.heap.size + 1) 9 1 s (3 + j) (strs (ndParts k a b (zs.take j))) ∧ Below w.heap.size w wr) (fun _ i _ => n - (intOf i).toNat)
  case atStart => exact ⟨0, Nat.zero_le _, rfl, OV.out, BV.out⟩
  case round =>
    obtain ⟨j, hj, rfl, ho, hb⟩ := hrel
    have O := Lib.hid ho
    have B := Lib.hid hb
    have bsz := hb.size
    clear ho KV OV BV E0 E1 E2 HP0
    by_cases hlt : j < n
    · have l1 : j < zs.length := by rw [HZ.out]; exact hlt
      obtain ⟨b1, o1, p, rfl, x1, e1⟩ := (H1.out.below hb).at l1
      have hp : J64 p := HW.out p (by rw [← x1]; exact List.getElem_mem l1)
      have HS := Lib.hid (parts_succ (k := k) (a := a) (b := b) l1 x1)
      have E := Lib.hid (EZ.out p hp)
      have TB := Lib.hid (pow10_below HTB.out hb)
      have i0' : (0 : Int) ≤ (j : Int) := by omega
      have i1 : (j : Int) < (n : Int) := by omega
      clear hb x1 hp l1
      go_wp2_with fail
      refine (E.out _ TB.out).mono ?_
      rintro e w3 ⟨rfl, hb3⟩
      have B3 := Lib.hid (below_chain B.out hb3)
      have O3 := Lib.hid (own_below O.out hb3)
      have sz3 := hb3.size
      clear hb3 e1 B O
      go_wp2_with (at_builtin; refine wpList_append_own _ rfl _ _ 50 rfl (w.heap.size + 1) 9 i0 (.string ⟨#[]⟩) 1 16 Tryd.underlying50 hi hz0 hz1 hz2 rfl (by decide) _ (3 + j) _ rfl (O3.out.alloc _) ⟨w3.heap.size, 0, none⟩ 1 1 [.string (decT p)] rfl rfl (World.news_of_block (heap_alloc_new w3 _)) (by simp [Value.oneCell']) (by unfold maxLen; omega) (by omega) (by simp; omega) ?_; intro v4 w4 O4 G4 _; generalize hG : wpList _ _ _ _ _ _ = G)
      subst hG
      rw [← HS.out] at O4
      have O4' := Lib.hid O4
      have G5 := Lib.hid (B3.out.alloc B3.out.size (.cells #[.string (decT p)] 9))
      have B4 := Lib.hid (show Below w.heap.size w w4 from G5.out.grown G4 (by simp; omega) (fun g hg => by have := own_ge O3.out g hg; omega))
      clear O4 G4 G5
      go_wp2
      go_roundw
      case rel => exact ⟨j + 1, by omega, by go_num, O4'.out, B4.out⟩
      case measure => simp [intOf]; omega
    · have hjn : j = n := by omega
      have O' := Lib.hid (show wr.ownsRow (w.heap.size + 1) 9 1 _ (3 + j) (strs (ndParts k a b zs)) by have h := O.out; rw [List.take_of_length_le (by rw [HZ.out]; omega)] at h; exact h)
      have hj3 : 3 + j = 3 + zs.length := by rw [HZ.out]; omega
      have HJ := Lib.hid hj3
      clear hb hjn O hj3
      go_wp2_with fail
      refine (EJ.out _ _ HJ.out _ _ O'.out).mono ?_
      rintro e w5 ⟨rfl, hb5⟩
      have B5 := Lib.hid (below_chain B.out hb5)
      clear hb5
      go_wp2
      go_ret
      exact ⟨rfl, B5.out⟩

end Go.Proofs.YthkkleicekhelaaDoor.hexes
