/-
  Lists of ints in memory: how they lie there, and the contracts of the laws' own functions on them.
-/
import Derived.Test.YtbbagpnjjjohpaaJ1
import Derived.Deep.Slices
import Derived.ChangeSame
import Derived.OpenShut

namespace Go.Proofs.Ytbbagpnjjjohpaa.hexes
open Go.RowKit Go.ChangeShapes Go.WideShapes Go.Deep

/-- A list of ints as a row of cells. -/
def isCells (zs : List Int) : List Value := zs.map fun z => Value.int .i64 z

theorem isCells_append (a b : List Int) : isCells (a ++ b) = isCells a ++ isCells b := by simp [isCells]

theorem isCells_length (zs : List Int) : (isCells zs).length = zs.length := by simp [isCells]

theorem isCells_at (zs : List Int) (j : Nat) (h : j < zs.length) : (isCells zs)[j]? = some (.int .i64 zs[j]) := by simp [isCells, h]

theorem isCells_one {zs : List Int} {u : Value} (h : u ∈ isCells zs) : u.oneCell' = true := by
  simp only [isCells, List.mem_map] at h
  obtain ⟨z, _, rfl⟩ := h
  rfl

theorem isCells_set (zs : List Int) (k : Nat) (z : Int) : (isCells zs).set k (.int .i64 z) = isCells (zs.set k z) := by
  simp [isCells, List.map_set]

/-- A list of ints that can be read at A. -/
def Ints (w : World) (A : Option Addr) (zs : List Int) : Prop :=
  0 < zs.length → ∃ b off, A = some ⟨b, off, none⟩ ∧ b < w.heap.size ∧ ∀ j, (h : j < zs.length) → w.cell? ⟨b, off + j, none⟩ = some (.int .i64 zs[j])

theorem Ints.below {w w' : World} {A : Option Addr} {zs : List Int} (h : Ints w A zs) (hb : Below w.heap.size w w') : Ints w' A zs := fun hl => by
  obtain ⟨b, off, hA, hlt, hz⟩ := h hl
  exact ⟨b, off, hA, Nat.lt_of_lt_of_le hlt hb.size, fun j hj => below_keep hb (hz j hj)⟩

theorem Ints.of_own {w : World} {B e n : Nat} {v : Value} {zs : List Int} (h : w.ownsRow B e 1 v n (isCells zs)) : ∃ A cap, v = .slice A n cap ∧ zs.length = n ∧ Ints w A zs := by
  have hl : zs.length = n := by have := h.1; rw [isCells_length] at this; omega
  rcases h.2 with ⟨rfl, rfl⟩ | ⟨g, cap, cur, rfl, _, hg, hnc, _, hcs, htk⟩
  · exact ⟨none, 0, rfl, hl, fun h => absurd h (by omega)⟩
  · refine ⟨some ⟨g, 0, none⟩, cap, rfl, hl, fun hp => ⟨g, 0, rfl, ?_, fun j hj => ?_⟩⟩
    · rcases Nat.lt_or_ge g w.heap.size with hlt | hge
      · exact hlt
      · rw [Array.getElem?_eq_none hge] at hg; cases hg
    · rw [Nat.zero_add, h.cellAt j (by omega)]
      exact isCells_at zs j hj

/-- The k-th entry of a list that can be read. -/
theorem Ints.at {w : World} {A : Option Addr} {zs : List Int} (h : Ints w A zs) {k : Nat} (hk : k < zs.length) : ∃ b off p, A = some ⟨b, off, none⟩ ∧ zs[k] = p ∧ w.cell? ⟨b, off + k, none⟩ = some (.int .i64 p) := by
  obtain ⟨b, off, hA, _, hz⟩ := h (by omega)
  exact ⟨b, off, zs[k], hA, rfl, hz k hk⟩

theorem Ints.news {w : World} {ad : Addr} {ys : List Int} (h : Ints w (some ad) ys) (j : Nat) (u : Value) (hu : (isCells ys)[j]? = some u) : w.cell? (ad.add j) = some u := by
  have hj : j < ys.length := by rw [← isCells_length]; exact (List.getElem?_eq_some_iff.1 hu).1
  obtain ⟨b, off, hA, _, hz⟩ := h (by omega)
  obtain rfl : ad = ⟨b, off, none⟩ := Option.some.inj hA
  rw [addr_add1, hz j hj, ← hu, isCells_at ys j hj]

theorem is_none {w : World} {n : Nat} {zs : List Int} (h : Ints w none zs) (hz : zs.length = n) : n = 0 := by
  rcases Nat.eq_zero_or_pos n with h0 | h0
  · exact h0
  · obtain ⟨b, off, hA, _⟩ := h (by omega)
    cases hA

theorem szIs_over (A : Option Addr) (n c : Nat) (left : Int) (h0 : 0 ≤ left) (h1 : left ≤ 1048576) (hn : n ≤ maxLen) (h : left < (n : Int)) (w : World) :
    Calls Try.prog 113 #[.slice A n c, .int .i64 left] w fun e w' => e = .returned (.int .i64 (-1)) ∧ w = w' := by
  unfold maxLen at hn
  have m : IntKind.i64.wrap (left - (n : Int)) = left - (n : Int) := IntWalk.i64_in _ (by omega)
  have hd : decide (left - (n : Int) < 0) = true := by simp; omega
  go_enter Try.func113, Try.ntmps113
  go_wp2
  go_ret
  exact ⟨rfl, rfl⟩

theorem szIs_in (A : Option Addr) (n c : Nat) (left : Int) (h0 : 0 ≤ left) (h1 : left ≤ 1048576) (hn : n ≤ maxLen) (h : ¬left < (n : Int)) (w : World) :
    Calls Try.prog 113 #[.slice A n c, .int .i64 left] w fun e w' => e = .returned (.int .i64 (left - n)) ∧ w = w' := by
  unfold maxLen at hn
  have m : IntKind.i64.wrap (left - (n : Int)) = left - (n : Int) := IntWalk.i64_in _ (by omega)
  have hd : decide (left - (n : Int) < 0) = false := by simp; omega
  go_enter Try.func113, Try.ntmps113
  go_wp2
  go_ret
  exact ⟨rfl, rfl⟩

theorem take_step_is {zs ys : List Int} {k : Nat} (h1 : k < zs.length) (h2 : k < ys.length) (ht : zs.take k = ys.take k) (he : zs[k] = ys[k]) : zs.take (k + 1) = ys.take (k + 1) := by
  rw [List.take_succ_eq_append_getElem h1, List.take_succ_eq_append_getElem h2, ht, he]

set_option maxRecDepth 100000 in
theorem eqIsS_same (n : Nat) (zs ys : List Int) (hz : zs.length = n) (hy : ys.length = n) (A1 A2 : Option Addr) (c1 c2 : Nat) (w : World) (h1 : Ints w A1 zs) (h2 : Ints w A2 ys) (hn : n ≤ 4194304) :
    Calls Try.prog 115 #[.slice A1 n c1, .slice A2 n c2] w fun e w' => e = .returned (.bool (decide (zs = ys))) ∧ Below w.heap.size w w' := by
  have H1 := Lib.hid h1
  have H2 := Lib.hid h2
  have HZ := Lib.hid hz
  have HY := Lib.hid hy
  clear h1 h2 hz hy
  go_enter Try.func115, Try.ntmps115
  go_wp2
  go_loopw [5] (fun i wr => ∃ k d : Nat, k ≤ n ∧ i = .int .i64 k ∧ zs.take k = ys.take k ∧ wr = w.drewN d) (fun i _ => n - (intOf i).toNat)
  case atStart => exact ⟨0, 0, Nat.zero_le _, rfl, rfl, rfl⟩
  case round =>
    obtain ⟨k, d, hk, rfl, ht, rfl⟩ := hrel
    have HT := Lib.hid ht
    clear ht
    by_cases hlt : k < n
    · have l1 : k < zs.length := by rw [HZ.out]; exact hlt
      have l2 : k < ys.length := by rw [HY.out]; exact hlt
      obtain ⟨b1, o1, p, rfl, x1, e1⟩ := H1.out.at l1
      obtain ⟨b2, o2, q, rfl, x2, e2⟩ := H2.out.at l2
      have X1 := Lib.hid x1
      have X2 := Lib.hid x2
      have i0 : (0 : Int) ≤ (k : Int) := by omega
      have i1 : (k : Int) < (n : Int) := by omega
      clear x1 x2
      by_cases he : p = q
      · have hne : (p != q) = false := by simpa using he
        have HT2 := Lib.hid (take_step_is l1 l2 HT.out ((X1.out.trans he).trans X2.out.symm))
        clear HT X1 X2 l1 l2 he
        go_wp2_with fail
        go_quiet (fail)
        go_wp2
        go_roundw
        case rel => exact ⟨k + 1, _, by omega, by go_num, HT2.out, rfl⟩
        case measure => simp [intOf]; omega
      · have hne : (p != q) = true := by simpa using he
        have hdz : decide (zs = ys) = false := by
          simp only [decide_eq_false_iff_not]
          rintro rfl
          exact he (X1.out.symm.trans X2.out)
        have HN := Lib.hid hdz
        clear HT X1 X2 l1 l2 he hdz
        go_wp2_with fail
        go_quiet (fail)
        go_wp2
        go_ret
        exact ⟨congrArg (fun b => Ending.returned (Value.bool b)) HN.out.symm, belowN (belowN (Below.refl _ _) _) _⟩
    · have hkn : k = n := by omega
      have heq : zs = ys := by
        have h3 := HT.out
        rw [List.take_of_length_le (by rw [HZ.out]; omega), List.take_of_length_le (by rw [HY.out]; omega)] at h3
        exact h3
      have hd : decide (zs = ys) = true := by simp [heq]
      have HD := Lib.hid hd
      clear heq hd HT
      go_wp2
      go_ret
      exact ⟨congrArg (fun b => Ending.returned (Value.bool b)) HD.out.symm, belowN (Below.refl _ _) _⟩

theorem eqIsS_any (n m : Nat) (zs ys : List Int) (hz : zs.length = n) (hy : ys.length = m) (A1 A2 : Option Addr) (c1 c2 : Nat) (w : World) (h1 : Ints w A1 zs) (h2 : Ints w A2 ys) (hn : n ≤ 4194304) :
    Calls Try.prog 115 #[.slice A1 n c1, .slice A2 m c2] w fun e w' => e = .returned (.bool (decide (zs = ys))) ∧ Below w.heap.size w w' := by
  by_cases h : n = m
  · subst h
    exact eqIsS_same n zs ys hz hy A1 A2 c1 c2 w h1 h2 hn
  · have hd : decide (zs = ys) = false := by
      simp only [decide_eq_false_iff_not]
      rintro rfl
      omega
    rw [hd]
    have hc : ((n : Int) != (m : Int)) = true := by simp; omega
    clear hz hy h1 h2 hd
    go_enter Try.func115, Try.ntmps115
    go_wp2
    go_ret
    exact ⟨rfl, Below.refl _ _⟩

theorem isinfo : (Try.prog.info? 3).map (fun i => (i.zero, i.size, i.bytes)) = some (some (.int .i64 0), 1, 8) := by kernel_rfl

theorem isCells_made (n : Nat) : (madeCells #[.int .i64 0] (n * 1)).toList = isCells (List.replicate n 0) := by
  apply List.ext_getElem?
  intro i
  by_cases hi : i < n
  · have hL : (madeCells #[.int .i64 0] (n * 1)).toList[i]? = some (.int .i64 0) := by
      simp only [madeCells, Array.toList_map, Array.toList_range, List.getElem?_map, List.getElem?_range (show i < n * 1 by omega), Option.map_some]
      simp [Nat.mod_one]
    rw [hL, isCells_at _ _ (by simpa using hi)]
    simp
  · rw [List.getElem?_eq_none (by simp [size_madeCells]; omega), List.getElem?_eq_none (by rw [isCells_length]; simp; omega)]

theorem fill_step_is {zs : List Int} {k n : Nat} (hk : k < zs.length) (hn : zs.length = n) : (zs.take k ++ List.replicate (n - k) (0 : Int)).set k zs[k] = zs.take (k + 1) ++ List.replicate (n - (k + 1)) 0 := by
  have hl : (zs.take k).length = k := by simp; omega
  rw [List.set_append_right _ _ (by omega), hl, Nat.sub_self, show n - k = (n - (k + 1)) + 1 by omega, List.replicate_succ, List.set_cons_zero, List.take_succ_eq_append_getElem hk]
  simp only [List.append_assoc, List.singleton_append]

/-- A store of one into an owned row. -/
theorem own_stored_is {w : World} {base e g n cap : Nat} {ys : List Int} (h : w.ownsRow base e 1 (.slice (some ⟨g, 0, none⟩) n cap) n (isCells ys)) (k : Nat) (p : Int) :
    (w.setCell ⟨g, k, none⟩ (.int .i64 p)).ownsRow base e 1 (.slice (some ⟨g, 0, none⟩) n cap) n (isCells (ys.set k p)) ∧ w.grownBy (w.setCell ⟨g, k, none⟩ (.int .i64 p)) (some g) := by
  have s0 := h.stored k (.int .i64 p)
  have hl := s0.1
  rw [isCells_set] at hl
  exact ⟨hl, s0.2⟩

set_option maxRecDepth 100000 in
theorem toIsS_any (n : Nat) (zs : List Int) (hz : zs.length = n) (A : Option Addr) (c : Nat) (w : World) (h1 : Ints w A zs) (hn : n ≤ 1048576) :
    Calls Try.prog 114 #[.slice A n c] w fun e w' => ∃ v, e = .returned v ∧ w'.ownsRow w.heap.size 3 1 v n (isCells zs) ∧ Below w.heap.size w w' := by
  obtain ⟨i0, hi, hz0, hz1, hz2⟩ := info_parts isinfo
  have H1 := Lib.hid h1
  have HZ := Lib.hid hz
  clear h1 hz
  go_enter Try.func114, Try.ntmps114
  go_wp2_with (at_make; refine wpList_make_full _ rfl _ _ 44 rfl w.heap.size 3 i0 (.int .i64 0) 1 Try.underlying44 hi hz0 hz1 .i64 .i64 _ _ n rfl rfl rfl rfl (by rw [hz2]; omega) (by unfold maxLen; omega) (Nat.le_refl _) ?_; intro w1 hown1 hg1)
  have B1 := Lib.hid ((Below.refl w.heap.size w).grown hg1 (Nat.le_refl _) (fun k hk => by simp at hk))
  have hc1 : (madeCells (Value.int .i64 0).cells (n * 1)).toList = isCells (List.replicate n 0) := isCells_made n
  rw [hc1] at hown1
  have O1 := Lib.hid hown1
  clear hown1 hg1 hc1
  go_wp2
  go_loopw [4] (fun i wr => ∃ k : Nat, k ≤ n ∧ i = .int .i64 k ∧ wr.ownsRow w.heap.size 3 1 (.slice (some ⟨w.heap.size, 0, none⟩) n n) n (isCells (zs.take k ++ List.replicate (n - k) 0)) ∧ Below w.heap.size w wr) (fun i _ => n - (intOf i).toNat)
  case atStart => exact ⟨0, Nat.zero_le _, rfl, by simpa using O1.out, B1.out⟩
  case round =>
    obtain ⟨k, hk, rfl, hown, hb⟩ := hrel
    have HO := Lib.hid hown
    have HB := Lib.hid hb
    by_cases hlt : k < n
    · have l1 : k < zs.length := by rw [HZ.out]; exact hlt
      obtain ⟨b1, o1, p0, rfl, x1, e0⟩ := (H1.out.below hb).at l1
      have X1 := Lib.hid x1
      have i0' : (0 : Int) ≤ (k : Int) := by omega
      have i1 : (k : Int) < (n : Int) := by omega
      have st := own_stored_is HO.out k p0
      rw [show p0 = zs[k] from X1.out.symm, fill_step_is l1 HZ.out] at st
      rw [show zs[k] = p0 from X1.out] at st
      have ST := Lib.hid st.1
      have B3 := Lib.hid (HB.out.grown st.2 HB.out.size (fun j hj => by simp at hj; omega))
      obtain ⟨u0, cu0⟩ : ∃ u, wr.cell? ⟨w.heap.size, k, none⟩ = some u := ⟨_, by rw [HO.out.cellAt k (by omega)]; exact List.getElem?_eq_getElem (by rw [HO.out.1]; omega)⟩
      have fr0 := HO.out.frozenAt k
      clear hown hb x1 st X1 l1
      go_wp2
      go_roundw
      case rel => exact ⟨k + 1, by omega, by go_num, ST.out, B3.out⟩
      case measure => simp [intOf]; omega
    · have hkn : k = n := by omega
      subst hkn
      have ho2 : wr.ownsRow w.heap.size 3 1 (.slice (some ⟨w.heap.size, 0, none⟩) k k) k (isCells zs) := by
        have h3 := HO.out
        rw [List.take_of_length_le (by rw [HZ.out]; omega), Nat.sub_self] at h3
        simpa using h3
      have HO2 := Lib.hid ho2
      clear ho2 hown hb
      go_wp2
      go_ret
      exact ⟨_, rfl, HO2.out, HB.out⟩

/-- The marks that the laws lay into a list of ints. -/
def isMarks (k n : Nat) : List Int := (List.range n).map fun i => ((k + i : Nat) : Int)

theorem isMarks_length (k n : Nat) : (isMarks k n).length = n := by simp [isMarks]

theorem isMarks_succ (k n : Nat) : isMarks k (n + 1) = isMarks k n ++ [((k + n : Nat) : Int)] := by
  unfold isMarks; rw [List.range_succ, List.map_append]; rfl

theorem isMarks_set {zs : List Int} {k i n : Nat} (hi : i < n) (hl : zs.length = n) : (isMarks k i ++ zs.drop i).set i ((k + i : Nat) : Int) = isMarks k (i + 1) ++ zs.drop (i + 1) := by
  have l1 := isMarks_length k i
  rw [List.set_append_right _ _ (by omega), l1, Nat.sub_self, List.drop_eq_getElem_cons (by omega), List.set_cons_zero, isMarks_succ]
  simp only [List.append_assoc, List.singleton_append]

set_option maxRecDepth 100000 in
theorem markIsS_any (n k0 B : Nat) (zs : List Int) (hz : zs.length = n) (v : Value) (w : World) (h : w.ownsRow B 3 1 v n (isCells zs)) (hn : n ≤ 4194304) (hk1 : k0 ≤ 41943040) :
    Calls Try.prog 97 #[v, .int .i64 (k0 : Int)] w fun e w' => e = .returned (.int .i64 ((k0 + n : Nat) : Int)) ∧ w'.ownsRow B 3 1 v n (isCells (isMarks k0 n)) ∧ w.grownBy w' v.ownBlock := by
  obtain ⟨A, c, rfl, f⟩ := own_form h
  have HZ := Lib.hid hz
  by_cases h0 : n = 0
  · subst h0
    have e : isCells zs = isCells (isMarks k0 0) := by
      obtain rfl := List.eq_nil_of_length_eq_zero hz
      rfl
    have H := Lib.hid (e ▸ h)
    clear h f hz e
    go_enter Try.func97, Try.ntmps97
    go_wp2
    go_loop [1, 5] (fun m i => m = .int .i64 (k0 : Int) ∧ i = .int .i64 0) (fun _ _ => 0)
    case atStart => exact ⟨rfl, rfl⟩
    case round =>
      obtain ⟨rfl, rfl⟩ := hrel
      go_wp2
      go_ret
      exact ⟨rfl, H.out, grown_refl _ _⟩
  · obtain ⟨g, rfl⟩ := f (by omega)
    have H0 := Lib.hid h
    clear h f hz
    go_enter Try.func97, Try.ntmps97
    go_wp2
    go_loopw [1, 5] (fun m i wr => ∃ k : Nat, k ≤ n ∧ m = .int .i64 ((k0 + k : Nat) : Int) ∧ i = .int .i64 k ∧ wr.ownsRow B 3 1 (.slice (some ⟨g, 0, none⟩) n c) n (isCells (isMarks k0 k ++ zs.drop k)) ∧ w.grownBy wr (some g)) (fun _ i _ => n - (intOf i).toNat)
    case atStart => exact ⟨0, Nat.zero_le _, rfl, rfl, by simpa [isMarks] using H0.out, grown_refl _ _⟩
    case round =>
      obtain ⟨k, hk, rfl, rfl, hown, hg⟩ := hrel
      have HO := Lib.hid hown
      have HG := Lib.hid hg
      by_cases hlt : k < n
      · have i0' : (0 : Int) ≤ (k : Int) := by omega
        have i1 : (k : Int) < (n : Int) := by omega
        obtain ⟨u0, cu0⟩ : ∃ u, wr.cell? ⟨g, k, none⟩ = some u := ⟨_, by rw [hown.cellAt k (by omega)]; exact List.getElem?_eq_getElem (by rw [hown.1]; omega)⟩
        have fr0 := hown.frozenAt k
        have st := own_stored_is HO.out k ((k0 : Int) + (k : Int))
        rw [show ((k0 : Int) + (k : Int)) = ((k0 + k : Nat) : Int) by simp, isMarks_set hlt HZ.out] at st
        have ST := Lib.hid st.1
        have G3 := Lib.hid (grown_trans HG.out st.2)
        clear hown hg st HO HG
        go_wp2
        go_roundw
        case rel => exact ⟨k + 1, by omega, by go_num, by go_num, ST.out, G3.out⟩
        case measure => simp [intOf]; omega
      · have hkn : k = n := by omega
        subst hkn
        have O := HO.out
        rw [List.drop_of_length_le (by have := HZ.out; omega), List.append_nil] at O
        have HO2 := Lib.hid O
        clear O hown hg
        go_wp2
        go_ret
        exact ⟨rfl, HO2.out, HG.out⟩

/-- An append of a list of ints to an owned one. -/
theorem wpList_append_is {w : World} {ops : Array Oper} {rest : List Oper} {o : Oper} {a : Act} {Q : Exit → Act → World → Prop} (hgd : o.guard = none) (s x : Operand)
    (ho : o.op = .call { callee := .builtin .append, args := #[s, x], argTypes := #[44, 44] })
    (base : Nat) (v : Value) (n : Nat) (zs : List Int) (hs : a.eval s = v) (hown : w.ownsRow base 3 1 v n (isCells zs))
    (A : Option Addr) (m c : Nat) (ys : List Int) (hx : a.eval x = .slice A m c) (hA : A = none → c = 0) (hl : ys.length = m) (hsts : Ints w A ys)
    (hb : n + m ≤ 4194304) (hbase : base ≤ w.heap.size)
    (h : ∀ v' w', w'.ownsRow base 3 1 v' (n + m) (isCells (zs ++ ys)) → w.grownBy w' v.ownBlock → wpList Try.prog ops Q rest (a.put o.dst v') w') : wpList Try.prog ops Q (o :: rest) a w := by
  obtain ⟨i0, hi, hz0, hz1, hz2⟩ := info_parts isinfo
  cases A with
  | none =>
    obtain rfl := is_none hsts hl
    obtain rfl := hA rfl
    obtain rfl := List.eq_nil_of_length_eq_zero hl
    exact wpList_append_own_none hgd s x 44 ho base 3 i0 1 Try.underlying44 hi v n (isCells zs) hs hown hx (h v w (by simpa using hown) (grown_refl _ _))
  | some ad =>
    refine wpList_append_own w hgd s x 44 ho base 3 i0 (.int .i64 0) 1 8 Try.underlying44 hi hz0 hz1 hz2 rfl (by decide) v n (isCells zs) hs hown ad m c (isCells ys) hx (by rw [isCells_length, hl]; omega) hsts.news (fun u hu => isCells_one hu) (by unfold maxLen; omega) (by omega) hbase ?_
    intro v' w' h2 h3 _
    rw [← isCells_append] at h2
    exact h v' w' h2 h3

theorem Row.is {w : World} {lo hi e n c : Nat} {A : Option Addr} {zs : List Int} (h : Row w lo hi e 1 A n c (isCells zs)) : Ints w A zs := by
  obtain ⟨A', c', he, _, hs⟩ := Ints.of_own h.own
  simp only [Value.slice.injEq, true_and] at he
  obtain ⟨rfl, rfl⟩ := he
  exact hs

theorem Row.isLen {w : World} {lo hi e n c : Nat} {A : Option Addr} {zs : List Int} (h : Row w lo hi e 1 A n c (isCells zs)) : zs.length = n := by
  have := h.own.1; rw [isCells_length] at this; omega

theorem toIsS_row (n : Nat) (zs : List Int) (hz : zs.length = n) (A : Option Addr) (c : Nat) (w : World) (h1 : Ints w A zs) (hn : n ≤ 1048576) :
    Calls Try.prog 114 #[.slice A n c] w fun e w' => ∃ A1 c1, e = .returned (.slice A1 n c1) ∧ Row w' w.heap.size w'.heap.size 3 1 A1 n c1 (isCells zs) ∧ Below w.heap.size w w' :=
  (toIsS_any n zs hz A c w h1 hn).mono fun _ _ ⟨v, he, ho, hb⟩ => by
    obtain ⟨A1, c1, rfl, hr⟩ := row_of ho
    exact ⟨A1, c1, he, hr, hb⟩

theorem markIsS_row {w : World} {lo hi n c : Nat} {A : Option Addr} {zs : List Int} (k0 : Nat) (h : Row w lo hi 3 1 A n c (isCells zs)) (hn : n ≤ 4194304) (hk1 : k0 ≤ 41943040) :
    Calls Try.prog 97 #[.slice A n c, .int .i64 (k0 : Int)] w fun e w' => e = .returned (.int .i64 ((k0 + n : Nat) : Int)) ∧ Row w' lo hi 3 1 A n c (isCells (isMarks k0 n)) ∧ Wrote w w' lo hi :=
  (markIsS_any n k0 lo zs h.isLen (.slice A n c) w h.own hn hk1).mono fun _ _ ⟨he, ho, hg⟩ => ⟨he, ⟨ho, h.lt⟩, _, hg, fun g hgg => ⟨own_ge h.own g hgg, h.lt g hgg⟩⟩

/-- WHAT THE WALK IS TOLD OF A LIST OF INTS THAT CAME IN. -/
structure IsInts (w : World) (a : Option Addr) (n : Nat) (zs : List Int) : Prop where
  len : zs.length = n
  max : n ≤ maxLen
  is : Ints w a zs
  wf : ∀ z ∈ zs, (Lit.int .i64 z).wf = true

theorem isInts_of_trod {H : Type} {enc : TypeId × Value → H} {W : World} {fuel len cap : Nat} {a : Option Addr} {x : DataW H × List MemPlace}
    (h : DataW.trod enc Try.prog W 0 (fun _ => true) true fuel 44 [.slice a len cap] = some x) : ∃ zs, IsInts W a len zs := by
  rcases open_ints Try.underlying44 Try.underlying3 (by kernel_rfl) h with ⟨hcs, _⟩ | ⟨ad, l, c, zs, hcs, _, hl, hm, hz, _, hcell, hwz⟩
  · simp only [List.cons.injEq, Value.slice.injEq, and_true] at hcs
    obtain ⟨rfl, rfl, rfl⟩ := hcs
    exact ⟨[], rfl, Nat.zero_le _, (fun h => absurd h (by simp)), fun z hz => by cases hz⟩
  · simp only [List.cons.injEq, Value.slice.injEq, and_true] at hcs
    obtain ⟨rfl, rfl, rfl⟩ := hcs
    simp only [if_true] at hz
    refine ⟨zs.take len, by simp; omega, by omega, fun hp => ?_, fun z hzm => hwz z (List.mem_of_mem_take hzm)⟩
    have hpl : 0 < len := by simp at hp; omega
    obtain ⟨b, off, spot⟩ := ad
    have hc0 := hcell 0 (by omega)
    have hspot : spot = none := by simpa [Addr.add] using World.cell?_spot hc0
    subst hspot
    have hadd : ∀ j, (Addr.add ⟨b, off, none⟩ j) = ⟨b, off + j, none⟩ := fun j => by unfold Addr.add; split <;> simp_all
    refine ⟨b, off, rfl, ?_, fun j hj => ?_⟩
    · rw [hadd 0] at hc0
      exact World.block_lt_of_cell? _ _ hc0
    · have hjl : j < zs.length := by simp at hj; omega
      have hcj := hcell j hjl
      rw [hadd j, List.getD_eq_getElem?_getD, List.getElem?_eq_getElem hjl] at hcj
      simpa using hcj

end Go.Proofs.Ytbbagpnjjjohpaa.hexes

