/-
  The reference's Minimal: the contract of spec.Minimal.
-/
import Derived.Test.YtiehpniogehkmaaSpecFront
import Derived.Test.YtiehpniogehkmaaCursor
import Derived.Test.YtiehpniogehkmaaMinList
import Derived.Test.YtiehpniogehkmaaTwo
import Derived.Test.YtiehpniogehkmaaRegM9
import Derived.Test.YtiehpniogehkmaaRegM12
import Derived.Test.YtiehpniogehkmaaRegM14
namespace Go.Proofs.Ytiehpniogehkmaa.hexes
open Go.RowKit

theorem keep3 {V w' : World} {a b : Addr} {x y : Value} (hB : Below V.heap.size V w') (h3 : V.cell? a = some x) (h4 : V.cell? b = some y) : w'.cell? a = some x ∧ w'.cell? b = some y ∧ Below V.heap.size V w' := ⟨below_keep hB h3, below_keep hB h4, hB⟩
theorem Blk.news {w : World} {g : Nat} {t : TypeId} {cs : Array Value} (h : Blk w g t cs) (j : Nat) (u : Value) (hu : cs.toList[j]? = some u) : w.cell? (Addr.add ⟨g, 0, none⟩ j) = some u := by
  rw [show (Addr.add ⟨g, 0, none⟩ j) = ⟨g, j, none⟩ by unfold Addr.add; split <;> simp_all, h.cell]
  simpa using hu
/-- An append to a row above V's blocks turns nothing below them. -/
theorem wp_append_st {P : Program} {V w : World} {o : Oper} {a : Act} {K : Act → World → Prop} {Q : Exit → Act → World → Prop} (s x : Operand) (t : TypeId)
    (ho : o.op = .call { callee := .builtin .append, args := #[s, x], argTypes := #[t, t] })
    (e : TypeId) (i : TypeInfo) (z : Value) (size bytes : Nat) (ht : P.underlying t = some (.slice e)) (hi : P.info? e = some i) (hz : i.zero = some z)
    (hsize : i.size = size) (hby : i.bytes = bytes) (hzs : z.cells.size = size) (hsz : 0 < size)
    (v : Value) (n : Nat) (xs : List Value) (hs : a.eval s = v) (hown : w.ownsRow V.heap.size e size v n xs)
    (ad : Addr) (m c : Nat) (news : List Value) (hx : a.eval x = .slice (some ad) m c) (hl : news.length = m * size) (hnews : ∀ j u, news[j]? = some u → w.cell? (ad.add j) = some u) (h1 : ∀ u ∈ news, u.oneCell' = true)
    (h63 : n + m ≤ maxLen) (hbytes : (n + m) * bytes ≤ 140737488355328) (hB : Below V.heap.size V w)
    (h : ∀ v' w', w'.ownsRow V.heap.size e size v' (n + m) (xs ++ news) → w.grownBy w' v.ownBlock → Below V.heap.size V w' → (v' = .slice none 0 0 ↔ v = .slice none 0 0 ∧ m = 0) → K (a.put o.dst v') w') : o.wp P a w K Q :=
  wp_append_own w s x t ho V.heap.size e i z size bytes ht hi hz hsize hby hzs hsz v n xs hs hown ad m c news hx hl hnews h1 h63 hbytes hB.size fun v' w' h2 h3 h4 => h v' w' h2 h3 (hB.grown h3 hB.size (own_ge hown)) h4
theorem own_cap {w : World} {base e g n cap size : Nat} {xs : List Value} (h : w.ownsRow base e size (.slice (some ⟨g, 0, none⟩) n cap) n xs) : n ≤ cap := by
  rcases h.2 with ⟨h', _⟩ | ⟨g', cap', cur, h', _, _, hnc, _⟩
  · simp at h'
  · simp only [Value.slice.injEq, Option.some.injEq, Addr.mk.injEq, and_true, true_and] at h'
    omega
theorem stCells_one {zs : List (Int × Int)} {u : Value} (h : u ∈ stCells zs) : u.oneCell' = true := by
  simp only [stCells, List.mem_flatMap, List.mem_cons, List.not_mem_nil, or_false] at h
  obtain ⟨z, _, rfl | rfl⟩ := h <;> rfl
theorem addr_add0 (g j : Nat) : (Addr.add ⟨g, 0, none⟩ j) = ⟨g, j, none⟩ := by unfold Addr.add; split <;> simp_all
/-- The first j stamps of an owned row, as what an append takes. -/
theorem own_news {w : World} {base e g n cap : Nat} {zs : List (Int × Int)} (h : w.ownsRow base e 2 (.slice (some ⟨g, 0, none⟩) n cap) n (stCells zs)) (j i : Nat) (u : Value) (hu : (stCells (zs.take j))[i]? = some u) : w.cell? (Addr.add ⟨g, 0, none⟩ i) = some u := by
  have hp : (stCells zs)[i]? = some u := by
    have e1 : stCells zs = stCells (zs.take j) ++ stCells (zs.drop j) := by rw [← stCells_append, List.take_append_drop]
    rw [e1, List.getElem?_append_left (List.getElem?_eq_some_iff.1 hu).1]
    exact hu
  rw [addr_add0, h.cellAt i (by rw [← h.1]; exact (List.getElem?_eq_some_iff.1 hp).1)]
  exact hp

theorem addr_add1 (g o j : Nat) : (Addr.add ⟨g, o, none⟩ j) = ⟨g, o + j, none⟩ := by unfold Addr.add; split <;> simp_all
/-- The stamps of an owned row from the j-th on, as what an append takes. -/
theorem own_news_drop {w : World} {base e g n cap : Nat} {zs : List (Int × Int)} (h : w.ownsRow base e 2 (.slice (some ⟨g, 0, none⟩) n cap) n (stCells zs)) (j i : Nat) (u : Value) (hu : (stCells (zs.drop j))[i]? = some u) : w.cell? (Addr.add ⟨g, j * 2, none⟩ i) = some u := by
  have hi := (List.getElem?_eq_some_iff.1 hu).1
  rw [stCells_length, List.length_drop] at hi
  have hp : (stCells zs)[j * 2 + i]? = some u := by
    have e1 : stCells zs = stCells (zs.take j) ++ stCells (zs.drop j) := by rw [← stCells_append, List.take_append_drop]
    have l1 : (stCells (zs.take j)).length = j * 2 := by rw [stCells_length, List.length_take]; omega
    rw [e1, List.getElem?_append_right (by omega), l1, show j * 2 + i - j * 2 = i by omega]
    exact hu
  rw [addr_add1, h.cellAt (j * 2 + i) (by rw [← h.1]; exact (List.getElem?_eq_some_iff.1 hp).1)]
  exact hp

/-- The j-th stamp of an owned row, cell by cell. -/
theorem own_at2 {w : World} {base e g n cap j : Nat} {zs : List (Int × Int)} (h : w.ownsRow base e 2 (.slice (some ⟨g, 0, none⟩) n cap) n (stCells zs)) (hj : j < zs.length) : ∃ r s, zs[j] = (r, s) ∧ w.cell? ⟨g, j * 2, none⟩ = some (.int .i64 r) ∧ w.cell? ⟨g, j * 2 + 1, none⟩ = some (.int .i64 s) := by
  have hl := h.1
  rw [stCells_length] at hl
  refine ⟨zs[j].1, zs[j].2, rfl, ?_, ?_⟩
  · rw [h.cellAt (j * 2) (by omega)]; exact (stCells_at zs j hj).1
  · rw [h.cellAt (j * 2 + 1) (by omega)]; exact (stCells_at zs j hj).2

set_option maxRecDepth 1000000 in
set_option maxHeartbeats 8000000 in
theorem specMin_any (n : Nat) (zs : List (Int × Int)) (hz : zs.length = n) (A : Option Addr) (c : Nat) (w : World) (h1 : Sts w A zs) (hn : n ≤ 4194304) :
    Calls Try.prog 57 #[.slice A n c] w fun e w' => ∃ v, e = .returned v ∧ w'.ownsRow w.heap.size 26 2 v (minL zs).length (stCells (minL zs)) ∧ Below w.heap.size w w' := by
  obtain ⟨i0, hi, hz0, hz1, hz2⟩ := info_parts stinfo
  have H1 := Lib.hid h1
  have HZ := Lib.hid hz
  clear h1 hz
  go_enter Try.func57, Try.ntmps57
  go_wp2
  go_loopw [3, 4] (fun v i wr => ∃ (k : Nat) (out : List (Int × Int)) (g c3 : Nat), k ≤ n ∧ i = .int .i64 k ∧ v = .slice (some ⟨g, 0, none⟩) out.length c3 ∧ out = (zs.take k).foldl (minStep zs) [] ∧ wr.ownsRow w.heap.size 26 2 (.slice (some ⟨g, 0, none⟩) out.length c3) out.length (stCells out) ∧ Below w.heap.size w wr) (fun _ i _ => n - (intOf i).toNat)
  case atStart => exact ⟨0, [], w.heap.size, 0, Nat.zero_le _, rfl, rfl, rfl, World.ownsRow_lit w #[] 0 (Nat.le_refl _) (by decide) rfl, (Below.refl _ _).alloc (Nat.le_refl _) _⟩
  case round =>
    obtain ⟨k, out, g, c3, hk, rfl, rfl, hout, hown, hb⟩ := hrel
    have HO := Lib.hid hown
    have HB := Lib.hid hb
    have HU := Lib.hid hout
    clear hown hb hout
    by_cases hlt : k < n
    · have l1 : k < zs.length := by rw [HZ.out]; exact hlt
      obtain ⟨b, off, p, q, rfl, x1, e1, e2⟩ := (H1.out.below HB.out).at l1
      have X1 := Lib.hid x1
      have E3 := Lib.hid e1
      have E4 := Lib.hid e2
      clear x1 e1 e2
      obtain ⟨w2, hw2⟩ : ∃ w2, w2 = wr := ⟨_, rfl⟩
      subst hw2
      go_wp2_with fail
      go_loopw [5, 6] (fun lv jv wx => ∃ j : Nat, j ≤ n ∧ jv = .int .i64 j ∧ lv = .bool ((zs.take j).all fun t => decide (t = (p, q)) || !leqSt t.1 t.2 p q) ∧ Below w2.heap.size w2 wx) (fun _ jv _ => n - (intOf jv).toNat)
      case atStart => exact ⟨0, Nat.zero_le _, rfl, rfl, Below.refl _ _⟩
      case round =>
        obtain ⟨j, hj, rfl, rfl, hbx⟩ := hrel
        by_cases hjn : j < n
        · have lj : j < zs.length := by rw [HZ.out]; exact hjn
          obtain ⟨b', off', r, s, hA, xj, e1, e2⟩ := ((H1.out.below HB.out).below hbx).at lj
          simp only [Option.some.injEq, Addr.mk.injEq, and_true] at hA
          obtain ⟨rfl, rfl⟩ := hA
          have e3 := below_keep hbx E3.out
          have e4 := below_keep hbx E4.out
          have j0 : (0 : Int) ≤ (j : Int) := by omega
          have j1 : (j : Int) < (n : Int) := by omega
          have k0 : (0 : Int) ≤ (k : Int) := by omega
          have k1 : (k : Int) < (n : Int) := by omega
          have HBX := Lib.hid hbx
          clear hbx
          cases hL : (zs.take j).all fun t => decide (t = (p, q)) || !leqSt t.1 t.2 p q with
          | false =>
            have hj2 : ((zs.take (j + 1)).all fun t => decide (t = (p, q)) || !leqSt t.1 t.2 p q) = false := by
              rw [List.take_succ_eq_append_getElem lj, List.all_append, hL]; rfl
            have HJ2 := Lib.hid hj2
            clear hj2 hL xj lj
            go_wp2_with fail
            refine wp_region_held_drew (S := Two b (off + j * 2) r s b (off + k * 2) p q) (by kernel_rfl) ?_ (fun hHeld => ?_)
            · skip
              exact (⟨e1, e2, e3, e4⟩ : Two b (off + j * 2) r s b (off + k * 2) p q wr).drew
            change wpAnyH _ _ opsM9 _ _ 25 (LM9 0) _ _
            refine tM9_0 (.bool false) (fun _ _ _ h => h) (Or.inl ⟨by rfl, fun W hSw => ?_⟩) hHeld ?_
            · skip
              unfold qM9_0
              go_simp
            try simp only [Act.put, List.setIfInBounds_toArray, List.set_cons_zero, List.set_cons_succ]
            refine tM9_1 (.bool false) (fun _ _ _ h => h) (Or.inl ⟨by rfl, fun W hSw => ?_⟩) hHeld ?_
            · skip
              unfold qM9_1
              go_simp
            try simp only [Act.put, List.setIfInBounds_toArray, List.set_cons_zero, List.set_cons_succ]
            refine tM9_2 undef (fun _ _ _ h => h) (Or.inr ⟨by rfl, rfl⟩) hHeld ?_
            try simp only [Act.put, List.setIfInBounds_toArray, List.set_cons_zero, List.set_cons_succ]
            refine tM9_3 undef (fun _ _ _ h => h) (Or.inr ⟨by rfl, rfl⟩) hHeld ?_
            try simp only [Act.put, List.setIfInBounds_toArray, List.set_cons_zero, List.set_cons_succ]
            refine tM9_4 undef (fun _ _ _ h => h) (Or.inr ⟨by rfl, rfl⟩) hHeld ?_
            try simp only [Act.put, List.setIfInBounds_toArray, List.set_cons_zero, List.set_cons_succ]
            refine tM9_5 undef (fun _ _ _ h => h) (Or.inr ⟨by rfl, rfl⟩) hHeld ?_
            try simp only [Act.put, List.setIfInBounds_toArray, List.set_cons_zero, List.set_cons_succ]
            refine tM9_6 undef (fun _ _ _ h => h) (Or.inr ⟨by rfl, rfl⟩) hHeld ?_
            try simp only [Act.put, List.setIfInBounds_toArray, List.set_cons_zero, List.set_cons_succ]
            refine tM9_7 undef (fun _ _ _ h => h) (Or.inr ⟨by rfl, rfl⟩) hHeld ?_
            try simp only [Act.put, List.setIfInBounds_toArray, List.set_cons_zero, List.set_cons_succ]
            refine tM9_8 undef (fun _ _ _ h => h) (Or.inr ⟨by rfl, rfl⟩) hHeld ?_
            try simp only [Act.put, List.setIfInBounds_toArray, List.set_cons_zero, List.set_cons_succ]
            refine tM9_9 undef (fun _ _ _ h => h) (Or.inr ⟨by rfl, rfl⟩) hHeld ?_
            try simp only [Act.put, List.setIfInBounds_toArray, List.set_cons_zero, List.set_cons_succ]
            refine tM9_10 undef (fun _ _ _ h => h) (Or.inr ⟨by rfl, rfl⟩) hHeld ?_
            try simp only [Act.put, List.setIfInBounds_toArray, List.set_cons_zero, List.set_cons_succ]
            refine tM9_11 undef (fun _ _ _ h => h) (Or.inr ⟨by rfl, rfl⟩) hHeld ?_
            try simp only [Act.put, List.setIfInBounds_toArray, List.set_cons_zero, List.set_cons_succ]
            refine tM9_12 undef (fun _ _ _ h => h) (Or.inr ⟨by rfl, rfl⟩) hHeld ?_
            try simp only [Act.put, List.setIfInBounds_toArray, List.set_cons_zero, List.set_cons_succ]
            refine tM9_13 undef (fun _ _ _ h => h) (Or.inr ⟨by rfl, rfl⟩) hHeld ?_
            try simp only [Act.put, List.setIfInBounds_toArray, List.set_cons_zero, List.set_cons_succ]
            refine tM9_14 undef (fun _ _ _ h => h) (Or.inr ⟨by rfl, rfl⟩) hHeld ?_
            try simp only [Act.put, List.setIfInBounds_toArray, List.set_cons_zero, List.set_cons_succ]
            refine tM9_15 undef (fun _ _ _ h => h) (Or.inr ⟨by rfl, rfl⟩) hHeld ?_
            try simp only [Act.put, List.setIfInBounds_toArray, List.set_cons_zero, List.set_cons_succ]
            refine tM9_16 undef (fun _ _ _ h => h) (Or.inr ⟨by rfl, rfl⟩) hHeld ?_
            try simp only [Act.put, List.setIfInBounds_toArray, List.set_cons_zero, List.set_cons_succ]
            refine tM9_17 undef (fun _ _ _ h => h) (Or.inr ⟨by rfl, rfl⟩) hHeld ?_
            try simp only [Act.put, List.setIfInBounds_toArray, List.set_cons_zero, List.set_cons_succ]
            refine tM9_18 undef (fun _ _ _ h => h) (Or.inr ⟨by rfl, rfl⟩) hHeld ?_
            try simp only [Act.put, List.setIfInBounds_toArray, List.set_cons_zero, List.set_cons_succ]
            refine tM9_19 undef (fun _ _ _ h => h) (Or.inr ⟨by rfl, rfl⟩) hHeld ?_
            try simp only [Act.put, List.setIfInBounds_toArray, List.set_cons_zero, List.set_cons_succ]
            refine tM9_20 undef (fun _ _ _ h => h) (Or.inr ⟨by rfl, rfl⟩) hHeld ?_
            try simp only [Act.put, List.setIfInBounds_toArray, List.set_cons_zero, List.set_cons_succ]
            refine tM9_21 undef (fun _ _ _ h => h) (Or.inr ⟨by rfl, rfl⟩) hHeld ?_
            try simp only [Act.put, List.setIfInBounds_toArray, List.set_cons_zero, List.set_cons_succ]
            refine tM9_22 undef (fun _ _ _ h => h) (Or.inr ⟨by rfl, rfl⟩) hHeld ?_
            try simp only [Act.put, List.setIfInBounds_toArray, List.set_cons_zero, List.set_cons_succ]
            refine tM9_23 (Value.bool false) (fun _ _ _ h => h) (Or.inl ⟨by rfl, fun W hSw => ?_⟩) hHeld ?_
            · skip
              unfold qM9_23
              go_simp
            try simp only [Act.put, List.setIfInBounds_toArray, List.set_cons_zero, List.set_cons_succ]
            refine tM9_24 (Value.bool false) (fun _ _ _ h => h) (Or.inl ⟨by rfl, fun W hSw => ?_⟩) hHeld ?_
            · skip
              unfold qM9_24
              go_simp
            try simp only [Act.put, List.setIfInBounds_toArray, List.set_cons_zero, List.set_cons_succ]
            refine wpAnyH_done (by kernel_rfl) ?_ _
            have BX := HBX.out.drew
            go_wp2
            go_roundw
            case rel => exact ⟨j + 1, by omega, by go_num, congrArg Value.bool HJ2.out.symm, BX⟩
            case measure => simp [intOf]; omega
          | true =>
            by_cases he : r = p ∧ s = q
            · obtain ⟨rfl, rfl⟩ := he
              have hj2 : ((zs.take (j + 1)).all fun t => decide (t = (r, s)) || !leqSt t.1 t.2 r s) = true := all_step lj hL (by rw [xj]; simp)
              have HJ2 := Lib.hid hj2
              clear hj2 hL xj lj
              go_wp2_with fail
              refine wp_region_held_drew (S := Two b (off + j * 2) r s b (off + k * 2) r s) (by kernel_rfl) ?_ (fun hHeld => ?_)
              · skip
                exact (⟨e1, e2, e3, e4⟩ : Two b (off + j * 2) r s b (off + k * 2) r s wr).drew
              change wpAnyH _ _ opsM9 _ _ 25 (LM9 0) _ _
              refine tM9_0 (.bool true) (fun _ _ _ h => h) (Or.inl ⟨by rfl, fun W hSw => ?_⟩) hHeld ?_
              · skip
                unfold qM9_0
                go_simp
              try simp only [Act.put, List.setIfInBounds_toArray, List.set_cons_zero, List.set_cons_succ]
              refine tM9_1 (.bool true) (fun _ _ _ h => h) (Or.inl ⟨by rfl, fun W hSw => ?_⟩) hHeld ?_
              · skip
                unfold qM9_1
                go_simp
              try simp only [Act.put, List.setIfInBounds_toArray, List.set_cons_zero, List.set_cons_succ]
              refine tM9_2 (.slice (some ⟨b, off, none⟩) n c) (fun _ _ _ h => h) (Or.inl ⟨by rfl, fun W hSw => ?_⟩) hHeld ?_
              · skip
                unfold qM9_2
                go_simp
              try simp only [Act.put, List.setIfInBounds_toArray, List.set_cons_zero, List.set_cons_succ]
              refine tM9_3 (.int .i64 (j : Int)) (fun _ _ _ h => h) (Or.inl ⟨by rfl, fun W hSw => ?_⟩) hHeld ?_
              · skip
                unfold qM9_3
                go_simp
              try simp only [Act.put, List.setIfInBounds_toArray, List.set_cons_zero, List.set_cons_succ]
              refine tM9_4 (.pointer (some ⟨b, off + j * 2, none⟩)) (fun _ _ _ h => h) (Or.inl ⟨by rfl, fun W hSw => ?_⟩) hHeld ?_
              · skip
                unfold qM9_4
                go_simp
              try simp only [Act.put, List.setIfInBounds_toArray, List.set_cons_zero, List.set_cons_succ]
              refine tM9_5 (.agg #[.int .i64 r, .int .i64 s]) (fun _ _ _ h => h) (Or.inl ⟨by rfl, fun W hSw => ?_⟩) hHeld ?_
              · skip
                unfold qM9_5
                obtain ⟨c0, c1, c2, c3⟩ := hSw
                go_simp
              try simp only [Act.put, List.setIfInBounds_toArray, List.set_cons_zero, List.set_cons_succ]
              refine tM9_6 (.slice (some ⟨b, off, none⟩) n c) (fun _ _ _ h => h) (Or.inl ⟨by rfl, fun W hSw => ?_⟩) hHeld ?_
              · skip
                unfold qM9_6
                go_simp
              try simp only [Act.put, List.setIfInBounds_toArray, List.set_cons_zero, List.set_cons_succ]
              refine tM9_7 (.int .i64 (k : Int)) (fun _ _ _ h => h) (Or.inl ⟨by rfl, fun W hSw => ?_⟩) hHeld ?_
              · skip
                unfold qM9_7
                go_simp
              try simp only [Act.put, List.setIfInBounds_toArray, List.set_cons_zero, List.set_cons_succ]
              refine tM9_8 (.pointer (some ⟨b, off + k * 2, none⟩)) (fun _ _ _ h => h) (Or.inl ⟨by rfl, fun W hSw => ?_⟩) hHeld ?_
              · skip
                unfold qM9_8
                go_simp
              try simp only [Act.put, List.setIfInBounds_toArray, List.set_cons_zero, List.set_cons_succ]
              refine tM9_9 (.agg #[.int .i64 r, .int .i64 s]) (fun _ _ _ h => h) (Or.inl ⟨by rfl, fun W hSw => ?_⟩) hHeld ?_
              · skip
                unfold qM9_9
                obtain ⟨c0, c1, c2, c3⟩ := hSw
                go_simp
              try simp only [Act.put, List.setIfInBounds_toArray, List.set_cons_zero, List.set_cons_succ]
              refine tM9_10 (.bool true) (fun _ _ _ h => h) (Or.inl ⟨by rfl, fun W hSw => ?_⟩) hHeld ?_
              · skip
                unfold qM9_10
                go_simp
              try simp only [Act.put, List.setIfInBounds_toArray, List.set_cons_zero, List.set_cons_succ]
              refine tM9_11 (.bool true) (fun _ _ _ h => h) (Or.inl ⟨by rfl, fun W hSw => ?_⟩) hHeld ?_
              · skip
                unfold qM9_11
                go_simp
              try simp only [Act.put, List.setIfInBounds_toArray, List.set_cons_zero, List.set_cons_succ]
              refine tM9_12 undef (fun _ _ _ h => h) (Or.inr ⟨by rfl, rfl⟩) hHeld ?_
              try simp only [Act.put, List.setIfInBounds_toArray, List.set_cons_zero, List.set_cons_succ]
              refine tM9_13 undef (fun _ _ _ h => h) (Or.inr ⟨by rfl, rfl⟩) hHeld ?_
              try simp only [Act.put, List.setIfInBounds_toArray, List.set_cons_zero, List.set_cons_succ]
              refine tM9_14 undef (fun _ _ _ h => h) (Or.inr ⟨by rfl, rfl⟩) hHeld ?_
              try simp only [Act.put, List.setIfInBounds_toArray, List.set_cons_zero, List.set_cons_succ]
              refine tM9_15 undef (fun _ _ _ h => h) (Or.inr ⟨by rfl, rfl⟩) hHeld ?_
              try simp only [Act.put, List.setIfInBounds_toArray, List.set_cons_zero, List.set_cons_succ]
              refine tM9_16 undef (fun _ _ _ h => h) (Or.inr ⟨by rfl, rfl⟩) hHeld ?_
              try simp only [Act.put, List.setIfInBounds_toArray, List.set_cons_zero, List.set_cons_succ]
              refine tM9_17 undef (fun _ _ _ h => h) (Or.inr ⟨by rfl, rfl⟩) hHeld ?_
              try simp only [Act.put, List.setIfInBounds_toArray, List.set_cons_zero, List.set_cons_succ]
              refine tM9_18 undef (fun _ _ _ h => h) (Or.inr ⟨by rfl, rfl⟩) hHeld ?_
              try simp only [Act.put, List.setIfInBounds_toArray, List.set_cons_zero, List.set_cons_succ]
              refine tM9_19 undef (fun _ _ _ h => h) (Or.inr ⟨by rfl, rfl⟩) hHeld ?_
              try simp only [Act.put, List.setIfInBounds_toArray, List.set_cons_zero, List.set_cons_succ]
              refine tM9_20 undef (fun _ _ _ h => h) (Or.inr ⟨by rfl, rfl⟩) hHeld ?_
              try simp only [Act.put, List.setIfInBounds_toArray, List.set_cons_zero, List.set_cons_succ]
              refine tM9_21 undef (fun _ _ _ h => h) (Or.inr ⟨by rfl, rfl⟩) hHeld ?_
              try simp only [Act.put, List.setIfInBounds_toArray, List.set_cons_zero, List.set_cons_succ]
              refine tM9_22 (Value.bool true) (fun _ _ _ h => h) (Or.inl ⟨by rfl, fun W hSw => ?_⟩) hHeld ?_
              · skip
                unfold qM9_22
                go_simp
              try simp only [Act.put, List.setIfInBounds_toArray, List.set_cons_zero, List.set_cons_succ]
              refine tM9_23 (Value.bool true) (fun _ _ _ h => h) (Or.inl ⟨by rfl, fun W hSw => ?_⟩) hHeld ?_
              · skip
                unfold qM9_23
                go_simp
              try simp only [Act.put, List.setIfInBounds_toArray, List.set_cons_zero, List.set_cons_succ]
              refine tM9_24 (Value.bool true) (fun _ _ _ h => h) (Or.inl ⟨by rfl, fun W hSw => ?_⟩) hHeld ?_
              · skip
                unfold qM9_24
                go_simp
              try simp only [Act.put, List.setIfInBounds_toArray, List.set_cons_zero, List.set_cons_succ]
              refine wpAnyH_done (by kernel_rfl) ?_ _
              have BX := HBX.out.drew
              go_wp2
              go_roundw
              case rel => exact ⟨j + 1, by omega, by go_num, congrArg Value.bool HJ2.out.symm, BX⟩
              case measure => simp [intOf]; omega
            · cases hq : leqSt r s p q with
              | true =>
                have hj2 : ((zs.take (j + 1)).all fun t => decide (t = (p, q)) || !leqSt t.1 t.2 p q) = false := by
                  rw [List.take_succ_eq_append_getElem lj, List.all_append]
                  simp [xj, hq, he]
                have HJ2 := Lib.hid hj2
                have E := Lib.hid (fun W => specLeq_is hq W)
                clear hj2 hL xj lj hq
                go_wp2_with fail
                refine wp_region_held_drew (S := Two b (off + j * 2) r s b (off + k * 2) p q) (by kernel_rfl) ?_ (fun hHeld => ?_)
                · skip
                  exact (⟨e1, e2, e3, e4⟩ : Two b (off + j * 2) r s b (off + k * 2) p q wr).drew
                change wpAnyH _ _ opsM9 _ _ 25 (LM9 0) _ _
                refine tM9_0 (.bool true) (fun _ _ _ h => h) (Or.inl ⟨by rfl, fun W hSw => ?_⟩) hHeld ?_
                · skip
                  unfold qM9_0
                  go_simp
                try simp only [Act.put, List.setIfInBounds_toArray, List.set_cons_zero, List.set_cons_succ]
                refine tM9_1 (.bool true) (fun _ _ _ h => h) (Or.inl ⟨by rfl, fun W hSw => ?_⟩) hHeld ?_
                · skip
                  unfold qM9_1
                  go_simp
                try simp only [Act.put, List.setIfInBounds_toArray, List.set_cons_zero, List.set_cons_succ]
                refine tM9_2 (.slice (some ⟨b, off, none⟩) n c) (fun _ _ _ h => h) (Or.inl ⟨by rfl, fun W hSw => ?_⟩) hHeld ?_
                · skip
                  unfold qM9_2
                  go_simp
                try simp only [Act.put, List.setIfInBounds_toArray, List.set_cons_zero, List.set_cons_succ]
                refine tM9_3 (.int .i64 (j : Int)) (fun _ _ _ h => h) (Or.inl ⟨by rfl, fun W hSw => ?_⟩) hHeld ?_
                · skip
                  unfold qM9_3
                  go_simp
                try simp only [Act.put, List.setIfInBounds_toArray, List.set_cons_zero, List.set_cons_succ]
                refine tM9_4 (.pointer (some ⟨b, off + j * 2, none⟩)) (fun _ _ _ h => h) (Or.inl ⟨by rfl, fun W hSw => ?_⟩) hHeld ?_
                · skip
                  unfold qM9_4
                  go_simp
                try simp only [Act.put, List.setIfInBounds_toArray, List.set_cons_zero, List.set_cons_succ]
                refine tM9_5 (.agg #[.int .i64 r, .int .i64 s]) (fun _ _ _ h => h) (Or.inl ⟨by rfl, fun W hSw => ?_⟩) hHeld ?_
                · skip
                  unfold qM9_5
                  obtain ⟨c0, c1, c2, c3⟩ := hSw
                  go_simp
                try simp only [Act.put, List.setIfInBounds_toArray, List.set_cons_zero, List.set_cons_succ]
                refine tM9_6 (.slice (some ⟨b, off, none⟩) n c) (fun _ _ _ h => h) (Or.inl ⟨by rfl, fun W hSw => ?_⟩) hHeld ?_
                · skip
                  unfold qM9_6
                  go_simp
                try simp only [Act.put, List.setIfInBounds_toArray, List.set_cons_zero, List.set_cons_succ]
                refine tM9_7 (.int .i64 (k : Int)) (fun _ _ _ h => h) (Or.inl ⟨by rfl, fun W hSw => ?_⟩) hHeld ?_
                · skip
                  unfold qM9_7
                  go_simp
                try simp only [Act.put, List.setIfInBounds_toArray, List.set_cons_zero, List.set_cons_succ]
                refine tM9_8 (.pointer (some ⟨b, off + k * 2, none⟩)) (fun _ _ _ h => h) (Or.inl ⟨by rfl, fun W hSw => ?_⟩) hHeld ?_
                · skip
                  unfold qM9_8
                  go_simp
                try simp only [Act.put, List.setIfInBounds_toArray, List.set_cons_zero, List.set_cons_succ]
                refine tM9_9 (.agg #[.int .i64 p, .int .i64 q]) (fun _ _ _ h => h) (Or.inl ⟨by rfl, fun W hSw => ?_⟩) hHeld ?_
                · skip
                  unfold qM9_9
                  obtain ⟨c0, c1, c2, c3⟩ := hSw
                  go_simp
                try simp only [Act.put, List.setIfInBounds_toArray, List.set_cons_zero, List.set_cons_succ]
                refine tM9_10 (.bool false) (fun _ _ _ h => h) (Or.inl ⟨by rfl, fun W hSw => ?_⟩) hHeld ?_
                · skip
                  unfold qM9_10
                  go_simp
                  exact fun h1 h2 => he ⟨h1, h2⟩
                try simp only [Act.put, List.setIfInBounds_toArray, List.set_cons_zero, List.set_cons_succ]
                refine tM9_11 (.bool false) (fun _ _ _ h => h) (Or.inl ⟨by rfl, fun W hSw => ?_⟩) hHeld ?_
                · skip
                  unfold qM9_11
                  go_simp
                try simp only [Act.put, List.setIfInBounds_toArray, List.set_cons_zero, List.set_cons_succ]
                refine tM9_12 (.slice (some ⟨b, off, none⟩) n c) (fun _ _ _ h => h) (Or.inl ⟨by rfl, fun W hSw => ?_⟩) hHeld ?_
                · skip
                  unfold qM9_12
                  go_simp
                try simp only [Act.put, List.setIfInBounds_toArray, List.set_cons_zero, List.set_cons_succ]
                refine tM9_13 (.int .i64 (j : Int)) (fun _ _ _ h => h) (Or.inl ⟨by rfl, fun W hSw => ?_⟩) hHeld ?_
                · skip
                  unfold qM9_13
                  go_simp
                try simp only [Act.put, List.setIfInBounds_toArray, List.set_cons_zero, List.set_cons_succ]
                refine tM9_14 (.pointer (some ⟨b, off + j * 2, none⟩)) (fun _ _ _ h => h) (Or.inl ⟨by rfl, fun W hSw => ?_⟩) hHeld ?_
                · skip
                  unfold qM9_14
                  go_simp
                try simp only [Act.put, List.setIfInBounds_toArray, List.set_cons_zero, List.set_cons_succ]
                refine tM9_15 (.agg #[.int .i64 r, .int .i64 s]) (fun _ _ _ h => h) (Or.inl ⟨by rfl, fun W hSw => ?_⟩) hHeld ?_
                · skip
                  unfold qM9_15
                  obtain ⟨c0, c1, c2, c3⟩ := hSw
                  go_simp
                try simp only [Act.put, List.setIfInBounds_toArray, List.set_cons_zero, List.set_cons_succ]
                refine tM9_16 (.slice (some ⟨b, off, none⟩) n c) (fun _ _ _ h => h) (Or.inl ⟨by rfl, fun W hSw => ?_⟩) hHeld ?_
                · skip
                  unfold qM9_16
                  go_simp
                try simp only [Act.put, List.setIfInBounds_toArray, List.set_cons_zero, List.set_cons_succ]
                refine tM9_17 (.int .i64 (k : Int)) (fun _ _ _ h => h) (Or.inl ⟨by rfl, fun W hSw => ?_⟩) hHeld ?_
                · skip
                  unfold qM9_17
                  go_simp
                try simp only [Act.put, List.setIfInBounds_toArray, List.set_cons_zero, List.set_cons_succ]
                refine tM9_18 (.pointer (some ⟨b, off + k * 2, none⟩)) (fun _ _ _ h => h) (Or.inl ⟨by rfl, fun W hSw => ?_⟩) hHeld ?_
                · skip
                  unfold qM9_18
                  go_simp
                try simp only [Act.put, List.setIfInBounds_toArray, List.set_cons_zero, List.set_cons_succ]
                refine tM9_19 (.agg #[.int .i64 p, .int .i64 q]) (fun _ _ _ h => h) (Or.inl ⟨by rfl, fun W hSw => ?_⟩) hHeld ?_
                · skip
                  unfold qM9_19
                  obtain ⟨c0, c1, c2, c3⟩ := hSw
                  go_simp
                try simp only [Act.put, List.setIfInBounds_toArray, List.set_cons_zero, List.set_cons_succ]
                refine cM9_20 (fun K hK => ?_)
                rw [if_pos (by rfl)]
                unfold qM9_20
                go_simp
                with_reducible refine (E.out _).mono ?_
                rintro e w5 ⟨rfl, hbd⟩
                dsimp only
                refine Shut.out hK _ _ ?_ (fun hHeld => ?_)
                · skip
                  exact hHeld.below hbd
                clear hK K
                try simp only [Act.put, List.setIfInBounds_toArray, List.set_cons_zero, List.set_cons_succ]
                refine tM9_21 (.bool false) (fun _ _ _ h => h) (Or.inl ⟨by rfl, fun W hSw => ?_⟩) hHeld ?_
                · skip
                  unfold qM9_21
                  go_simp
                try simp only [Act.put, List.setIfInBounds_toArray, List.set_cons_zero, List.set_cons_succ]
                refine tM9_22 (.bool false) (fun _ _ _ h => h) (Or.inl ⟨by rfl, fun W hSw => ?_⟩) hHeld ?_
                · skip
                  unfold qM9_22
                  go_simp
                try simp only [Act.put, List.setIfInBounds_toArray, List.set_cons_zero, List.set_cons_succ]
                refine tM9_23 (.bool false) (fun _ _ _ h => h) (Or.inl ⟨by rfl, fun W hSw => ?_⟩) hHeld ?_
                · skip
                  unfold qM9_23
                  go_simp
                try simp only [Act.put, List.setIfInBounds_toArray, List.set_cons_zero, List.set_cons_succ]
                refine tM9_24 (.bool false) (fun _ _ _ h => h) (Or.inl ⟨by rfl, fun W hSw => ?_⟩) hHeld ?_
                · skip
                  unfold qM9_24
                  go_simp
                try simp only [Act.put, List.setIfInBounds_toArray, List.set_cons_zero, List.set_cons_succ]
                refine wpAnyH_done (by kernel_rfl) ?_ _
                have BX := below_chain HBX.out.drew hbd
                clear hbd
                go_wp2
                go_roundw
                case rel => exact ⟨j + 1, by omega, by go_num, congrArg Value.bool HJ2.out.symm, BX⟩
                case measure => simp [intOf]; omega
              | false =>
                have hj2 : ((zs.take (j + 1)).all fun t => decide (t = (p, q)) || !leqSt t.1 t.2 p q) = true := all_step lj hL (by rw [xj]; simp [hq])
                have HJ2 := Lib.hid hj2
                have E := Lib.hid (fun W => specLeq_is hq W)
                clear hj2 hL xj lj hq
                go_wp2_with fail
                refine wp_region_held_drew (S := Two b (off + j * 2) r s b (off + k * 2) p q) (by kernel_rfl) ?_ (fun hHeld => ?_)
                · skip
                  exact (⟨e1, e2, e3, e4⟩ : Two b (off + j * 2) r s b (off + k * 2) p q wr).drew
                change wpAnyH _ _ opsM9 _ _ 25 (LM9 0) _ _
                refine tM9_0 (.bool true) (fun _ _ _ h => h) (Or.inl ⟨by rfl, fun W hSw => ?_⟩) hHeld ?_
                · skip
                  unfold qM9_0
                  go_simp
                try simp only [Act.put, List.setIfInBounds_toArray, List.set_cons_zero, List.set_cons_succ]
                refine tM9_1 (.bool true) (fun _ _ _ h => h) (Or.inl ⟨by rfl, fun W hSw => ?_⟩) hHeld ?_
                · skip
                  unfold qM9_1
                  go_simp
                try simp only [Act.put, List.setIfInBounds_toArray, List.set_cons_zero, List.set_cons_succ]
                refine tM9_2 (.slice (some ⟨b, off, none⟩) n c) (fun _ _ _ h => h) (Or.inl ⟨by rfl, fun W hSw => ?_⟩) hHeld ?_
                · skip
                  unfold qM9_2
                  go_simp
                try simp only [Act.put, List.setIfInBounds_toArray, List.set_cons_zero, List.set_cons_succ]
                refine tM9_3 (.int .i64 (j : Int)) (fun _ _ _ h => h) (Or.inl ⟨by rfl, fun W hSw => ?_⟩) hHeld ?_
                · skip
                  unfold qM9_3
                  go_simp
                try simp only [Act.put, List.setIfInBounds_toArray, List.set_cons_zero, List.set_cons_succ]
                refine tM9_4 (.pointer (some ⟨b, off + j * 2, none⟩)) (fun _ _ _ h => h) (Or.inl ⟨by rfl, fun W hSw => ?_⟩) hHeld ?_
                · skip
                  unfold qM9_4
                  go_simp
                try simp only [Act.put, List.setIfInBounds_toArray, List.set_cons_zero, List.set_cons_succ]
                refine tM9_5 (.agg #[.int .i64 r, .int .i64 s]) (fun _ _ _ h => h) (Or.inl ⟨by rfl, fun W hSw => ?_⟩) hHeld ?_
                · skip
                  unfold qM9_5
                  obtain ⟨c0, c1, c2, c3⟩ := hSw
                  go_simp
                try simp only [Act.put, List.setIfInBounds_toArray, List.set_cons_zero, List.set_cons_succ]
                refine tM9_6 (.slice (some ⟨b, off, none⟩) n c) (fun _ _ _ h => h) (Or.inl ⟨by rfl, fun W hSw => ?_⟩) hHeld ?_
                · skip
                  unfold qM9_6
                  go_simp
                try simp only [Act.put, List.setIfInBounds_toArray, List.set_cons_zero, List.set_cons_succ]
                refine tM9_7 (.int .i64 (k : Int)) (fun _ _ _ h => h) (Or.inl ⟨by rfl, fun W hSw => ?_⟩) hHeld ?_
                · skip
                  unfold qM9_7
                  go_simp
                try simp only [Act.put, List.setIfInBounds_toArray, List.set_cons_zero, List.set_cons_succ]
                refine tM9_8 (.pointer (some ⟨b, off + k * 2, none⟩)) (fun _ _ _ h => h) (Or.inl ⟨by rfl, fun W hSw => ?_⟩) hHeld ?_
                · skip
                  unfold qM9_8
                  go_simp
                try simp only [Act.put, List.setIfInBounds_toArray, List.set_cons_zero, List.set_cons_succ]
                refine tM9_9 (.agg #[.int .i64 p, .int .i64 q]) (fun _ _ _ h => h) (Or.inl ⟨by rfl, fun W hSw => ?_⟩) hHeld ?_
                · skip
                  unfold qM9_9
                  obtain ⟨c0, c1, c2, c3⟩ := hSw
                  go_simp
                try simp only [Act.put, List.setIfInBounds_toArray, List.set_cons_zero, List.set_cons_succ]
                refine tM9_10 (.bool false) (fun _ _ _ h => h) (Or.inl ⟨by rfl, fun W hSw => ?_⟩) hHeld ?_
                · skip
                  unfold qM9_10
                  go_simp
                  exact fun h1 h2 => he ⟨h1, h2⟩
                try simp only [Act.put, List.setIfInBounds_toArray, List.set_cons_zero, List.set_cons_succ]
                refine tM9_11 (.bool false) (fun _ _ _ h => h) (Or.inl ⟨by rfl, fun W hSw => ?_⟩) hHeld ?_
                · skip
                  unfold qM9_11
                  go_simp
                try simp only [Act.put, List.setIfInBounds_toArray, List.set_cons_zero, List.set_cons_succ]
                refine tM9_12 (.slice (some ⟨b, off, none⟩) n c) (fun _ _ _ h => h) (Or.inl ⟨by rfl, fun W hSw => ?_⟩) hHeld ?_
                · skip
                  unfold qM9_12
                  go_simp
                try simp only [Act.put, List.setIfInBounds_toArray, List.set_cons_zero, List.set_cons_succ]
                refine tM9_13 (.int .i64 (j : Int)) (fun _ _ _ h => h) (Or.inl ⟨by rfl, fun W hSw => ?_⟩) hHeld ?_
                · skip
                  unfold qM9_13
                  go_simp
                try simp only [Act.put, List.setIfInBounds_toArray, List.set_cons_zero, List.set_cons_succ]
                refine tM9_14 (.pointer (some ⟨b, off + j * 2, none⟩)) (fun _ _ _ h => h) (Or.inl ⟨by rfl, fun W hSw => ?_⟩) hHeld ?_
                · skip
                  unfold qM9_14
                  go_simp
                try simp only [Act.put, List.setIfInBounds_toArray, List.set_cons_zero, List.set_cons_succ]
                refine tM9_15 (.agg #[.int .i64 r, .int .i64 s]) (fun _ _ _ h => h) (Or.inl ⟨by rfl, fun W hSw => ?_⟩) hHeld ?_
                · skip
                  unfold qM9_15
                  obtain ⟨c0, c1, c2, c3⟩ := hSw
                  go_simp
                try simp only [Act.put, List.setIfInBounds_toArray, List.set_cons_zero, List.set_cons_succ]
                refine tM9_16 (.slice (some ⟨b, off, none⟩) n c) (fun _ _ _ h => h) (Or.inl ⟨by rfl, fun W hSw => ?_⟩) hHeld ?_
                · skip
                  unfold qM9_16
                  go_simp
                try simp only [Act.put, List.setIfInBounds_toArray, List.set_cons_zero, List.set_cons_succ]
                refine tM9_17 (.int .i64 (k : Int)) (fun _ _ _ h => h) (Or.inl ⟨by rfl, fun W hSw => ?_⟩) hHeld ?_
                · skip
                  unfold qM9_17
                  go_simp
                try simp only [Act.put, List.setIfInBounds_toArray, List.set_cons_zero, List.set_cons_succ]
                refine tM9_18 (.pointer (some ⟨b, off + k * 2, none⟩)) (fun _ _ _ h => h) (Or.inl ⟨by rfl, fun W hSw => ?_⟩) hHeld ?_
                · skip
                  unfold qM9_18
                  go_simp
                try simp only [Act.put, List.setIfInBounds_toArray, List.set_cons_zero, List.set_cons_succ]
                refine tM9_19 (.agg #[.int .i64 p, .int .i64 q]) (fun _ _ _ h => h) (Or.inl ⟨by rfl, fun W hSw => ?_⟩) hHeld ?_
                · skip
                  unfold qM9_19
                  obtain ⟨c0, c1, c2, c3⟩ := hSw
                  go_simp
                try simp only [Act.put, List.setIfInBounds_toArray, List.set_cons_zero, List.set_cons_succ]
                refine cM9_20 (fun K hK => ?_)
                rw [if_pos (by rfl)]
                unfold qM9_20
                go_simp
                with_reducible refine (E.out _).mono ?_
                rintro e w5 ⟨rfl, hbd⟩
                dsimp only
                refine Shut.out hK _ _ ?_ (fun hHeld => ?_)
                · skip
                  exact hHeld.below hbd
                clear hK K
                try simp only [Act.put, List.setIfInBounds_toArray, List.set_cons_zero, List.set_cons_succ]
                refine tM9_21 (.bool true) (fun _ _ _ h => h) (Or.inl ⟨by rfl, fun W hSw => ?_⟩) hHeld ?_
                · skip
                  unfold qM9_21
                  go_simp
                try simp only [Act.put, List.setIfInBounds_toArray, List.set_cons_zero, List.set_cons_succ]
                refine tM9_22 (.bool true) (fun _ _ _ h => h) (Or.inl ⟨by rfl, fun W hSw => ?_⟩) hHeld ?_
                · skip
                  unfold qM9_22
                  go_simp
                try simp only [Act.put, List.setIfInBounds_toArray, List.set_cons_zero, List.set_cons_succ]
                refine tM9_23 (.bool true) (fun _ _ _ h => h) (Or.inl ⟨by rfl, fun W hSw => ?_⟩) hHeld ?_
                · skip
                  unfold qM9_23
                  go_simp
                try simp only [Act.put, List.setIfInBounds_toArray, List.set_cons_zero, List.set_cons_succ]
                refine tM9_24 (.bool true) (fun _ _ _ h => h) (Or.inl ⟨by rfl, fun W hSw => ?_⟩) hHeld ?_
                · skip
                  unfold qM9_24
                  go_simp
                try simp only [Act.put, List.setIfInBounds_toArray, List.set_cons_zero, List.set_cons_succ]
                refine wpAnyH_done (by kernel_rfl) ?_ _
                have BX := below_chain HBX.out.drew hbd
                clear hbd
                go_wp2
                go_roundw
                case rel => exact ⟨j + 1, by omega, by go_num, congrArg Value.bool HJ2.out.symm, BX⟩
                case measure => simp [intOf]; omega
        · have hall : ((zs.take j).all fun t => decide (t = (p, q)) || !leqSt t.1 t.2 p q) = leastB zs (p, q) := by
            rw [List.take_of_length_le (by rw [HZ.out]; omega)]; rfl
          rw [hall]
          have HBX := Lib.hid hbx
          clear hall hbx
          cases hL : leastB zs (p, q) with
          | false =>
            have hst : out = (zs.take (k + 1)).foldl (minStep zs) [] := by
              rw [fold_step l1, ← HU.out, X1.out]
              simp [minStep, hL]
            have HST := Lib.hid hst
            clear hst hL
            go_wp2_with fail
            go_roundw
            case rel => exact ⟨k + 1, out, g, c3, by omega, by go_num, rfl, HST.out, own_below HO.out HBX.out, below_chain HB.out HBX.out⟩
            case measure => simp [intOf]; omega
          | true =>
            have B3 := Lib.hid (below_chain HB.out HBX.out)
            have hown3 := own_below HO.out HBX.out
            have hol : out.length ≤ k := by
              have := fold_length zs (zs.take k) []
              rw [← HU.out] at this
              simp only [List.length_nil, List.length_take] at this
              omega
            have f3 := below_keep HBX.out E3.out
            have f4 := below_keep HBX.out E4.out
            have O3 := Lib.hid hown3
            have F3 := Lib.hid f3
            have F4 := Lib.hid f4
            clear hown3 f3 f4 HBX HO HB E3 E4
            obtain ⟨w3, hw3⟩ : ∃ w3, w3 = wr := ⟨_, rfl⟩
            subst hw3
            go_wp2_with fail
            go_loopw [7] (fun av wx => ∃ j : Nat, j ≤ out.length ∧ av = .int .i64 j ∧ (∀ i, (h : i < out.length) → i < j → ltS out[i] (p, q)) ∧ Below w3.heap.size w3 wx) (fun av _ => out.length - (intOf av).toNat)
            case atStart => exact ⟨0, Nat.zero_le _, rfl, (fun i h hi => absurd hi (by omega)), Below.refl _ _⟩
            case round =>
              obtain ⟨j, hj, rfl, hpre, hbx⟩ := hrel
              have HP := Lib.hid hpre
              have HBX := Lib.hid hbx
              clear hpre hbx
              have e3 := below_keep HBX.out F3.out
              have e4 := below_keep HBX.out F4.out
              have j0 : (0 : Int) ≤ (j : Int) := by omega
              have k0 : (0 : Int) ≤ (k : Int) := by omega
              have k1 : (k : Int) < (n : Int) := by omega
              by_cases hjl : j < out.length
              · obtain ⟨r, s, xj, e1, e2⟩ := own_at2 (own_below O3.out HBX.out) hjl
                have j1 : (j : Int) < (out.length : Int) := by omega
                have hd : decide ((j : Int) < (out.length : Int)) = true := by simp; omega
                by_cases ho : ltS (r, s) (p, q)
                · have hord : decide (ordSt r s p q < 0) = true := by simpa using (ord_lt (r, s) (p, q)).2 ho
                  have hpre2 : ∀ i, (h : i < out.length) → i < j + 1 → ltS out[i] (p, q) := fun i h hi => by
                    by_cases hij : i < j
                    · exact HP.out i h hij
                    · obtain rfl : i = j := by omega
                      rw [xj]; exact ho
                  have HP2 := Lib.hid hpre2
                  have E := Lib.hid (fun W => specOrder_any r s p q W)
                  clear hpre2 xj ho HP
                  go_wp2_with fail
                  refine wp_region_held_drew (S := Two g (j * 2) r s b (off + k * 2) p q) (by kernel_rfl) ?_ (fun hHeld => ?_)
                  · skip
                    exact (⟨e1, e2, e3, e4⟩ : Two g (j * 2) r s b (off + k * 2) p q wr).drew
                  change wpAnyH _ _ opsM12 _ _ 16 (LM12 0) _ _
                  refine tM12_0 (.int .i64 (j : Int)) (fun _ _ _ h => h) (Or.inl ⟨by rfl, fun W hSw => ?_⟩) hHeld ?_
                  · skip
                    unfold qM12_0
                    go_simp
                  try simp only [Act.put, List.setIfInBounds_toArray, List.set_cons_zero, List.set_cons_succ]
                  refine tM12_1 (.slice (some ⟨g, 0, none⟩) out.length c3) (fun _ _ _ h => h) (Or.inl ⟨by rfl, fun W hSw => ?_⟩) hHeld ?_
                  · skip
                    unfold qM12_1
                    go_simp
                  try simp only [Act.put, List.setIfInBounds_toArray, List.set_cons_zero, List.set_cons_succ]
                  refine tM12_2 (.int .i64 (out.length : Int)) (fun _ _ _ h => h) (Or.inl ⟨by rfl, fun W hSw => ?_⟩) hHeld ?_
                  · skip
                    unfold qM12_2
                    go_simp
                  try simp only [Act.put, List.setIfInBounds_toArray, List.set_cons_zero, List.set_cons_succ]
                  refine tM12_3 (.bool true) (fun _ _ _ h => h) (Or.inl ⟨by rfl, fun W hSw => ?_⟩) hHeld ?_
                  · skip
                    unfold qM12_3
                    go_simp
                  try simp only [Act.put, List.setIfInBounds_toArray, List.set_cons_zero, List.set_cons_succ]
                  refine tM12_4 (.bool true) (fun _ _ _ h => h) (Or.inl ⟨by rfl, fun W hSw => ?_⟩) hHeld ?_
                  · skip
                    unfold qM12_4
                    go_simp
                  try simp only [Act.put, List.setIfInBounds_toArray, List.set_cons_zero, List.set_cons_succ]
                  refine tM12_5 (.slice (some ⟨g, 0, none⟩) out.length c3) (fun _ _ _ h => h) (Or.inl ⟨by rfl, fun W hSw => ?_⟩) hHeld ?_
                  · skip
                    unfold qM12_5
                    go_simp
                  try simp only [Act.put, List.setIfInBounds_toArray, List.set_cons_zero, List.set_cons_succ]
                  refine tM12_6 (.int .i64 (j : Int)) (fun _ _ _ h => h) (Or.inl ⟨by rfl, fun W hSw => ?_⟩) hHeld ?_
                  · skip
                    unfold qM12_6
                    go_simp
                  try simp only [Act.put, List.setIfInBounds_toArray, List.set_cons_zero, List.set_cons_succ]
                  refine tM12_7 (.pointer (some ⟨g, j * 2, none⟩)) (fun _ _ _ h => h) (Or.inl ⟨by rfl, fun W hSw => ?_⟩) hHeld ?_
                  · skip
                    unfold qM12_7
                    go_simp
                  try simp only [Act.put, List.setIfInBounds_toArray, List.set_cons_zero, List.set_cons_succ]
                  refine tM12_8 (.agg #[.int .i64 r, .int .i64 s]) (fun _ _ _ h => h) (Or.inl ⟨by rfl, fun W hSw => ?_⟩) hHeld ?_
                  · skip
                    unfold qM12_8
                    obtain ⟨c0, c1, c2, c3⟩ := hSw
                    go_simp
                  try simp only [Act.put, List.setIfInBounds_toArray, List.set_cons_zero, List.set_cons_succ]
                  refine tM12_9 (.slice (some ⟨b, off, none⟩) n c) (fun _ _ _ h => h) (Or.inl ⟨by rfl, fun W hSw => ?_⟩) hHeld ?_
                  · skip
                    unfold qM12_9
                    go_simp
                  try simp only [Act.put, List.setIfInBounds_toArray, List.set_cons_zero, List.set_cons_succ]
                  refine tM12_10 (.int .i64 (k : Int)) (fun _ _ _ h => h) (Or.inl ⟨by rfl, fun W hSw => ?_⟩) hHeld ?_
                  · skip
                    unfold qM12_10
                    go_simp
                  try simp only [Act.put, List.setIfInBounds_toArray, List.set_cons_zero, List.set_cons_succ]
                  refine tM12_11 (.pointer (some ⟨b, off + k * 2, none⟩)) (fun _ _ _ h => h) (Or.inl ⟨by rfl, fun W hSw => ?_⟩) hHeld ?_
                  · skip
                    unfold qM12_11
                    go_simp
                  try simp only [Act.put, List.setIfInBounds_toArray, List.set_cons_zero, List.set_cons_succ]
                  refine tM12_12 (.agg #[.int .i64 p, .int .i64 q]) (fun _ _ _ h => h) (Or.inl ⟨by rfl, fun W hSw => ?_⟩) hHeld ?_
                  · skip
                    unfold qM12_12
                    obtain ⟨c0, c1, c2, c3⟩ := hSw
                    go_simp
                  try simp only [Act.put, List.setIfInBounds_toArray, List.set_cons_zero, List.set_cons_succ]
                  refine cM12_13 (fun K hK => ?_)
                  rw [if_pos (by rfl)]
                  unfold qM12_13
                  go_simp
                  with_reducible refine (E.out _).mono ?_
                  rintro e w5 ⟨rfl, hbd⟩
                  dsimp only
                  refine Shut.out hK _ _ ?_ (fun hHeld => ?_)
                  · skip
                    exact hHeld.below hbd
                  clear hK K
                  try simp only [Act.put, List.setIfInBounds_toArray, List.set_cons_zero, List.set_cons_succ]
                  refine tM12_14 (.bool true) (fun _ _ _ h => h) (Or.inl ⟨by rfl, fun W hSw => ?_⟩) hHeld ?_
                  · skip
                    unfold qM12_14
                    go_simp
                  try simp only [Act.put, List.setIfInBounds_toArray, List.set_cons_zero, List.set_cons_succ]
                  refine tM12_15 (.bool true) (fun _ _ _ h => h) (Or.inl ⟨by rfl, fun W hSw => ?_⟩) hHeld ?_
                  · skip
                    unfold qM12_15
                    go_simp
                  try simp only [Act.put, List.setIfInBounds_toArray, List.set_cons_zero, List.set_cons_succ]
                  refine wpAnyH_done (by kernel_rfl) ?_ _
                  have BX := below_chain HBX.out.drew hbd
                  clear hbd
                  go_wp2
                  go_roundw
                  case rel => exact ⟨j + 1, by omega, by go_num, HP2.out, BX⟩
                  case measure => simp [intOf]; omega
                · by_cases he : r = p ∧ s = q
                  · obtain ⟨rfl, rfl⟩ := he
                    have hst : out = (zs.take (k + 1)).foldl (minStep zs) [] := by
                      rw [fold_step l1, ← HU.out, X1.out]
                      simp only [minStep, hL, if_true]
                      rw [insL_at (r, s) out j (by omega) HP.out (fun h => by rw [xj]; exact ho), if_pos (by rw [List.getElem?_eq_getElem hjl, xj])]
                    have HST := Lib.hid hst
                    have hord : decide (ordSt r s r s < 0) = false := by simp [ordSt_self]
                    have E := Lib.hid (fun W => specOrder_any r s r s W)
                    clear hst xj ho HP hL
                    go_wp2_with fail
                    refine wp_region_held_drew (S := Two g (j * 2) r s b (off + k * 2) r s) (by kernel_rfl) ?_ (fun hHeld => ?_)
                    · skip
                      exact (⟨e1, e2, e3, e4⟩ : Two g (j * 2) r s b (off + k * 2) r s wr).drew
                    change wpAnyH _ _ opsM12 _ _ 16 (LM12 0) _ _
                    refine tM12_0 (.int .i64 (j : Int)) (fun _ _ _ h => h) (Or.inl ⟨by rfl, fun W hSw => ?_⟩) hHeld ?_
                    · skip
                      unfold qM12_0
                      go_simp
                    try simp only [Act.put, List.setIfInBounds_toArray, List.set_cons_zero, List.set_cons_succ]
                    refine tM12_1 (.slice (some ⟨g, 0, none⟩) out.length c3) (fun _ _ _ h => h) (Or.inl ⟨by rfl, fun W hSw => ?_⟩) hHeld ?_
                    · skip
                      unfold qM12_1
                      go_simp
                    try simp only [Act.put, List.setIfInBounds_toArray, List.set_cons_zero, List.set_cons_succ]
                    refine tM12_2 (.int .i64 (out.length : Int)) (fun _ _ _ h => h) (Or.inl ⟨by rfl, fun W hSw => ?_⟩) hHeld ?_
                    · skip
                      unfold qM12_2
                      go_simp
                    try simp only [Act.put, List.setIfInBounds_toArray, List.set_cons_zero, List.set_cons_succ]
                    refine tM12_3 (.bool true) (fun _ _ _ h => h) (Or.inl ⟨by rfl, fun W hSw => ?_⟩) hHeld ?_
                    · skip
                      unfold qM12_3
                      go_simp
                    try simp only [Act.put, List.setIfInBounds_toArray, List.set_cons_zero, List.set_cons_succ]
                    refine tM12_4 (.bool true) (fun _ _ _ h => h) (Or.inl ⟨by rfl, fun W hSw => ?_⟩) hHeld ?_
                    · skip
                      unfold qM12_4
                      go_simp
                    try simp only [Act.put, List.setIfInBounds_toArray, List.set_cons_zero, List.set_cons_succ]
                    refine tM12_5 (.slice (some ⟨g, 0, none⟩) out.length c3) (fun _ _ _ h => h) (Or.inl ⟨by rfl, fun W hSw => ?_⟩) hHeld ?_
                    · skip
                      unfold qM12_5
                      go_simp
                    try simp only [Act.put, List.setIfInBounds_toArray, List.set_cons_zero, List.set_cons_succ]
                    refine tM12_6 (.int .i64 (j : Int)) (fun _ _ _ h => h) (Or.inl ⟨by rfl, fun W hSw => ?_⟩) hHeld ?_
                    · skip
                      unfold qM12_6
                      go_simp
                    try simp only [Act.put, List.setIfInBounds_toArray, List.set_cons_zero, List.set_cons_succ]
                    refine tM12_7 (.pointer (some ⟨g, j * 2, none⟩)) (fun _ _ _ h => h) (Or.inl ⟨by rfl, fun W hSw => ?_⟩) hHeld ?_
                    · skip
                      unfold qM12_7
                      go_simp
                    try simp only [Act.put, List.setIfInBounds_toArray, List.set_cons_zero, List.set_cons_succ]
                    refine tM12_8 (.agg #[.int .i64 r, .int .i64 s]) (fun _ _ _ h => h) (Or.inl ⟨by rfl, fun W hSw => ?_⟩) hHeld ?_
                    · skip
                      unfold qM12_8
                      obtain ⟨c0, c1, c2, c3⟩ := hSw
                      go_simp
                    try simp only [Act.put, List.setIfInBounds_toArray, List.set_cons_zero, List.set_cons_succ]
                    refine tM12_9 (.slice (some ⟨b, off, none⟩) n c) (fun _ _ _ h => h) (Or.inl ⟨by rfl, fun W hSw => ?_⟩) hHeld ?_
                    · skip
                      unfold qM12_9
                      go_simp
                    try simp only [Act.put, List.setIfInBounds_toArray, List.set_cons_zero, List.set_cons_succ]
                    refine tM12_10 (.int .i64 (k : Int)) (fun _ _ _ h => h) (Or.inl ⟨by rfl, fun W hSw => ?_⟩) hHeld ?_
                    · skip
                      unfold qM12_10
                      go_simp
                    try simp only [Act.put, List.setIfInBounds_toArray, List.set_cons_zero, List.set_cons_succ]
                    refine tM12_11 (.pointer (some ⟨b, off + k * 2, none⟩)) (fun _ _ _ h => h) (Or.inl ⟨by rfl, fun W hSw => ?_⟩) hHeld ?_
                    · skip
                      unfold qM12_11
                      go_simp
                    try simp only [Act.put, List.setIfInBounds_toArray, List.set_cons_zero, List.set_cons_succ]
                    refine tM12_12 (.agg #[.int .i64 r, .int .i64 s]) (fun _ _ _ h => h) (Or.inl ⟨by rfl, fun W hSw => ?_⟩) hHeld ?_
                    · skip
                      unfold qM12_12
                      obtain ⟨c0, c1, c2, c3⟩ := hSw
                      go_simp
                    try simp only [Act.put, List.setIfInBounds_toArray, List.set_cons_zero, List.set_cons_succ]
                    refine cM12_13 (fun K hK => ?_)
                    rw [if_pos (by rfl)]
                    unfold qM12_13
                    go_simp
                    with_reducible refine (E.out _).mono ?_
                    rintro e w5 ⟨rfl, hbd⟩
                    dsimp only
                    refine Shut.out hK _ _ ?_ (fun hHeld => ?_)
                    · skip
                      exact hHeld.below hbd
                    clear hK K
                    try simp only [Act.put, List.setIfInBounds_toArray, List.set_cons_zero, List.set_cons_succ]
                    refine tM12_14 (.bool false) (fun _ _ _ h => h) (Or.inl ⟨by rfl, fun W hSw => ?_⟩) hHeld ?_
                    · skip
                      unfold qM12_14
                      go_simp
                    try simp only [Act.put, List.setIfInBounds_toArray, List.set_cons_zero, List.set_cons_succ]
                    refine tM12_15 (.bool false) (fun _ _ _ h => h) (Or.inl ⟨by rfl, fun W hSw => ?_⟩) hHeld ?_
                    · skip
                      unfold qM12_15
                      go_simp
                    try simp only [Act.put, List.setIfInBounds_toArray, List.set_cons_zero, List.set_cons_succ]
                    refine wpAnyH_done (by kernel_rfl) ?_ _
                    have BX := Lib.hid (below_chain HBX.out.drew hbd)
                    have e1 := hHeld.c0
                    have e2 := hHeld.c1
                    have e3 := hHeld.c2
                    have e4 := hHeld.c3
                    clear hbd hHeld
                    go_wp2_with fail
                    refine wp_region_held_drew (S := Two g (j * 2) r s b (off + k * 2) r s) (by kernel_rfl) ?_ (fun hHeld => ?_)
                    · skip
                      exact (⟨e1, e2, e3, e4⟩ : Two g (j * 2) r s b (off + k * 2) r s w5).drew
                    change wpAnyH _ _ opsM14 _ _ 15 (LM14 0) _ _
                    refine tM14_0 (.int .i64 (j : Int)) (fun _ _ _ h => h) (Or.inl ⟨by rfl, fun W hSw => ?_⟩) hHeld ?_
                    · skip
                      unfold qM14_0
                      go_simp
                    try simp only [Act.put, List.setIfInBounds_toArray, List.set_cons_zero, List.set_cons_succ]
                    refine tM14_1 (.slice (some ⟨g, 0, none⟩) out.length c3) (fun _ _ _ h => h) (Or.inl ⟨by rfl, fun W hSw => ?_⟩) hHeld ?_
                    · skip
                      unfold qM14_1
                      go_simp
                    try simp only [Act.put, List.setIfInBounds_toArray, List.set_cons_zero, List.set_cons_succ]
                    refine tM14_2 (.int .i64 (out.length : Int)) (fun _ _ _ h => h) (Or.inl ⟨by rfl, fun W hSw => ?_⟩) hHeld ?_
                    · skip
                      unfold qM14_2
                      go_simp
                    try simp only [Act.put, List.setIfInBounds_toArray, List.set_cons_zero, List.set_cons_succ]
                    refine tM14_3 (.bool true) (fun _ _ _ h => h) (Or.inl ⟨by rfl, fun W hSw => ?_⟩) hHeld ?_
                    · skip
                      unfold qM14_3
                      go_simp
                    try simp only [Act.put, List.setIfInBounds_toArray, List.set_cons_zero, List.set_cons_succ]
                    refine tM14_4 (.bool true) (fun _ _ _ h => h) (Or.inl ⟨by rfl, fun W hSw => ?_⟩) hHeld ?_
                    · skip
                      unfold qM14_4
                      go_simp
                    try simp only [Act.put, List.setIfInBounds_toArray, List.set_cons_zero, List.set_cons_succ]
                    refine tM14_5 (.slice (some ⟨g, 0, none⟩) out.length c3) (fun _ _ _ h => h) (Or.inl ⟨by rfl, fun W hSw => ?_⟩) hHeld ?_
                    · skip
                      unfold qM14_5
                      go_simp
                    try simp only [Act.put, List.setIfInBounds_toArray, List.set_cons_zero, List.set_cons_succ]
                    refine tM14_6 (.int .i64 (j : Int)) (fun _ _ _ h => h) (Or.inl ⟨by rfl, fun W hSw => ?_⟩) hHeld ?_
                    · skip
                      unfold qM14_6
                      go_simp
                    try simp only [Act.put, List.setIfInBounds_toArray, List.set_cons_zero, List.set_cons_succ]
                    refine tM14_7 (.pointer (some ⟨g, j * 2, none⟩)) (fun _ _ _ h => h) (Or.inl ⟨by rfl, fun W hSw => ?_⟩) hHeld ?_
                    · skip
                      unfold qM14_7
                      go_simp
                    try simp only [Act.put, List.setIfInBounds_toArray, List.set_cons_zero, List.set_cons_succ]
                    refine tM14_8 (.agg #[.int .i64 r, .int .i64 s]) (fun _ _ _ h => h) (Or.inl ⟨by rfl, fun W hSw => ?_⟩) hHeld ?_
                    · skip
                      unfold qM14_8
                      obtain ⟨c0, c1, c2, c3⟩ := hSw
                      go_simp
                    try simp only [Act.put, List.setIfInBounds_toArray, List.set_cons_zero, List.set_cons_succ]
                    refine tM14_9 (.slice (some ⟨b, off, none⟩) n c) (fun _ _ _ h => h) (Or.inl ⟨by rfl, fun W hSw => ?_⟩) hHeld ?_
                    · skip
                      unfold qM14_9
                      go_simp
                    try simp only [Act.put, List.setIfInBounds_toArray, List.set_cons_zero, List.set_cons_succ]
                    refine tM14_10 (.int .i64 (k : Int)) (fun _ _ _ h => h) (Or.inl ⟨by rfl, fun W hSw => ?_⟩) hHeld ?_
                    · skip
                      unfold qM14_10
                      go_simp
                    try simp only [Act.put, List.setIfInBounds_toArray, List.set_cons_zero, List.set_cons_succ]
                    refine tM14_11 (.pointer (some ⟨b, off + k * 2, none⟩)) (fun _ _ _ h => h) (Or.inl ⟨by rfl, fun W hSw => ?_⟩) hHeld ?_
                    · skip
                      unfold qM14_11
                      go_simp
                    try simp only [Act.put, List.setIfInBounds_toArray, List.set_cons_zero, List.set_cons_succ]
                    refine tM14_12 (.agg #[.int .i64 r, .int .i64 s]) (fun _ _ _ h => h) (Or.inl ⟨by rfl, fun W hSw => ?_⟩) hHeld ?_
                    · skip
                      unfold qM14_12
                      obtain ⟨c0, c1, c2, c3⟩ := hSw
                      go_simp
                    try simp only [Act.put, List.setIfInBounds_toArray, List.set_cons_zero, List.set_cons_succ]
                    refine tM14_13 (.bool true) (fun _ _ _ h => h) (Or.inl ⟨by rfl, fun W hSw => ?_⟩) hHeld ?_
                    · skip
                      unfold qM14_13
                      go_simp
                    try simp only [Act.put, List.setIfInBounds_toArray, List.set_cons_zero, List.set_cons_succ]
                    refine tM14_14 (.bool true) (fun _ _ _ h => h) (Or.inl ⟨by rfl, fun W hSw => ?_⟩) hHeld ?_
                    · skip
                      unfold qM14_14
                      go_simp
                    try simp only [Act.put, List.setIfInBounds_toArray, List.set_cons_zero, List.set_cons_succ]
                    refine wpAnyH_done (by kernel_rfl) ?_ _
                    have BX2 := Lib.hid (BX.out.drew)
                    go_wp2
                    go_roundw
                    case rel => exact ⟨k + 1, out, g, c3, by omega, by go_num, rfl, HST.out, own_below O3.out BX2.out, below_chain B3.out BX2.out⟩
                    case measure => simp [intOf]; omega
                  · have hstep : (zs.take (k + 1)).foldl (minStep zs) [] = out.take j ++ (p, q) :: out.drop j := by
                      rw [fold_step l1, ← HU.out, X1.out]
                      simp only [minStep, hL, if_true]
                      rw [insL_at (p, q) out j (by omega) HP.out (fun h => by rw [xj]; exact ho), if_neg (by rw [List.getElem?_eq_getElem hjl, xj]; simpa using he)]
                    have HST := Lib.hid hstep
                    have hord : decide (ordSt r s p q < 0) = false := by simpa using (fun h => ho ((ord_lt (r, s) (p, q)).1 h))
                    have hne := he
                    have E := Lib.hid (fun W => specOrder_any r s p q W)
                    clear hstep xj ho HP hL he
                    go_wp2_with fail
                    refine wp_region_held_drew (S := Two g (j * 2) r s b (off + k * 2) p q) (by kernel_rfl) ?_ (fun hHeld => ?_)
                    · skip
                      exact (⟨e1, e2, e3, e4⟩ : Two g (j * 2) r s b (off + k * 2) p q wr).drew
                    change wpAnyH _ _ opsM12 _ _ 16 (LM12 0) _ _
                    refine tM12_0 (.int .i64 (j : Int)) (fun _ _ _ h => h) (Or.inl ⟨by rfl, fun W hSw => ?_⟩) hHeld ?_
                    · skip
                      unfold qM12_0
                      go_simp
                    try simp only [Act.put, List.setIfInBounds_toArray, List.set_cons_zero, List.set_cons_succ]
                    refine tM12_1 (.slice (some ⟨g, 0, none⟩) out.length c3) (fun _ _ _ h => h) (Or.inl ⟨by rfl, fun W hSw => ?_⟩) hHeld ?_
                    · skip
                      unfold qM12_1
                      go_simp
                    try simp only [Act.put, List.setIfInBounds_toArray, List.set_cons_zero, List.set_cons_succ]
                    refine tM12_2 (.int .i64 (out.length : Int)) (fun _ _ _ h => h) (Or.inl ⟨by rfl, fun W hSw => ?_⟩) hHeld ?_
                    · skip
                      unfold qM12_2
                      go_simp
                    try simp only [Act.put, List.setIfInBounds_toArray, List.set_cons_zero, List.set_cons_succ]
                    refine tM12_3 (.bool true) (fun _ _ _ h => h) (Or.inl ⟨by rfl, fun W hSw => ?_⟩) hHeld ?_
                    · skip
                      unfold qM12_3
                      go_simp
                    try simp only [Act.put, List.setIfInBounds_toArray, List.set_cons_zero, List.set_cons_succ]
                    refine tM12_4 (.bool true) (fun _ _ _ h => h) (Or.inl ⟨by rfl, fun W hSw => ?_⟩) hHeld ?_
                    · skip
                      unfold qM12_4
                      go_simp
                    try simp only [Act.put, List.setIfInBounds_toArray, List.set_cons_zero, List.set_cons_succ]
                    refine tM12_5 (.slice (some ⟨g, 0, none⟩) out.length c3) (fun _ _ _ h => h) (Or.inl ⟨by rfl, fun W hSw => ?_⟩) hHeld ?_
                    · skip
                      unfold qM12_5
                      go_simp
                    try simp only [Act.put, List.setIfInBounds_toArray, List.set_cons_zero, List.set_cons_succ]
                    refine tM12_6 (.int .i64 (j : Int)) (fun _ _ _ h => h) (Or.inl ⟨by rfl, fun W hSw => ?_⟩) hHeld ?_
                    · skip
                      unfold qM12_6
                      go_simp
                    try simp only [Act.put, List.setIfInBounds_toArray, List.set_cons_zero, List.set_cons_succ]
                    refine tM12_7 (.pointer (some ⟨g, j * 2, none⟩)) (fun _ _ _ h => h) (Or.inl ⟨by rfl, fun W hSw => ?_⟩) hHeld ?_
                    · skip
                      unfold qM12_7
                      go_simp
                    try simp only [Act.put, List.setIfInBounds_toArray, List.set_cons_zero, List.set_cons_succ]
                    refine tM12_8 (.agg #[.int .i64 r, .int .i64 s]) (fun _ _ _ h => h) (Or.inl ⟨by rfl, fun W hSw => ?_⟩) hHeld ?_
                    · skip
                      unfold qM12_8
                      obtain ⟨c0, c1, c2, c3⟩ := hSw
                      go_simp
                    try simp only [Act.put, List.setIfInBounds_toArray, List.set_cons_zero, List.set_cons_succ]
                    refine tM12_9 (.slice (some ⟨b, off, none⟩) n c) (fun _ _ _ h => h) (Or.inl ⟨by rfl, fun W hSw => ?_⟩) hHeld ?_
                    · skip
                      unfold qM12_9
                      go_simp
                    try simp only [Act.put, List.setIfInBounds_toArray, List.set_cons_zero, List.set_cons_succ]
                    refine tM12_10 (.int .i64 (k : Int)) (fun _ _ _ h => h) (Or.inl ⟨by rfl, fun W hSw => ?_⟩) hHeld ?_
                    · skip
                      unfold qM12_10
                      go_simp
                    try simp only [Act.put, List.setIfInBounds_toArray, List.set_cons_zero, List.set_cons_succ]
                    refine tM12_11 (.pointer (some ⟨b, off + k * 2, none⟩)) (fun _ _ _ h => h) (Or.inl ⟨by rfl, fun W hSw => ?_⟩) hHeld ?_
                    · skip
                      unfold qM12_11
                      go_simp
                    try simp only [Act.put, List.setIfInBounds_toArray, List.set_cons_zero, List.set_cons_succ]
                    refine tM12_12 (.agg #[.int .i64 p, .int .i64 q]) (fun _ _ _ h => h) (Or.inl ⟨by rfl, fun W hSw => ?_⟩) hHeld ?_
                    · skip
                      unfold qM12_12
                      obtain ⟨c0, c1, c2, c3⟩ := hSw
                      go_simp
                    try simp only [Act.put, List.setIfInBounds_toArray, List.set_cons_zero, List.set_cons_succ]
                    refine cM12_13 (fun K hK => ?_)
                    rw [if_pos (by rfl)]
                    unfold qM12_13
                    go_simp
                    with_reducible refine (E.out _).mono ?_
                    rintro e w5 ⟨rfl, hbd⟩
                    dsimp only
                    refine Shut.out hK _ _ ?_ (fun hHeld => ?_)
                    · skip
                      exact hHeld.below hbd
                    clear hK K
                    try simp only [Act.put, List.setIfInBounds_toArray, List.set_cons_zero, List.set_cons_succ]
                    refine tM12_14 (.bool false) (fun _ _ _ h => h) (Or.inl ⟨by rfl, fun W hSw => ?_⟩) hHeld ?_
                    · skip
                      unfold qM12_14
                      go_simp
                    try simp only [Act.put, List.setIfInBounds_toArray, List.set_cons_zero, List.set_cons_succ]
                    refine tM12_15 (.bool false) (fun _ _ _ h => h) (Or.inl ⟨by rfl, fun W hSw => ?_⟩) hHeld ?_
                    · skip
                      unfold qM12_15
                      go_simp
                    try simp only [Act.put, List.setIfInBounds_toArray, List.set_cons_zero, List.set_cons_succ]
                    refine wpAnyH_done (by kernel_rfl) ?_ _
                    have BX := Lib.hid (below_chain HBX.out.drew hbd)
                    have e1 := hHeld.c0
                    have e2 := hHeld.c1
                    have e3 := hHeld.c2
                    have e4 := hHeld.c3
                    clear hbd hHeld
                    go_wp2_with fail
                    refine wp_region_held_drew (S := Two g (j * 2) r s b (off + k * 2) p q) (by kernel_rfl) ?_ (fun hHeld => ?_)
                    · skip
                      exact (⟨e1, e2, e3, e4⟩ : Two g (j * 2) r s b (off + k * 2) p q w5).drew
                    change wpAnyH _ _ opsM14 _ _ 15 (LM14 0) _ _
                    refine tM14_0 (.int .i64 (j : Int)) (fun _ _ _ h => h) (Or.inl ⟨by rfl, fun W hSw => ?_⟩) hHeld ?_
                    · skip
                      unfold qM14_0
                      go_simp
                    try simp only [Act.put, List.setIfInBounds_toArray, List.set_cons_zero, List.set_cons_succ]
                    refine tM14_1 (.slice (some ⟨g, 0, none⟩) out.length c3) (fun _ _ _ h => h) (Or.inl ⟨by rfl, fun W hSw => ?_⟩) hHeld ?_
                    · skip
                      unfold qM14_1
                      go_simp
                    try simp only [Act.put, List.setIfInBounds_toArray, List.set_cons_zero, List.set_cons_succ]
                    refine tM14_2 (.int .i64 (out.length : Int)) (fun _ _ _ h => h) (Or.inl ⟨by rfl, fun W hSw => ?_⟩) hHeld ?_
                    · skip
                      unfold qM14_2
                      go_simp
                    try simp only [Act.put, List.setIfInBounds_toArray, List.set_cons_zero, List.set_cons_succ]
                    refine tM14_3 (.bool true) (fun _ _ _ h => h) (Or.inl ⟨by rfl, fun W hSw => ?_⟩) hHeld ?_
                    · skip
                      unfold qM14_3
                      go_simp
                    try simp only [Act.put, List.setIfInBounds_toArray, List.set_cons_zero, List.set_cons_succ]
                    refine tM14_4 (.bool true) (fun _ _ _ h => h) (Or.inl ⟨by rfl, fun W hSw => ?_⟩) hHeld ?_
                    · skip
                      unfold qM14_4
                      go_simp
                    try simp only [Act.put, List.setIfInBounds_toArray, List.set_cons_zero, List.set_cons_succ]
                    refine tM14_5 (.slice (some ⟨g, 0, none⟩) out.length c3) (fun _ _ _ h => h) (Or.inl ⟨by rfl, fun W hSw => ?_⟩) hHeld ?_
                    · skip
                      unfold qM14_5
                      go_simp
                    try simp only [Act.put, List.setIfInBounds_toArray, List.set_cons_zero, List.set_cons_succ]
                    refine tM14_6 (.int .i64 (j : Int)) (fun _ _ _ h => h) (Or.inl ⟨by rfl, fun W hSw => ?_⟩) hHeld ?_
                    · skip
                      unfold qM14_6
                      go_simp
                    try simp only [Act.put, List.setIfInBounds_toArray, List.set_cons_zero, List.set_cons_succ]
                    refine tM14_7 (.pointer (some ⟨g, j * 2, none⟩)) (fun _ _ _ h => h) (Or.inl ⟨by rfl, fun W hSw => ?_⟩) hHeld ?_
                    · skip
                      unfold qM14_7
                      go_simp
                    try simp only [Act.put, List.setIfInBounds_toArray, List.set_cons_zero, List.set_cons_succ]
                    refine tM14_8 (.agg #[.int .i64 r, .int .i64 s]) (fun _ _ _ h => h) (Or.inl ⟨by rfl, fun W hSw => ?_⟩) hHeld ?_
                    · skip
                      unfold qM14_8
                      obtain ⟨c0, c1, c2, c3⟩ := hSw
                      go_simp
                    try simp only [Act.put, List.setIfInBounds_toArray, List.set_cons_zero, List.set_cons_succ]
                    refine tM14_9 (.slice (some ⟨b, off, none⟩) n c) (fun _ _ _ h => h) (Or.inl ⟨by rfl, fun W hSw => ?_⟩) hHeld ?_
                    · skip
                      unfold qM14_9
                      go_simp
                    try simp only [Act.put, List.setIfInBounds_toArray, List.set_cons_zero, List.set_cons_succ]
                    refine tM14_10 (.int .i64 (k : Int)) (fun _ _ _ h => h) (Or.inl ⟨by rfl, fun W hSw => ?_⟩) hHeld ?_
                    · skip
                      unfold qM14_10
                      go_simp
                    try simp only [Act.put, List.setIfInBounds_toArray, List.set_cons_zero, List.set_cons_succ]
                    refine tM14_11 (.pointer (some ⟨b, off + k * 2, none⟩)) (fun _ _ _ h => h) (Or.inl ⟨by rfl, fun W hSw => ?_⟩) hHeld ?_
                    · skip
                      unfold qM14_11
                      go_simp
                    try simp only [Act.put, List.setIfInBounds_toArray, List.set_cons_zero, List.set_cons_succ]
                    refine tM14_12 (.agg #[.int .i64 p, .int .i64 q]) (fun _ _ _ h => h) (Or.inl ⟨by rfl, fun W hSw => ?_⟩) hHeld ?_
                    · skip
                      unfold qM14_12
                      obtain ⟨c0, c1, c2, c3⟩ := hSw
                      go_simp
                    try simp only [Act.put, List.setIfInBounds_toArray, List.set_cons_zero, List.set_cons_succ]
                    refine tM14_13 (.bool false) (fun _ _ _ h => h) (Or.inl ⟨by rfl, fun W hSw => ?_⟩) hHeld ?_
                    · skip
                      unfold qM14_13
                      go_simp
                      exact fun h1 h2 => hne ⟨h1, h2⟩
                    try simp only [Act.put, List.setIfInBounds_toArray, List.set_cons_zero, List.set_cons_succ]
                    refine tM14_14 (.bool false) (fun _ _ _ h => h) (Or.inl ⟨by rfl, fun W hSw => ?_⟩) hHeld ?_
                    · skip
                      unfold qM14_14
                      go_simp
                    try simp only [Act.put, List.setIfInBounds_toArray, List.set_cons_zero, List.set_cons_succ]
                    refine wpAnyH_done (by kernel_rfl) ?_ _
                    have BX2 := Lib.hid (BX.out.drew)
                    go_wp2_with fail
                    have OV := own_below O3.out BX2.out
                    have BV := Lib.hid (below_chain B3.out BX2.out)
                    have eb3 := drew_keep e3
                    have eb4 := drew_keep e4
                    generalize hV : w5.drew = V at OV BV eb3 eb4 ⊢
                    have hcap : out.length ≤ c3 := own_cap OV
                    have OVh := Lib.hid OV
                    have NV := Lib.hid (own_news OV)
                    clear OV hV
                    have k2 : (j : Int) ≤ (c3 : Int) := by omega
                    have hj2 : j ≤ c3 := by omega
                    clear e1 e2 e3 e4 E hord hne BX BX2 O3 F3 F4
                    go_region_held3 (fun w' => w'.cell? ⟨b, off + k * 2, none⟩ = some (.int .i64 p) ∧ w'.cell? ⟨b, off + k * 2 + 1, none⟩ = some (.int .i64 q) ∧ Below V.heap.size V w')
                      (((try go_split_ands); refine keep3 ?_ eb3 eb4; (repeat (first | with_reducible assumption | with_reducible exact Below.refl _ _ | with_reducible refine Below.drew ?_ | with_reducible refine Below.alloc ?_ (by first | (simp; done) | (simp; omega) | exact Below.size (by assumption)) _))))
                      (first | (rw [if_pos (by rfl)]; (try go_split_ands); refine wp_append_st (V := V) (.tmp 81) (.tmp 84) 38 rfl 26 i0 (.agg #[.int .i64 0, .int .i64 0]) 2 16 Try.underlying38 hi hz0 hz1 hz2 rfl (by decide) _ 0 [] rfl (by first | exact World.ownsRow_lit _ #[] 0 (by simp) (by decide) rfl | exact (World.ownsRow_lit _ #[] 0 (by simp) (by decide) rfl).alloc _ | (rw [show V.heap.size + 1 = (V.drew.alloc (.cells #[.int .i64 p, .int .i64 q] 26)).heap.size by simp]; exact World.ownsRow_lit _ #[] 0 (by simp) (by decide) rfl)) ⟨g, 0, none⟩ j c3 (stCells (out.take j)) rfl (by rw [stCells_length, List.length_take]; omega) (fun i u hu => below_keep (by assumption) (NV.out j i u hu)) (fun u hu => stCells_one hu) (by unfold maxLen; omega) (by omega) (by assumption) ?_; intro v1 w6 own1 gr1 hB6 _) | (rw [if_pos (by rfl)]; (try go_split_ands); refine wp_append_st (V := V) (.tmp 85) (.tmp 90) 38 rfl 26 i0 (.agg #[.int .i64 0, .int .i64 0]) 2 16 Try.underlying38 hi hz0 hz1 hz2 rfl (by decide) v1 (0 + j) ([] ++ stCells (out.take j)) rfl (own1.alloc _) ⟨w6.heap.size, 0, none⟩ 1 1 [.int .i64 p, .int .i64 q] rfl rfl (World.news_of_block (heap_alloc_new w6 _)) (by simp [Value.oneCell']) (by unfold maxLen; omega) (by omega) (by assumption) ?_; intro v2 w7 own2 gr2 hB7 _) | (rw [if_pos (by rfl)]; (try go_split_ands); refine wp_append_st (V := V) (.tmp 85) (.tmp 90) 38 rfl 26 i0 (.agg #[.int .i64 0, .int .i64 0]) 2 16 Try.underlying38 hi hz0 hz1 hz2 rfl (by decide) v1 (0 + j) ([] ++ stCells (out.take j)) rfl own1 ⟨V.heap.size + 1, 0, none⟩ 1 1 [.int .i64 p, .int .i64 q] rfl rfl (Blk.news (cs := #[.int .i64 p, .int .i64 q]) (Blk.grown (t := 26) ((show V.heap.size + 1 = (V.drew.alloc (.cells #[] 26)).heap.size by simp) ▸ Blk.new _ _ _) gr1 (by intro h; have := Option.some.inj (show some (V.heap.size + 1) = some V.heap.size from h); omega))) (by simp [Value.oneCell']) (by unfold maxLen; omega) (by omega) (by assumption) ?_; intro v2 w7 own2 gr2 hB7 _) | (rw [if_pos (by rfl)]; (try go_split_ands); refine wp_append_st (V := V) (.tmp 85) (.tmp 90) 38 rfl 26 i0 (.agg #[.int .i64 0, .int .i64 0]) 2 16 Try.underlying38 hi hz0 hz1 hz2 rfl (by decide) v1 (0 + j) ([] ++ stCells (out.take j)) rfl own1 ⟨V.heap.size, 0, none⟩ 1 1 [.int .i64 p, .int .i64 q] rfl rfl (Blk.news (cs := #[.int .i64 p, .int .i64 q]) (Blk.grown (t := 26) ((Below.heap_alloc _ _ _ (by simp)).trans (Blk.new V.drew _ _)) gr1 (by intro h; have := Option.some.inj (show some V.heap.size = some (V.heap.size + 1) from h); omega))) (by simp [Value.oneCell']) (by unfold maxLen; omega) (by omega) (by assumption) ?_; intro v2 w7 own2 gr2 hB7 _))
                    all_goals (
                      have N2 := Lib.hid (own_news_drop OVh.out j)
                      have hBh := Lib.hid hB7
                      rw [Nat.zero_add, List.nil_append] at own2
                      obtain ⟨A2, c2, rfl, hA2⟩ := own_form own2
                      obtain ⟨g2, rfl⟩ := hA2 (by omega)
                      have O2h := Lib.hid own2
                      clear own1 own2 gr1 gr2 hB6 hB7 hA2
                      have hm1 : (0 : Int) ≤ (j : Int) := by omega
                      have hm2 : (j : Int) ≤ (out.length : Int) := by omega
                      go_wp2_with (at_builtin; refine wpList_append_own _ rfl (.tmp 92) (.tmp 95) 38 rfl V.heap.size 26 i0 (.agg #[.int .i64 0, .int .i64 0]) 2 16 Try.underlying38 hi hz0 hz1 hz2 rfl (by decide) (.slice (some ⟨g2, 0, none⟩) (j + 1) c2) (j + 1) (stCells (out.take j) ++ [.int .i64 p, .int .i64 q]) (by rfl) O2h.out ⟨g, j * 2, none⟩ (out.length - j) (c3 - j) (stCells (out.drop j)) (by rfl) (by rw [stCells_length, List.length_drop]) (fun i u hu => below_keep hBh.out (N2.out i u hu)) (fun u hu => stCells_one hu) (by unfold maxLen; omega) (by omega) hBh.out.size ?_; intro v3 w8 own3 gr3 _)
                      have hB8 := hBh.out.grown gr3 hBh.out.size (own_ge O2h.out)
                      have hst8 : stCells (out.take j) ++ [Value.int .i64 p, Value.int .i64 q] ++ stCells (out.drop j) = stCells (out.take j ++ (p, q) :: out.drop j) := by
                        rw [stCells_append, stCells_cons, List.append_assoc]; rfl
                      have hn8 : j + 1 + (out.length - j) = (out.take j ++ (p, q) :: out.drop j).length := by simp; omega
                      rw [hst8, hn8] at own3
                      obtain ⟨A4, c4, rfl, hA4⟩ := own_form own3
                      obtain ⟨g4, rfl⟩ := hA4 (by simp; omega)
                      have O4 := Lib.hid (own_base own3 BV.out.size)
                      have B8 := Lib.hid (below_chain BV.out hB8)
                      clear own3 gr3 hB8 hst8 hn8 hA4 O2h hBh N2 NV OVh
                      go_wp2
                      go_roundw
                      case rel => exact ⟨k + 1, _, g4, c4, by omega, by go_num, rfl, HST.out.symm, O4.out, B8.out⟩
                      case measure => simp [intOf]; omega)
              · have hje : j = out.length := by omega
                have hd : decide ((j : Int) < (out.length : Int)) = false := by simp; omega
                have hstep : (zs.take (k + 1)).foldl (minStep zs) [] = out.take j ++ (p, q) :: out.drop j := by
                  rw [fold_step l1, ← HU.out, X1.out]
                  simp only [minStep, hL, if_true]
                  rw [insL_at (p, q) out j (by omega) HP.out (fun h => absurd h hjl), if_neg (by rw [List.getElem?_eq_none (by omega)]; simp)]
                have HST := Lib.hid hstep
                have HDR := Lib.hid (show out.drop j = [] from List.drop_of_length_le (by omega))
                clear hstep HP hL hje
                go_wp2_with fail
                refine wp_region_held_drew (S := Two b (off + k * 2) p q b (off + k * 2) p q) (by kernel_rfl) ?_ (fun hHeld => ?_)
                · skip
                  exact (⟨e3, e4, e3, e4⟩ : Two b (off + k * 2) p q b (off + k * 2) p q wr).drew
                change wpAnyH _ _ opsM12 _ _ 16 (LM12 0) _ _
                refine tM12_0 (.int .i64 (j : Int)) (fun _ _ _ h => h) (Or.inl ⟨by rfl, fun W hSw => ?_⟩) hHeld ?_
                · skip
                  unfold qM12_0
                  go_simp
                try simp only [Act.put, List.setIfInBounds_toArray, List.set_cons_zero, List.set_cons_succ]
                refine tM12_1 (.slice (some ⟨g, 0, none⟩) out.length c3) (fun _ _ _ h => h) (Or.inl ⟨by rfl, fun W hSw => ?_⟩) hHeld ?_
                · skip
                  unfold qM12_1
                  go_simp
                try simp only [Act.put, List.setIfInBounds_toArray, List.set_cons_zero, List.set_cons_succ]
                refine tM12_2 (.int .i64 (out.length : Int)) (fun _ _ _ h => h) (Or.inl ⟨by rfl, fun W hSw => ?_⟩) hHeld ?_
                · skip
                  unfold qM12_2
                  go_simp
                try simp only [Act.put, List.setIfInBounds_toArray, List.set_cons_zero, List.set_cons_succ]
                refine tM12_3 (.bool false) (fun _ _ _ h => h) (Or.inl ⟨by rfl, fun W hSw => ?_⟩) hHeld ?_
                · skip
                  unfold qM12_3
                  go_simp
                try simp only [Act.put, List.setIfInBounds_toArray, List.set_cons_zero, List.set_cons_succ]
                refine tM12_4 (.bool false) (fun _ _ _ h => h) (Or.inl ⟨by rfl, fun W hSw => ?_⟩) hHeld ?_
                · skip
                  unfold qM12_4
                  go_simp
                try simp only [Act.put, List.setIfInBounds_toArray, List.set_cons_zero, List.set_cons_succ]
                refine tM12_5 undef (fun _ _ _ h => h) (Or.inr ⟨by rfl, rfl⟩) hHeld ?_
                try simp only [Act.put, List.setIfInBounds_toArray, List.set_cons_zero, List.set_cons_succ]
                refine tM12_6 undef (fun _ _ _ h => h) (Or.inr ⟨by rfl, rfl⟩) hHeld ?_
                try simp only [Act.put, List.setIfInBounds_toArray, List.set_cons_zero, List.set_cons_succ]
                refine tM12_7 undef (fun _ _ _ h => h) (Or.inr ⟨by rfl, rfl⟩) hHeld ?_
                try simp only [Act.put, List.setIfInBounds_toArray, List.set_cons_zero, List.set_cons_succ]
                refine tM12_8 undef (fun _ _ _ h => h) (Or.inr ⟨by rfl, rfl⟩) hHeld ?_
                try simp only [Act.put, List.setIfInBounds_toArray, List.set_cons_zero, List.set_cons_succ]
                refine tM12_9 undef (fun _ _ _ h => h) (Or.inr ⟨by rfl, rfl⟩) hHeld ?_
                try simp only [Act.put, List.setIfInBounds_toArray, List.set_cons_zero, List.set_cons_succ]
                refine tM12_10 undef (fun _ _ _ h => h) (Or.inr ⟨by rfl, rfl⟩) hHeld ?_
                try simp only [Act.put, List.setIfInBounds_toArray, List.set_cons_zero, List.set_cons_succ]
                refine tM12_11 undef (fun _ _ _ h => h) (Or.inr ⟨by rfl, rfl⟩) hHeld ?_
                try simp only [Act.put, List.setIfInBounds_toArray, List.set_cons_zero, List.set_cons_succ]
                refine tM12_12 undef (fun _ _ _ h => h) (Or.inr ⟨by rfl, rfl⟩) hHeld ?_
                try simp only [Act.put, List.setIfInBounds_toArray, List.set_cons_zero, List.set_cons_succ]
                refine tM12_13 undef (fun _ _ _ h => h) (Or.inr ⟨by rfl, rfl⟩) hHeld ?_
                try simp only [Act.put, List.setIfInBounds_toArray, List.set_cons_zero, List.set_cons_succ]
                refine tM12_14 undef (fun _ _ _ h => h) (Or.inr ⟨by rfl, rfl⟩) hHeld ?_
                try simp only [Act.put, List.setIfInBounds_toArray, List.set_cons_zero, List.set_cons_succ]
                refine tM12_15 (Value.bool false) (fun _ _ _ h => h) (Or.inl ⟨by rfl, fun W hSw => ?_⟩) hHeld ?_
                · skip
                  unfold qM12_15
                  go_simp
                try simp only [Act.put, List.setIfInBounds_toArray, List.set_cons_zero, List.set_cons_succ]
                refine wpAnyH_done (by kernel_rfl) ?_ _
                have BX := Lib.hid (HBX.out.drew)
                go_wp2_with fail
                refine wp_region_held_drew (S := Two b (off + k * 2) p q b (off + k * 2) p q) (by kernel_rfl) ?_ (fun hHeld => ?_)
                · skip
                  exact (⟨drew_keep e3, drew_keep e4, drew_keep e3, drew_keep e4⟩ : Two b (off + k * 2) p q b (off + k * 2) p q wr.drew).drew
                change wpAnyH _ _ opsM14 _ _ 15 (LM14 0) _ _
                refine tM14_0 (.int .i64 (j : Int)) (fun _ _ _ h => h) (Or.inl ⟨by rfl, fun W hSw => ?_⟩) hHeld ?_
                · skip
                  unfold qM14_0
                  go_simp
                try simp only [Act.put, List.setIfInBounds_toArray, List.set_cons_zero, List.set_cons_succ]
                refine tM14_1 (.slice (some ⟨g, 0, none⟩) out.length c3) (fun _ _ _ h => h) (Or.inl ⟨by rfl, fun W hSw => ?_⟩) hHeld ?_
                · skip
                  unfold qM14_1
                  go_simp
                try simp only [Act.put, List.setIfInBounds_toArray, List.set_cons_zero, List.set_cons_succ]
                refine tM14_2 (.int .i64 (out.length : Int)) (fun _ _ _ h => h) (Or.inl ⟨by rfl, fun W hSw => ?_⟩) hHeld ?_
                · skip
                  unfold qM14_2
                  go_simp
                try simp only [Act.put, List.setIfInBounds_toArray, List.set_cons_zero, List.set_cons_succ]
                refine tM14_3 (.bool false) (fun _ _ _ h => h) (Or.inl ⟨by rfl, fun W hSw => ?_⟩) hHeld ?_
                · skip
                  unfold qM14_3
                  go_simp
                try simp only [Act.put, List.setIfInBounds_toArray, List.set_cons_zero, List.set_cons_succ]
                refine tM14_4 (.bool false) (fun _ _ _ h => h) (Or.inl ⟨by rfl, fun W hSw => ?_⟩) hHeld ?_
                · skip
                  unfold qM14_4
                  go_simp
                try simp only [Act.put, List.setIfInBounds_toArray, List.set_cons_zero, List.set_cons_succ]
                refine tM14_5 undef (fun _ _ _ h => h) (Or.inr ⟨by rfl, rfl⟩) hHeld ?_
                try simp only [Act.put, List.setIfInBounds_toArray, List.set_cons_zero, List.set_cons_succ]
                refine tM14_6 undef (fun _ _ _ h => h) (Or.inr ⟨by rfl, rfl⟩) hHeld ?_
                try simp only [Act.put, List.setIfInBounds_toArray, List.set_cons_zero, List.set_cons_succ]
                refine tM14_7 undef (fun _ _ _ h => h) (Or.inr ⟨by rfl, rfl⟩) hHeld ?_
                try simp only [Act.put, List.setIfInBounds_toArray, List.set_cons_zero, List.set_cons_succ]
                refine tM14_8 undef (fun _ _ _ h => h) (Or.inr ⟨by rfl, rfl⟩) hHeld ?_
                try simp only [Act.put, List.setIfInBounds_toArray, List.set_cons_zero, List.set_cons_succ]
                refine tM14_9 undef (fun _ _ _ h => h) (Or.inr ⟨by rfl, rfl⟩) hHeld ?_
                try simp only [Act.put, List.setIfInBounds_toArray, List.set_cons_zero, List.set_cons_succ]
                refine tM14_10 undef (fun _ _ _ h => h) (Or.inr ⟨by rfl, rfl⟩) hHeld ?_
                try simp only [Act.put, List.setIfInBounds_toArray, List.set_cons_zero, List.set_cons_succ]
                refine tM14_11 undef (fun _ _ _ h => h) (Or.inr ⟨by rfl, rfl⟩) hHeld ?_
                try simp only [Act.put, List.setIfInBounds_toArray, List.set_cons_zero, List.set_cons_succ]
                refine tM14_12 undef (fun _ _ _ h => h) (Or.inr ⟨by rfl, rfl⟩) hHeld ?_
                try simp only [Act.put, List.setIfInBounds_toArray, List.set_cons_zero, List.set_cons_succ]
                refine tM14_13 undef (fun _ _ _ h => h) (Or.inr ⟨by rfl, rfl⟩) hHeld ?_
                try simp only [Act.put, List.setIfInBounds_toArray, List.set_cons_zero, List.set_cons_succ]
                refine tM14_14 (Value.bool false) (fun _ _ _ h => h) (Or.inl ⟨by rfl, fun W hSw => ?_⟩) hHeld ?_
                · skip
                  unfold qM14_14
                  go_simp
                try simp only [Act.put, List.setIfInBounds_toArray, List.set_cons_zero, List.set_cons_succ]
                refine wpAnyH_done (by kernel_rfl) ?_ _
                have BX2 := Lib.hid (BX.out.drew)
                go_wp2_with fail
                have OV := own_below O3.out BX2.out
                have BV := Lib.hid (below_chain B3.out BX2.out)
                have eb3 := drew_keep (drew_keep e3)
                have eb4 := drew_keep (drew_keep e4)
                generalize hV : wr.drew.drew = V at OV BV eb3 eb4 ⊢
                have hcap : out.length ≤ c3 := own_cap OV
                have OVh := Lib.hid OV
                have NV := Lib.hid (own_news OV)
                clear OV hV
                have k2 : (j : Int) ≤ (c3 : Int) := by omega
                have hj2 : j ≤ c3 := by omega
                clear e3 e4 BX BX2 O3 F3 F4 hd hjl
                go_region_held3 (fun w' => w'.cell? ⟨b, off + k * 2, none⟩ = some (.int .i64 p) ∧ w'.cell? ⟨b, off + k * 2 + 1, none⟩ = some (.int .i64 q) ∧ Below V.heap.size V w')
                  (((try go_split_ands); refine keep3 ?_ eb3 eb4; (repeat (first | with_reducible assumption | with_reducible exact Below.refl _ _ | with_reducible refine Below.drew ?_ | with_reducible refine Below.alloc ?_ (by first | (simp; done) | (simp; omega) | exact Below.size (by assumption)) _))))
                  (first | (rw [if_pos (by rfl)]; (try go_split_ands); refine wp_append_st (V := V) (.tmp 81) (.tmp 84) 38 rfl 26 i0 (.agg #[.int .i64 0, .int .i64 0]) 2 16 Try.underlying38 hi hz0 hz1 hz2 rfl (by decide) _ 0 [] rfl (by first | exact World.ownsRow_lit _ #[] 0 (by simp) (by decide) rfl | exact (World.ownsRow_lit _ #[] 0 (by simp) (by decide) rfl).alloc _ | (rw [show V.heap.size + 1 = (V.drew.alloc (.cells #[.int .i64 p, .int .i64 q] 26)).heap.size by simp]; exact World.ownsRow_lit _ #[] 0 (by simp) (by decide) rfl)) ⟨g, 0, none⟩ j c3 (stCells (out.take j)) rfl (by rw [stCells_length, List.length_take]; omega) (fun i u hu => below_keep (by assumption) (NV.out j i u hu)) (fun u hu => stCells_one hu) (by unfold maxLen; omega) (by omega) (by assumption) ?_; intro v1 w6 own1 gr1 hB6 _) | (rw [if_pos (by rfl)]; (try go_split_ands); refine wp_append_st (V := V) (.tmp 85) (.tmp 90) 38 rfl 26 i0 (.agg #[.int .i64 0, .int .i64 0]) 2 16 Try.underlying38 hi hz0 hz1 hz2 rfl (by decide) v1 (0 + j) ([] ++ stCells (out.take j)) rfl (own1.alloc _) ⟨w6.heap.size, 0, none⟩ 1 1 [.int .i64 p, .int .i64 q] rfl rfl (World.news_of_block (heap_alloc_new w6 _)) (by simp [Value.oneCell']) (by unfold maxLen; omega) (by omega) (by assumption) ?_; intro v2 w7 own2 gr2 hB7 _) | (rw [if_pos (by rfl)]; (try go_split_ands); refine wp_append_st (V := V) (.tmp 85) (.tmp 90) 38 rfl 26 i0 (.agg #[.int .i64 0, .int .i64 0]) 2 16 Try.underlying38 hi hz0 hz1 hz2 rfl (by decide) v1 (0 + j) ([] ++ stCells (out.take j)) rfl own1 ⟨V.heap.size + 1, 0, none⟩ 1 1 [.int .i64 p, .int .i64 q] rfl rfl (Blk.news (cs := #[.int .i64 p, .int .i64 q]) (Blk.grown (t := 26) ((show V.heap.size + 1 = (V.drew.alloc (.cells #[] 26)).heap.size by simp) ▸ Blk.new _ _ _) gr1 (by intro h; have := Option.some.inj (show some (V.heap.size + 1) = some V.heap.size from h); omega))) (by simp [Value.oneCell']) (by unfold maxLen; omega) (by omega) (by assumption) ?_; intro v2 w7 own2 gr2 hB7 _) | (rw [if_pos (by rfl)]; (try go_split_ands); refine wp_append_st (V := V) (.tmp 85) (.tmp 90) 38 rfl 26 i0 (.agg #[.int .i64 0, .int .i64 0]) 2 16 Try.underlying38 hi hz0 hz1 hz2 rfl (by decide) v1 (0 + j) ([] ++ stCells (out.take j)) rfl own1 ⟨V.heap.size, 0, none⟩ 1 1 [.int .i64 p, .int .i64 q] rfl rfl (Blk.news (cs := #[.int .i64 p, .int .i64 q]) (Blk.grown (t := 26) ((Below.heap_alloc _ _ _ (by simp)).trans (Blk.new V.drew _ _)) gr1 (by intro h; have := Option.some.inj (show some V.heap.size = some (V.heap.size + 1) from h); omega))) (by simp [Value.oneCell']) (by unfold maxLen; omega) (by omega) (by assumption) ?_; intro v2 w7 own2 gr2 hB7 _))
                all_goals (
                  have N2 := Lib.hid (own_news_drop OVh.out j)
                  have hBh := Lib.hid hB7
                  rw [Nat.zero_add, List.nil_append] at own2
                  obtain ⟨A2, c2, rfl, hA2⟩ := own_form own2
                  obtain ⟨g2, rfl⟩ := hA2 (by omega)
                  have O2h := Lib.hid own2
                  clear own1 own2 gr1 gr2 hB6 hB7 hA2
                  have hm1 : (0 : Int) ≤ (j : Int) := by omega
                  have hm2 : (j : Int) ≤ (out.length : Int) := by omega
                  by_cases hjc : j = c3
                  · subst hjc
                    go_wp2_with (at_builtin; refine wpList_append_own _ rfl (.tmp 92) (.tmp 95) 38 rfl V.heap.size 26 i0 (.agg #[.int .i64 0, .int .i64 0]) 2 16 Try.underlying38 hi hz0 hz1 hz2 rfl (by decide) (.slice (some ⟨g2, 0, none⟩) (j + 1) c2) (j + 1) (stCells (out.take j) ++ [.int .i64 p, .int .i64 q]) (by rfl) O2h.out ⟨g, 0, none⟩ 0 _ [] (by rfl) rfl (fun i u hu => by simp at hu) (fun u hu => by cases hu) (by unfold maxLen; omega) (by omega) hBh.out.size ?_; intro v3 w8 own3 gr3 _)
                    replace own3 : w8.ownsRow V.heap.size 26 2 v3 (j + 1 + (out.length - j)) (stCells (out.take j) ++ [Value.int .i64 p, Value.int .i64 q] ++ stCells (out.drop j)) := by rw [HDR.out, show out.length - j = 0 by omega]; exact own3
                    have hB8 := hBh.out.grown gr3 hBh.out.size (own_ge O2h.out)
                    have hst8 : stCells (out.take j) ++ [Value.int .i64 p, Value.int .i64 q] ++ stCells (out.drop j) = stCells (out.take j ++ (p, q) :: out.drop j) := by
                      rw [stCells_append, stCells_cons, List.append_assoc]; rfl
                    have hn8 : j + 1 + (out.length - j) = (out.take j ++ (p, q) :: out.drop j).length := by simp; omega
                    rw [hst8, hn8] at own3
                    obtain ⟨A4, c4, rfl, hA4⟩ := own_form own3
                    obtain ⟨g4, rfl⟩ := hA4 (by simp; omega)
                    have O4 := Lib.hid (own_base own3 BV.out.size)
                    have B8 := Lib.hid (below_chain BV.out hB8)
                    clear own3 gr3 hB8 hst8 hn8 hA4 O2h hBh N2 NV OVh
                    go_wp2
                    go_roundw
                    case rel => exact ⟨k + 1, _, g4, c4, by omega, by go_num, rfl, HST.out.symm, O4.out, B8.out⟩
                    case measure => simp [intOf]; omega
                  · have hjd : ¬c3 = j := fun h => hjc h.symm
                    go_wp2_with (at_builtin; refine wpList_append_own _ rfl (.tmp 92) (.tmp 95) 38 rfl V.heap.size 26 i0 (.agg #[.int .i64 0, .int .i64 0]) 2 16 Try.underlying38 hi hz0 hz1 hz2 rfl (by decide) (.slice (some ⟨g2, 0, none⟩) (j + 1) c2) (j + 1) (stCells (out.take j) ++ [.int .i64 p, .int .i64 q]) (by rfl) O2h.out ⟨g, j * 2, none⟩ (out.length - j) (c3 - j) (stCells (out.drop j)) (by rfl) (by rw [stCells_length, List.length_drop]) (fun i u hu => below_keep hBh.out (N2.out i u hu)) (fun u hu => stCells_one hu) (by unfold maxLen; omega) (by omega) hBh.out.size ?_; intro v3 w8 own3 gr3 _)
                    have hB8 := hBh.out.grown gr3 hBh.out.size (own_ge O2h.out)
                    have hst8 : stCells (out.take j) ++ [Value.int .i64 p, Value.int .i64 q] ++ stCells (out.drop j) = stCells (out.take j ++ (p, q) :: out.drop j) := by
                      rw [stCells_append, stCells_cons, List.append_assoc]; rfl
                    have hn8 : j + 1 + (out.length - j) = (out.take j ++ (p, q) :: out.drop j).length := by simp; omega
                    rw [hst8, hn8] at own3
                    obtain ⟨A4, c4, rfl, hA4⟩ := own_form own3
                    obtain ⟨g4, rfl⟩ := hA4 (by simp; omega)
                    have O4 := Lib.hid (own_base own3 BV.out.size)
                    have B8 := Lib.hid (below_chain BV.out hB8)
                    clear own3 gr3 hB8 hst8 hn8 hA4 O2h hBh N2 NV OVh
                    go_wp2
                    go_roundw
                    case rel => exact ⟨k + 1, _, g4, c4, by omega, by go_num, rfl, HST.out.symm, O4.out, B8.out⟩
                    case measure => simp [intOf]; omega)
    · have hkn : k = n := by omega
      have hfin : out = minL zs := by
        have h3 := HU.out
        rw [List.take_of_length_le (by rw [HZ.out]; omega)] at h3
        exact h3
      subst hfin
      go_wp2
      go_ret
      exact ⟨_, rfl, HO.out, HB.out⟩
end Go.Proofs.Ytiehpniogehkmaa.hexes
