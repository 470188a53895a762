/-
  Chapter 4's functions on count tables, in the words that the drawn law goes by; the program's contracts as one bundle.
-/
import Derived.Test.YtiehpniogehkmaaDrawAdj
import Derived.Test.YtiehpniogehkmaaCtCame
import Derived.Test.YtiehpniogehkmaaCame
import Derived.Test.YtiehpniogehkmaaSpecFront
namespace Go.Proofs.Ytiehpniogehkmaa.hexes
open Go.RowKit

/-- A count table, not long. -/
structure Tab (w : World) (A : Option Addr) (n c : Nat) (zs : List Ct) : Prop where
  few : n ≤ 1000
  len : zs.length = n
  nil : A = none → c = 0
  cts : Cts w A zs
theorem Tab.below {w w' : World} {A : Option Addr} {n c : Nat} {zs : List Ct} (h : Tab w A n c zs) (hb : Below w.heap.size w w') : Tab w' A n c zs := ⟨h.few, h.len, h.nil, h.cts.below hb⟩
theorem Tab.drew {w : World} {A : Option Addr} {n c : Nat} {zs : List Ct} (h : Tab w A n c zs) : Tab w.drew A n c zs := ⟨h.few, h.len, h.nil, h.cts⟩
theorem DrawnCt.tab {w : World} {A : Option Addr} {n c : Nat} {zs : List Ct} (h : DrawnCt w A n c zs) : Tab w A n c zs := ⟨by have := h.few; omega, h.len, h.nil, h.cts⟩
theorem Tab.of_own {w : World} {B n : Nat} {v : Value} {zs : List Ct} (h : w.ownsRow B 62 3 v n (ctCells zs)) (hn : n ≤ 1000) : ∃ A n' c, v = .slice A n' c ∧ Tab w A n' c zs := by
  obtain ⟨A, c, rfl, hl, hs⟩ := Cts.of_own h
  exact ⟨A, n, c, rfl, hn, hl, own_nil h, hs⟩
theorem tab_nil (w : World) : Tab w none 0 0 [] := ⟨by omega, rfl, fun _ => rfl, fun h => absurd h (by simp)⟩

/-- What the law asks of the program's own functions. -/
structure ImplCt : Prop where
  adj : ∀ (W : World) (A : Option Addr) (n c : Nat) (zs : List Ct) (x y nn : Int), (Lit.int .i64 nn).wf = true → Tab W A n c zs → Calls Try.prog 13 #[.slice A n c, .agg #[.int .i64 x, .int .i64 y], .int .i64 nn] W (AdjEnd W zs (x, y) nn)
  add : ∀ (W : World) (A : Option Addr) (n c : Nat) (zs : List Ct) (A' : Option Addr) (n' c' : Nat) (ys : List Ct), Tab W A n c zs → Tab W A' n' c' ys → Calls Try.prog 19 #[.slice A n c, .slice A' n' c'] W (AddEnd W zs ys)
  ok : ∀ (W : World) (A : Option Addr) (n c : Nat) (zs : List Ct), Tab W A n c zs → Calls Try.prog 16 #[.slice A n c] W fun e w' => e = .returned (.bool (okCts zs)) ∧ Below W.heap.size W w'
  cnt : ∀ (W : World) (A : Option Addr) (n c : Nat) (zs : List Ct) (x y : Int), Tab W A n c zs → Calls Try.prog 29 #[.slice A n c, .agg #[.int .i64 x, .int .i64 y]] W fun e w' => e = .returned (.int .i64 (countAt zs (x, y))) ∧ Below W.heap.size W w'
  total : ∀ (W : World) (A : Option Addr) (n c : Nat) (zs : List Ct), Tab W A n c zs → Calls Try.prog 27 #[.slice A n c] W fun e w' => e = .returned (.int .i64 (totalL zs)) ∧ Below W.heap.size W w'
  epoch : ∀ (W : World) (A : Option Addr) (n c : Nat) (zs : List Ct) (x : Int), Tab W A n c zs → Calls Try.prog 25 #[.slice A n c, .int .i64 x] W fun e w' => e = .returned (.int .i64 (epochL zs x)) ∧ Below W.heap.size W w'
  front : ∀ (W : World) (A : Option Addr) (n c : Nat) (zs : List Ct), Tab W A n c zs → Calls Try.prog 22 #[.slice A n c] W fun e w' => ∃ v, e = .returned v ∧ w'.ownsRow W.heap.size 26 2 v (minL (posL zs)).length (stCells (minL (posL zs))) ∧ Below W.heap.size W w'

/-- How a function ends whose answer is a table and a bool. -/
def TabEnd (w : World) (us : List Ct) (r : Bool) (e : Ending) (w' : World) : Prop := ∃ A n c, e = .returned (.tuple #[.slice A n c, .bool r]) ∧ Tab w' A n c us ∧ Below w.heap.size w w'
theorem tabEnd_adj {w : World} {zs us : List Ct} {s : Int × Int} {nn : Int} {r : Bool} {n : Nat} (hl : zs.length = n) (hn : n ≤ 900) (hu : adjL zs s nn = us) (hr : adjOk zs s nn = r) {e : Ending} {w' : World} (h : AdjEnd w zs s nn e w') : TabEnd w us r e w' := by
  subst hu hr
  obtain ⟨v, rfl, ho, hb⟩ := h
  obtain ⟨A, n', c, rfl, ht⟩ := Tab.of_own ho (by have := adjL_len zs s nn; omega)
  exact ⟨A, n', c, rfl, ht, hb⟩
theorem tabEnd_add {w : World} {zs ys us : List Ct} {r : Bool} (hn : zs.length + ys.length ≤ 900) (hu : sumsL zs ys = us) (hr : addOk zs ys = r) {e : Ending} {w' : World} (h : AddEnd w zs ys e w') : TabEnd w us r e w' := by
  subst hu hr
  obtain ⟨v, rfl, ho, hb⟩ := h
  obtain ⟨A, n', c, rfl, ht⟩ := Tab.of_own ho (by have := sumsL_len zs ys; omega)
  exact ⟨A, n', c, rfl, ht, hb⟩

/-- How a function ends whose answer is b, or the number v. -/
def BoolEnd (w : World) (b : Bool) (e : Ending) (w' : World) : Prop := e = .returned (.bool b) ∧ Below w.heap.size w w'
def IntEnd (w : World) (v : Int) (e : Ending) (w' : World) : Prop := e = .returned (.int .i64 v) ∧ Below w.heap.size w w'
theorem same_tab {w : World} {A A' : Option Addr} {n c n' c' : Nat} {zs ys : List Ct} {b : Bool} (h : Tab w A n c zs) (h' : Tab w A' n' c' ys) (hb : decide (zs = ys) = b) : Calls Try.prog 15 #[.slice A n c, .slice A' n' c'] w (BoolEnd w b) := by
  subst hb
  exact sameCts_any n n' zs ys h.len h'.len A A' c c' w h.cts h'.cts (by have := h.few; omega)
theorem specAdj_tab {w : World} {A : Option Addr} {n c : Nat} {zs us : List Ct} {x y nn : Int} {r : Bool} (h : Tab w A n c zs) (hn : n ≤ 900) (hu : adjL zs (x, y) nn = us) (hr : adjOk zs (x, y) nn = r) : Calls Try.prog 14 #[.slice A n c, .agg #[.int .i64 x, .int .i64 y], .int .i64 nn] w (TabEnd w us r) :=
  (specAdj_any n zs h.len A c h.nil x y nn w h.cts (by omega)).mono fun _ _ he => tabEnd_adj h.len hn hu hr he
theorem implAdj_tab (I : ImplCt) {w : World} {A : Option Addr} {n c : Nat} {zs us : List Ct} {x y nn : Int} {r : Bool} (h : Tab w A n c zs) (hn : n ≤ 900) (hu : adjL zs (x, y) nn = us) (hr : adjOk zs (x, y) nn = r) (hw : (Lit.int .i64 nn).wf = true) : Calls Try.prog 13 #[.slice A n c, .agg #[.int .i64 x, .int .i64 y], .int .i64 nn] w (TabEnd w us r) :=
  (I.adj w A n c zs x y nn hw h).mono fun _ _ he => tabEnd_adj h.len hn hu hr he
theorem specAdd_tab {w : World} {A A' : Option Addr} {n c n' c' : Nat} {zs ys us : List Ct} {r : Bool} (h : Tab w A n c zs) (h' : Tab w A' n' c' ys) (hn : n + n' ≤ 900) (hu : sumsL zs ys = us) (hr : addOk zs ys = r) : Calls Try.prog 20 #[.slice A n c, .slice A' n' c'] w (TabEnd w us r) :=
  (specAdd_any n n' zs ys h.len h'.len A A' c c' h.nil w h.cts h'.cts (by omega)).mono fun _ _ he => tabEnd_add (by have := h.len; have := h'.len; omega) hu hr he
theorem implAdd_tab (I : ImplCt) {w : World} {A A' : Option Addr} {n c n' c' : Nat} {zs ys us : List Ct} {r : Bool} (h : Tab w A n c zs) (h' : Tab w A' n' c' ys) (hn : n + n' ≤ 900) (hu : sumsL zs ys = us) (hr : addOk zs ys = r) : Calls Try.prog 19 #[.slice A n c, .slice A' n' c'] w (TabEnd w us r) :=
  (I.add w A n c zs A' n' c' ys h h').mono fun _ _ he => tabEnd_add (by have := h.len; have := h'.len; omega) hu hr he
theorem specOk_tab {w : World} {A : Option Addr} {n c : Nat} {zs : List Ct} {r : Bool} (h : Tab w A n c zs) (hr : okCts zs = r) : Calls Try.prog 17 #[.slice A n c] w (BoolEnd w r) := by
  subst hr; exact specCtOk_any n zs h.len A c w h.cts (by have := h.few; omega)
theorem implOk_tab (I : ImplCt) {w : World} {A : Option Addr} {n c : Nat} {zs : List Ct} {r : Bool} (h : Tab w A n c zs) (hr : okCts zs = r) : Calls Try.prog 16 #[.slice A n c] w (BoolEnd w r) := by
  subst hr; exact I.ok w A n c zs h
theorem specCnt_tab {w : World} {A : Option Addr} {n c : Nat} {zs : List Ct} {x y v : Int} (h : Tab w A n c zs) (hv : countAt zs (x, y) = v) : Calls Try.prog 30 #[.slice A n c, .agg #[.int .i64 x, .int .i64 y]] w (IntEnd w v) := by
  subst hv; exact specCountAt_any n zs h.len A c x y w h.cts (by have := h.few; omega)
theorem implCnt_tab (I : ImplCt) {w : World} {A : Option Addr} {n c : Nat} {zs : List Ct} {x y v : Int} (h : Tab w A n c zs) (hv : countAt zs (x, y) = v) : Calls Try.prog 29 #[.slice A n c, .agg #[.int .i64 x, .int .i64 y]] w (IntEnd w v) := by
  subst hv; exact I.cnt w A n c zs x y h
theorem specTotal_tab {w : World} {A : Option Addr} {n c : Nat} {zs : List Ct} {v : Int} (h : Tab w A n c zs) (hv : totalL zs = v) : Calls Try.prog 28 #[.slice A n c] w (IntEnd w v) := by
  subst hv
  refine (specTotal_any n zs h.len A c w h.cts (by have := h.few; omega)).mono ?_
  rintro e w' ⟨rfl, rfl⟩
  exact ⟨rfl, Below.refl _ _⟩
theorem implTotal_tab (I : ImplCt) {w : World} {A : Option Addr} {n c : Nat} {zs : List Ct} {v : Int} (h : Tab w A n c zs) (hv : totalL zs = v) : Calls Try.prog 27 #[.slice A n c] w (IntEnd w v) := by
  subst hv; exact I.total w A n c zs h
theorem specEpoch_tab {w : World} {A : Option Addr} {n c : Nat} {zs : List Ct} {x v : Int} (h : Tab w A n c zs) (hv : epochL zs x = v) : Calls Try.prog 26 #[.slice A n c, .int .i64 x] w (IntEnd w v) := by
  subst hv
  refine (specEpoch_any n zs h.len A c x w h.cts (by have := h.few; omega)).mono ?_
  rintro e w' ⟨rfl, rfl⟩
  exact ⟨rfl, Below.refl _ _⟩
theorem implEpoch_tab (I : ImplCt) {w : World} {A : Option Addr} {n c : Nat} {zs : List Ct} {x v : Int} (h : Tab w A n c zs) (hv : epochL zs x = v) : Calls Try.prog 25 #[.slice A n c, .int .i64 x] w (IntEnd w v) := by
  subst hv; exact I.epoch w A n c zs x h

/-- A list of stamps that a function hands out. -/
structure Fr (w : World) (A : Option Addr) (n : Nat) (zs : List (Int × Int)) : Prop where
  few : n ≤ 1000
  len : zs.length = n
  sts : Sts w A zs
theorem Fr.below {w w' : World} {A : Option Addr} {n : Nat} {zs : List (Int × Int)} (h : Fr w A n zs) (hb : Below w.heap.size w w') : Fr w' A n zs := ⟨h.few, h.len, h.sts.below hb⟩
def FrEnd (w : World) (us : List (Int × Int)) (e : Ending) (w' : World) : Prop := ∃ A n c, e = .returned (.slice A n c) ∧ Fr w' A n us ∧ Below w.heap.size w w'
theorem frEnd {w : World} {zs : List Ct} {us : List (Int × Int)} {n : Nat} (hl : zs.length = n) (hn : n ≤ 1000) (hu : minL (posL zs) = us) {e : Ending} {w' : World} (h : ∃ v, e = .returned v ∧ w'.ownsRow w.heap.size 26 2 v (minL (posL zs)).length (stCells (minL (posL zs))) ∧ Below w.heap.size w w') : FrEnd w us e w' := by
  subst hu
  obtain ⟨v, rfl, ho, hb⟩ := h
  obtain ⟨A, c, rfl, hl2, hs⟩ := Sts.of_own ho
  have hq := fold_length (posL zs) (posL zs) []
  rw [List.length_nil] at hq
  have hp := posL_length zs
  exact ⟨A, _, c, rfl, ⟨by unfold minL; omega, rfl, hs⟩, hb⟩
theorem specFront_tab {w : World} {A : Option Addr} {n c : Nat} {zs : List Ct} {us : List (Int × Int)} (h : Tab w A n c zs) (hu : minL (posL zs) = us) : Calls Try.prog 24 #[.slice A n c] w (FrEnd w us) :=
  (specFront_any n zs h.len A c w h.cts (by have := h.few; omega)).mono fun _ _ he => frEnd h.len h.few hu he
theorem implFront_tab (I : ImplCt) {w : World} {A : Option Addr} {n c : Nat} {zs : List Ct} {us : List (Int × Int)} (h : Tab w A n c zs) (hu : minL (posL zs) = us) : Calls Try.prog 22 #[.slice A n c] w (FrEnd w us) :=
  (I.front w A n c zs h).mono fun _ _ he => frEnd h.len h.few hu he
theorem same_fr {w : World} {A A' : Option Addr} {n c n' c' : Nat} {zs : List (Int × Int)} (h : Fr w A n zs) (h' : Fr w A' n' zs) : Calls Try.prog 23 #[.slice A n c, .slice A' n' c'] w (BoolEnd w true) := by
  have := sameStamps_any n n' zs zs h.len h'.len A A' c c' w h.sts h'.sts (by have := h.few; omega)
  rw [decide_eq_true (rfl : zs = zs)] at this
  exact this

theorem sumL_bd : ∀ (zs : List Ct), (∀ z ∈ zs, -1000000 ≤ z.2 ∧ z.2 ≤ 1000000) → -(1000000 * (zs.length : Int)) ≤ sumL zs ∧ sumL zs ≤ 1000000 * (zs.length : Int)
  | [], _ => by simp [sumL]
  | z :: zs, h => by
    have h1 := h z List.mem_cons_self
    have h2 := sumL_bd zs fun y hy => h y (List.mem_cons_of_mem _ hy)
    rw [sumL_cons]
    simp only [List.length_cons, Int.natCast_add, Int.natCast_one]
    omega
/-- What the law asks of the numbers where Adjust takes n. -/
structure AdjFacts (zs : List Ct) (s : Int × Int) (nn cv tv : Int) : Prop where
  n1 : -2000000 ≤ nn
  n2 : nn ≤ 2000000
  c0 : countAt zs s = cv
  c1 : countAt (adjL zs s nn) s = cv + nn
  c2 : -1000000 ≤ cv
  c3 : cv ≤ 1000000
  t0 : totalL zs = tv
  t1 : totalL (adjL zs s nn) = tv + nn
  t2 : -1000000000 ≤ tv
  t3 : tv ≤ 1000000000
theorem adjFacts {zs : List Ct} {s : Int × Int} {nn : Int} (hl : zs.length ≤ 900) (h : adjOk zs s nn = true) : ∃ cv tv, AdjFacts zs s nn cv tv := by
  obtain ⟨hT, hs, hv⟩ := (adjOk_iff zs s nn).1 h
  have hb := countAt_bd hT s
  have hsb := sumL_bd zs fun z hz => (hT.ent z hz).2.1
  have hle := adjL_len zs s nn
  refine ⟨countAt zs s, sumL zs, by omega, by omega, rfl, by rw [countAt_adjL h, if_pos rfl], hb.1, hb.2, totalL_table hT (by omega), ?_, by omega, by omega⟩
  rw [totalL_table (table_adjL h) (by omega), sumL_adjL h]
theorem table_addL : ∀ (b a : List Ct), Table a → Table (addL a b).1
  | [], a, h => by simpa [addL] using h
  | z :: b, a, h => by
    unfold addL
    split
    · rename_i hk; exact table_addL b _ (table_adjL hk)
    · exact h
structure AddFacts (zs ys : List Ct) (ta tb : Int) : Prop where
  a0 : totalL zs = ta
  b0 : totalL ys = tb
  s0 : totalL (sumsL zs ys) = ta + tb
  a1 : -1000000000 ≤ ta
  a2 : ta ≤ 1000000000
  b1 : -1000000000 ≤ tb
  b2 : tb ≤ 1000000000
theorem addFacts {zs ys : List Ct} (h1 : zs.length ≤ 900) (h2 : ys.length ≤ 900) (h : addOk zs ys = true) : ∃ ta tb, AddFacts zs ys ta tb := by
  have h0 := h
  unfold addOk at h
  simp only [Bool.and_eq_true] at h
  obtain ⟨⟨ha, hb⟩, hs⟩ := h
  have hT := okCts_table ha
  have hU := okCts_table hb
  have q1 := sumL_bd zs fun z hz => (hT.ent z hz).2.1
  have q2 := sumL_bd ys fun z hz => (hU.ent z hz).2.1
  have hle := sumsL_len zs ys
  have e : sumsL zs ys = (addL zs ys).1 := by unfold sumsL; rw [if_pos h0]
  refine ⟨sumL zs, sumL ys, totalL_table hT (by omega), totalL_table hU (by omega), ?_, by omega, by omega, by omega, by omega⟩
  rw [totalL_table (by rw [e]; exact table_addL ys zs hT) (by omega), e, sumL_addL zs ys hs]
end Go.Proofs.Ytiehpniogehkmaa.hexes
