/-
  The program's SameBag and OfEpoch.
  Stamps as keys of a map: the key's law, and what a stamp reads as.
  Maps from stamps to counts: what a stamp reads as, and how a map reads as a table.
-/
import Derived.Test.YtdmbkjebagnloaaGreatDoorJ37
import Derived.Test.YtdmbkjebagnloaaGreatDoorJ38
import Derived.Test.YtdmbkjebagnloaaGreatDoorJ22
import Derived.Test.YtdmbkjebagnloaaGreatDoorProg
import Derived.WalkKit
import Derived.ProofKit
import Derived.Maps.Own
import Derived.Maps.OwnOps
import Derived.Maps.OwnSet
import Derived.Maps.RangeWalk
import Derived.Lib.SmallJoins
import Derived.ChangeSame
import Derived.OpenShut
import Derived.Test.YtdmbkjebagnloaaGreatDoorCtList
import Derived.Maps.Views
import Derived.WalkArith

namespace Go.Proofs.YtdmbkjebagnloaaGreatDoor.hexes
open Go.RowKit

theorem implOfEp_any (n : Nat) (zs : List Rc) (hz : zs.length = n) (A : Option Addr) (c : Nat) (x : Int) (w : World) (h1 : Rcs w A zs) (hn : n ≤ 1048576) :
    Calls Tryz.prog 21 #[.slice A n c, .int .i64 x] w fun e w' => ∃ v, e = .returned v ∧ w'.ownsRow w.heap.size 32 5 v (ofEpR zs x).length (rcCells (ofEpR zs x)) ∧ Below w.heap.size w w' := by
  have H1 := Lib.hid h1
  have HZ := Lib.hid hz
  clear h1 hz
  go_enter Tryz.func21, Tryz.ntmps21
  go_wp2
  go_loopw [5, 11] (fun v i wr => ∃ (k m : Nat) (out : List Rc), k ≤ n ∧ out.length = m ∧ out = ofEpR (zs.take k) x ∧ i = .int .i64 k ∧ wr.ownsRow w.heap.size 32 5 v m (rcCells out) ∧ Below w.heap.size w wr) (fun _ i _ => n - (intOf i).toNat)
  case atStart => exact ⟨0, 0, [], Nat.zero_le _, rfl, rfl, rfl, World.ownsRow_lit w #[] 0 (Nat.le_refl _) (by decide) rfl, (Below.refl _ _).alloc (Nat.le_refl _) _⟩
  case round =>
    obtain ⟨k, m, out, hk, hml, hout, rfl, hown, hb⟩ := hrel
    have ML := Lib.hid hml
    have HU := Lib.hid hout
    have HO := Lib.hid hown
    have HB := Lib.hid hb
    have hmn : m ≤ n := by
      have := ofEpR_length (zs.take k) x
      rw [← HU.out, ML.out, List.length_take] at this
      omega
    clear hml hout hown hb
    by_cases hlt : k < n
    · have l1 : k < zs.length := by rw [HZ.out]; exact hlt
      obtain ⟨b1, o1, p0, p1, p2, p3, p4, rfl, x1, e0, e1, e2, e3, e4⟩ := (H1.out.below HB.out).at l1
      have i0 : (0 : Int) ≤ (k : Int) := by omega
      have i1 : (k : Int) < (n : Int) := by omega
      have BA := Lib.hid (HB.out.alloc HB.out.size (.cells #[.int .i64 p0, .int .i64 p1, .int .i64 p2, .int .i64 p3, .int .i64 p4] 32))
      have OA := Lib.hid (HO.out.alloc (.cells #[.int .i64 p0, .int .i64 p1, .int .i64 p2, .int .i64 p3, .int .i64 p4] 32))
      have RN := Lib.hid (show Rcs ((wr.alloc (.cells #[.int .i64 p0, .int .i64 p1, .int .i64 p2, .int .i64 p3, .int .i64 p4] 32)).alloc (.cells #[.int .i64 p0, .int .i64 p1, .int .i64 p2, .int .i64 p3, .int .i64 p4] 32)) (some ⟨wr.heap.size + 1, 0, none⟩) [(p0, (p1, p2), p3, p4)] from (show wr.heap.size + 1 = (wr.alloc (.cells #[.int .i64 p0, .int .i64 p1, .int .i64 p2, .int .i64 p3, .int .i64 p4] 32)).heap.size by simp) ▸ rc_new (wr.alloc (.cells #[.int .i64 p0, .int .i64 p1, .int .i64 p2, .int .i64 p3, .int .i64 p4] 32)) p0 p1 p2 p3 p4)
      by_cases he : p1 = x
      · have HS := Lib.hid (show out ++ [(p0, (p1, p2), p3, p4)] = ofEpR (zs.take (k + 1)) x by rw [ofEpR_step l1, ← HU.out, x1]; simp [he])
        have hd : (p1 == x) = true := by simpa using he
        clear x1 l1 HU he
        go_wp2_with (at_builtin; refine wpList_append_rc rfl (.tmp 20) (.tmp 22) (by rfl) w.heap.size _ m out (by rfl) (OA.out.alloc _) (some ⟨wr.heap.size + 1, 0, none⟩) 1 1 [(p0, (p1, p2), p3, p4)] (by rfl) (fun h => by cases h) rfl RN.out (by omega) (Nat.le_trans BA.out.size (by simp)) ?_; intro v8 w8 own8 gr8)
        have hb8 := (BA.out.alloc BA.out.size _).grown gr8 (Nat.le_trans BA.out.size (by simp)) (own_ge HO.out)
        have O8 := Lib.hid own8
        have B8 := Lib.hid hb8
        clear own8 gr8 hb8
        go_wp2
        go_roundw
        case rel => exact ⟨k + 1, m + 1, out ++ [(p0, (p1, p2), p3, p4)], by omega, by simp [ML.out], HS.out, by go_num, O8.out, B8.out⟩
        case measure => simp [intOf]; omega
      · have HS := Lib.hid (show out = ofEpR (zs.take (k + 1)) x by rw [ofEpR_step l1, ← HU.out, x1]; simp [he])
        have hd : (p1 == x) = false := by simpa using he
        clear x1 l1 HU he
        go_wp2
        go_roundw
        case rel => exact ⟨k + 1, m, out, by omega, ML.out, HS.out, by go_num, OA.out, BA.out⟩
        case measure => simp [intOf]; omega
    · have hfin : out = ofEpR zs x := by
        have h3 := HU.out
        rw [List.take_of_length_le (by rw [HZ.out]; omega)] at h3
        exact h3
      subst hfin
      have ML2 := ML.out
      subst ML2
      go_wp2
      go_ret
      exact ⟨_, rfl, HO.out, HB.out⟩

theorem implBag_any (n m : Nat) (zs ys : List Rc) (hz : zs.length = n) (hy : ys.length = m) (A1 A2 : Option Addr) (c1 c2 : Nat) (hA1 : A1 = none → c1 = 0) (hA2 : A2 = none → c2 = 0) (w : World) (h1 : Rcs w A1 zs) (h2 : Rcs w A2 ys) (hn : n ≤ 4194304) (hm : m ≤ 4194304) :
    Calls Tryz.prog 9 #[.slice A1 n c1, .slice A2 m c2] w fun e w' => e = .returned (.bool (bagR zs ys)) ∧ Below w.heap.size w w' := by
  have S1 := Lib.hid (implSortRc_any n zs hz A1 c1 hA1 w h1 hn)
  have S2 := Lib.hid (fun w' (hb : Below w.heap.size w w') => implSortRc_any m ys hy A2 c2 hA2 w' (h2.below hb) hm)
  obtain ⟨us, hus⟩ : ∃ us, sortR zs = us := ⟨_, rfl⟩
  obtain ⟨vs, hvs⟩ : ∃ vs, sortR ys = vs := ⟨_, rfl⟩
  rw [show bagR zs ys = decide (us = vs) by unfold bagR; rw [hus, hvs]]
  rw [hus] at S1
  rw [hvs] at S2
  obtain ⟨r, hr⟩ : ∃ r, r = decide (us = vs) := ⟨_, rfl⟩
  rw [← hr]
  have HR := Lib.hid hr
  clear h1 h2 hz hy hus hvs hr
  go_enter Tryz.func9, Tryz.ntmps9
  go_wp2_with fail
  refine S1.out.mono ?_
  rintro e w1 ⟨v1, rfl, own1, hb1⟩
  obtain ⟨a1, d1, rfl, l1, t1⟩ := Rcs.of_own own1
  have L1 := Lib.hid l1
  have T1 := Lib.hid t1
  have B1 := Lib.hid hb1
  clear own1 hb1 l1 t1 S1
  go_wp2_with fail
  refine (S2.out _ B1.out).mono ?_
  rintro e w2 ⟨v2, rfl, own2, hb2⟩
  obtain ⟨a2, d2, rfl, l2, t2⟩ := Rcs.of_own own2
  have L2 := Lib.hid l2
  have T2 := Lib.hid t2
  have T1b := Lib.hid (T1.out.below hb2)
  have B2 := Lib.hid (below_chain B1.out hb2)
  clear own2 hb2 l2 t2 S2 T1 B1
  go_wp2_with fail
  refine (rcEqual_any n m us vs L1.out L2.out a1 a2 d1 d2 w2 T1b.out T2.out hn).mono ?_
  rintro e w3 ⟨rfl, hb3⟩
  rw [← HR.out]
  have B3 := Lib.hid (below_chain B2.out hb3)
  clear hb3 B2
  go_wp2
  go_ret
  exact ⟨rfl, B3.out⟩
end Go.Proofs.YtdmbkjebagnloaaGreatDoor.hexes

namespace Go.Proofs.YtdmbkjebagnloaaGreatDoor.hexes
open Go.RowKit Go.ChangeShapes Go.WideShapes Go.Joins Go.Maps

theorem stLaidOut : laidOutB Tryz.prog = true := by kernel_rfl
theorem stRow : (30 : TypeId) < Tryz.prog.types.size := of_decide_eq_true (by kernel_rfl)
theorem stDeep : Tryz.prog.keyTypeAt (Tryz.prog.types.size + 1) 30 = true := by kernel_rfl
theorem stWide : (match Tryz.prog.underlying 30 with | some (.array _ _) | some (.struct _) => true | _ => false) = true := by kernel_rfl
set_option maxRecDepth 1000000 in
theorem stKeyed : Keyed Tryz.prog 30 := Keyed.of_law (deep_law_laid stLaidOut (m := 2) (by omega) stRow (by kernel_rfl) stWide)
theorem stCells2 : Tryz.prog.cellsOf 30 = 2 := by kernel_rfl
theorem stFormed (x y : Value) : (Value.agg #[x, y]).formed Tryz.prog 30 = true := by
  have hu := Tryz.underlying30
  simp [Value.formed, hu, stCells2]

/-- What a stamp reads as, as a key. -/
def stKey (x y : Int) : Lit := (DataW.agg (H := Unit) [.lit (.int .i64 x), .lit (.int .i64 y)]).asKey

set_option maxRecDepth 1000000 in
theorem stKey_of {x y : Int} (hx : (Lit.int .i64 x).wf = true) (hy : (Lit.int .i64 y).wf = true) : keyOf Tryz.prog 30 (.agg #[.int .i64 x, .int .i64 y]) = some (stKey x y) :=
  (keyOf_asKey (H := Unit) (enc := fun _ => ()) (w := (World.settled Tryz.prog default)) (base := 0) (sp := fun _ => true) (held := true) stDeep stWide (stFormed _ _) (shut_agg2 (y0 := (.lit (.int .i64 x), [])) (y1 := (.lit (.int .i64 y), [])) Tryz.underlying30 (by kernel_rfl) stCells2 ⟨1, trod_int_mk 0 Tryz.underlying3 hx⟩ ⟨1, trod_int_mk 0 Tryz.underlying3 hy⟩)).1
end Go.Proofs.YtdmbkjebagnloaaGreatDoor.hexes

namespace Go.Proofs.YtdmbkjebagnloaaGreatDoor.hexes
open Go.RowKit Go.Maps

theorem keyLits_int {P : Program} {t : TypeId} (ht : P.underlying t = some (.int .i64)) {d : Nat} {v : Value} {ls : List Lit} (h : P.keyLits (d + 1) t [v] = some ls) : ∃ x, v = .int .i64 x ∧ (Lit.int .i64 x).wf = true := by
  unfold Program.keyLits at h
  rw [ht] at h
  cases v <;> simp at h
  rename_i q x
  obtain ⟨⟨rfl, hw⟩, _⟩ := h
  exact ⟨x, rfl, hw⟩

set_option maxRecDepth 1000000 in
theorem stKey_inv {key : Value} {kl : Lit} (h : keyOf Tryz.prog 30 key = some kl) : ∃ x y, key = .agg #[.int .i64 x, .int .i64 y] ∧ kl = stKey x y ∧ (Lit.int .i64 x).wf = true ∧ (Lit.int .i64 y).wf = true := by
  have h0 := h
  have hu := Tryz.underlying30
  have hc1 : Tryz.prog.cellsOf 3 = 1 := by kernel_rfl
  obtain ⟨m, hm⟩ : ∃ m, Tryz.prog.types.size = m + 1 := ⟨Tryz.prog.types.size - 1, (Nat.succ_pred_eq_of_pos (Nat.lt_of_le_of_lt (Nat.zero_le _) stRow)).symm⟩
  unfold keyOf at h
  rw [hu] at h
  dsimp only at h
  split at h
  · rename_i hf
    rw [Bool.and_eq_true] at hf
    obtain ⟨_, hf⟩ := hf
    cases key <;> simp [Value.formed, hu, stCells2] at hf
    rename_i cs
    obtain ⟨a, b, rfl⟩ : ∃ a b, cs = #[a, b] := by
      rcases cs with ⟨l⟩
      match l, hf with
      | [a, b], _ => exact ⟨a, b, rfl⟩
    rw [hm] at h
    unfold Program.keyLits at h
    rw [hu] at h
    simp [Value.cells, stCells2, hc1] at h
    cases h1 : Tryz.prog.keyLits (m + 1) 3 [a] with
    | none => rw [h1] at h; cases h
    | some l1 =>
    cases h2 : Tryz.prog.keyLits (m + 1) 3 [b] with
    | none => rw [h1, h2] at h; cases h
    | some l2 =>
    obtain ⟨x, rfl, hx⟩ := keyLits_int Tryz.underlying3 h1
    obtain ⟨y, rfl, hy⟩ := keyLits_int Tryz.underlying3 h2
    refine ⟨x, y, rfl, ?_, hx, hy⟩
    have := stKey_of hx hy
    rw [h0] at this
    exact Option.some.inj this
  · cases h

theorem stKey_lit {x y : Int} (hx : (Lit.int .i64 x).wf = true) (hy : (Lit.int .i64 y).wf = true) : WideAt.IsKeyLit (stKey x y) := stKeyed.key (stKey_of hx hy)
theorem stKey_inj {x y u v : Int} (hx : (Lit.int .i64 x).wf = true) (hy : (Lit.int .i64 y).wf = true) (hu : (Lit.int .i64 u).wf = true) (hv : (Lit.int .i64 v).wf = true) (h : stKey x y = stKey u v) : x = u ∧ y = v := by
  have h1 := stKey_of hx hy
  rw [h] at h1
  have := stKeyed.inj h1 (stKey_of hu hv)
  simpa using this

/-- A 64-bit number, and a stamp of such. -/
def wfSt (s : Int × Int) : Prop := (Lit.int .i64 s.1).wf = true ∧ (Lit.int .i64 s.2).wf = true
theorem wf_small {x : Int} (h : -1000000000 ≤ x ∧ x ≤ 1000000000) : (Lit.int .i64 x).wf = true := by
  exact WalkArith.wf_i64 (by omega)
theorem wfSt_ok {x y : Int} (h : okSt x y = true) : wfSt (x, y) := by
  unfold okSt at h
  rw [decide_eq_true_eq] at h
  exact ⟨wf_small (by omega), wf_small (by omega)⟩

/-- A map reads as a table: at every stamp its count, and no entry elsewhere. -/
structure MapOf (D : DataW Unit) (zs : List Ct) : Prop where
  map : IsMap D
  cnt : ∀ s, wfSt s → D.atKey (stKey s.1 s.2) (.lit (.int .i64 0)) = .lit (.int .i64 (countAt zs s))
  has : ∀ s, wfSt s → (Maps.has D (stKey s.1 s.2) = true ↔ countAt zs s ≠ 0)

theorem MapOf.nil : MapOf (.map []) [] := ⟨⟨_, rfl⟩, fun _ _ => rfl, fun _ _ => by simp [Maps.has, countAt]⟩
theorem MapOf.put {D : DataW Unit} {zs us : List Ct} (h : MapOf D zs) {s : Int × Int} {n : Int} (hs : wfSt s) (hn : n ≠ 0) (hu : ∀ t, countAt us t = if t = s then n else countAt zs t) : MapOf (D.put (stKey s.1 s.2) (.lit (.int .i64 n))) us where
  map := by obtain ⟨es, rfl⟩ := h.map; exact ⟨_, rfl⟩
  cnt t ht := by
    by_cases e : t = s
    · subst e
      rw [atKey_put_same h.map (stKey_lit hs.1 hs.2), hu, if_pos rfl]
    · have hne : stKey t.1 t.2 ≠ stKey s.1 s.2 := fun h' => e (Prod.ext (stKey_inj ht.1 ht.2 hs.1 hs.2 h').1 (stKey_inj ht.1 ht.2 hs.1 hs.2 h').2)
      rw [atKey_put_other hne, hu, if_neg e]
      exact h.cnt t ht
  has t ht := by
    by_cases e : t = s
    · subst e
      rw [has_put_same h.map (stKey_lit hs.1 hs.2), hu, if_pos rfl]
      simpa using hn
    · have hne : stKey t.1 t.2 ≠ stKey s.1 s.2 := fun h' => e (Prod.ext (stKey_inj ht.1 ht.2 hs.1 hs.2 h').1 (stKey_inj ht.1 ht.2 hs.1 hs.2 h').2)
      rw [has_put_other hne, hu, if_neg e]
      exact h.has t ht
theorem MapOf.del {D : DataW Unit} {zs us : List Ct} (h : MapOf D zs) {s : Int × Int} (hs : wfSt s) (hu : ∀ t, countAt us t = if t = s then 0 else countAt zs t) : MapOf (D.del (stKey s.1 s.2)) us where
  map := by obtain ⟨es, rfl⟩ := h.map; exact ⟨_, rfl⟩
  cnt t ht := by
    by_cases e : t = s
    · subst e
      rw [atKey_del_same, hu, if_pos rfl]
    · have hne : stKey t.1 t.2 ≠ stKey s.1 s.2 := fun h' => e (Prod.ext (stKey_inj ht.1 ht.2 hs.1 hs.2 h').1 (stKey_inj ht.1 ht.2 hs.1 hs.2 h').2)
      rw [atKey_del_other hne, hu, if_neg e]
      exact h.cnt t ht
  has t ht := by
    by_cases e : t = s
    · subst e
      rw [has_del_same, hu, if_pos rfl]
      simp
    · have hne : stKey t.1 t.2 ≠ stKey s.1 s.2 := fun h' => e (Prod.ext (stKey_inj ht.1 ht.2 hs.1 hs.2 h').1 (stKey_inj ht.1 ht.2 hs.1 hs.2 h').2)
      rw [has_del_other hne, hu, if_neg e]
      exact h.has t ht

/-- The stamps that a range over the map has met: none twice; a stamp is among them just where the map has it and it is no longer to come. -/
structure Met (D : DataW Unit) (left : Lit → Bool) (ss : List (Int × Int)) : Prop where
  nodup : ss.Nodup
  wf : ∀ s ∈ ss, wfSt s
  iff : ∀ s, wfSt s → (s ∈ ss ↔ (Maps.has D (stKey s.1 s.2) = true ∧ left (stKey s.1 s.2) = false))
theorem Met.start (D : DataW Unit) : Met D (Maps.has D) [] := ⟨List.nodup_nil, fun _ h => by simp at h, fun s _ => by cases Maps.has D (stKey s.1 s.2) <;> simp⟩
theorem Met.step {D : DataW Unit} {left : Lit → Bool} {ss : List (Int × Int)} (h : Met D left ss) {x y : Int} {d : DataW Unit} (hs : wfSt (x, y)) (hlk : left (stKey x y) = true) (hat : ∀ zd, D.atKey (stKey x y) zd = d) : Met D (fun z => left z && !z.sameKey (stKey x y)) (ss ++ [(x, y)]) where
  nodup := by
    have hnew : (x, y) ∉ ss := fun hx => by have := ((h.iff _ hs).1 hx).2; rw [hlk] at this; cases this
    exact List.nodup_append.2 ⟨h.nodup, by simp, fun a ha b hb => by simp at hb; subst hb; exact fun e => hnew (e ▸ ha)⟩
  wf s hm := by
    rcases List.mem_append.1 hm with h' | h'
    · exact h.wf s h'
    · simp at h'; subst h'; exact hs
  iff s hw := by
    have hhas : Maps.has D (stKey x y) = true := has_true_of_atKey hat
    by_cases e : s = (x, y)
    · subst e
      simp [hhas, WideAt.sameKey_self (stKey_lit hs.1 hs.2)]
    · have hne : (stKey s.1 s.2).sameKey (stKey x y) = false := by
        rw [← Bool.not_eq_true]
        intro h'
        have := stKey_inj hw.1 hw.2 hs.1 hs.2 (WideAt.sameKey_eq h')
        exact e (Prod.ext this.1 this.2)
      simp [h.iff s hw, e, hne]
/-- At the end. -/
theorem Met.all {D : DataW Unit} {left : Lit → Bool} {ss : List (Int × Int)} (h : Met D left ss) (hl : ∀ kl, left kl = false) (s : Int × Int) (hs : wfSt s) : s ∈ ss ↔ Maps.has D (stKey s.1 s.2) = true := by
  rw [h.iff s hs, hl]; simp
end Go.Proofs.YtdmbkjebagnloaaGreatDoor.hexes

