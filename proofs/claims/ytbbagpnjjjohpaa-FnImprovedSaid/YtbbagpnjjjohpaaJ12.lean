/-
  A list of cells that the call owns, from some place of its block on.
  A drawn region walked operation by operation: a step as one word, so that a region's text stays short.
  A statement of spec.CellOrder: its operations, and a theorem a step.
-/
import Derived.Test.YtbbagpnjjjohpaaJ11
import Derived.Test.YtbbagpnjjjohpaaJ10
import Derived.Test.YtbbagpnjjjohpaaProg
import Derived.WalkKit
import Derived.Deep.RegionHeld3

namespace Go.Proofs.Ytbbagpnjjjohpaa.hexes
open Go.RowKit

def Wce (w : World) (lo hi : Nat) (A : Option Addr) (n c : Nat) (zs : List Ce) : Prop := zs.length = n ∧ WinV w lo hi 38 4 A n c (ceCells zs)

section
variable {w w' : World} {lo hi n c : Nat} {A : Option Addr} {zs : List Ce}
theorem Wce.of_row (h : Row w lo hi 38 4 A n c (ceCells zs)) : Wce w lo hi A n c zs := ⟨by have := h.own.1; rw [ceCells_length] at this; omega, .of_row h⟩
theorem Wce.below (h : Wce w lo hi A n c zs) (hb : Below w.heap.size w w') : Wce w' lo hi A n c zs := ⟨h.1, h.2.below hb⟩
theorem Wce.bounds {lo' hi' : Nat} (h : Wce w lo hi A n c zs) (h1 : lo' ≤ lo) (h2 : hi ≤ hi') : Wce w lo' hi' A n c zs := ⟨h.1, h.2.bounds h1 h2⟩
theorem Wce.wrote {lo' hi' : Nat} (h : Wce w lo hi A n c zs) (hw : Wrote w w' lo' hi') (hd : hi ≤ lo' ∨ hi' ≤ lo) : Wce w' lo hi A n c zs := ⟨h.1, h.2.wrote hw hd⟩
theorem Wce.nil (h : Wce w lo hi A n c zs) : A = none → c = 0 := h.2.nil
theorem Wce.cap (h : Wce w lo hi A n c zs) : n ≤ c := h.2.cap
theorem Wce.ce (h : Wce w lo hi A n c zs) : Ces w A zs := fun hp => by
  obtain ⟨g, o, hA, hlt, hc⟩ := h.2.cells (by have := h.1; omega)
  refine ⟨g, o, hA, hlt, fun j hj => ?_⟩
  obtain ⟨e0, e1, e2, e3⟩ := ceCells_at zs j hj
  exact ⟨hc _ _ e0, hc _ _ e1, hc _ _ e2, hc _ _ e3⟩
end

theorem wp_append_wce {w : World} {o : Oper} {a : Act} {K : Act → World → Prop} {Q : Exit → Act → World → Prop} (s x : Operand)
    (ho : o.op = .call { callee := .builtin .append, args := #[s, x], argTypes := #[30, 30] })
    {lo hi n c : Nat} {A : Option Addr} {zs : List Ce} (hs : a.eval s = .slice A n c) (hw : Wce w lo hi A n c zs)
    (A' : Option Addr) (m c' : Nat) (ys : List Ce) (hx : a.eval x = .slice A' m c') (hA : A' = none → c' = 0) (hl : ys.length = m) (hsts : Ces w A' ys) (hb : n + m ≤ 4194304) (hlo : lo ≤ w.heap.size)
    (h : ∀ A2 c2 w', Wce w' lo w'.heap.size A2 (n + m) c2 (zs ++ ys) → ToV w w' lo w.heap.size 38 4 A → (A2 = A ∨ ∃ g o, A2 = some ⟨g, o, none⟩ ∧ w.heap.size ≤ g) → K (a.put o.dst (.slice A2 (n + m) c2)) w') : o.wp Try.prog a w K Q := by
  obtain ⟨i0, hi0, hz0, hz1, hz2⟩ := info_parts ceinfo
  obtain ⟨A2, c2, w', hr, h2, h3, h4⟩ := run_append_winV 30 o.type 38 Try.underlying30 hi0 hz0 hz1 hz2 rfl (by decide) hw.2 A' m c' (ceCells ys) (fun e => by subst e; exact ⟨hA rfl, ces_none hsts hl⟩) (by rw [ceCells_length, hl]) (fun ad e => by subst e; exact hsts.news) (fun u hu => ceCells_one hu) (by omega) (by unfold maxLen; omega) hlo
  unfold Oper.wp execOp
  simp only [ho, resolve, invoke, builtin, Sem.run_bind, Sem.run_pure, Result.andThen_ok, List.map_toArray, List.map_cons, List.map_nil, hs, hx, hr]
  rw [← ceCells_append] at h2
  exact h A2 c2 w' ⟨by rw [List.length_append, hw.1, hl], h2⟩ h3 h4
theorem step_append_wce {w : World} {ops : Array Oper} {o : Oper} {a : Act} {K : Act → World → Prop} {Q : Exit → Act → World → Prop} {E : Prop} (hgd : o.guard = none) (s x : Operand)
    (ho : o.op = .call { callee := .builtin .append, args := #[s, x], argTypes := #[30, 30] })
    {lo hi n c : Nat} {A : Option Addr} {zs : List Ce} (hs : a.eval s = .slice A n c) (hw : Wce w lo hi A n c zs)
    (A' : Option Addr) (m c' : Nat) (ys : List Ce) (hx : a.eval x = .slice A' m c') (hA : A' = none → c' = 0) (hl : ys.length = m) (hsts : Ces w A' ys) (hb : n + m ≤ 4194304) (hlo : lo ≤ w.heap.size)
    (h : ∀ A2 c2 w', Wce w' lo w'.heap.size A2 (n + m) c2 (zs ++ ys) → ToV w w' lo w.heap.size 38 4 A → (A2 = A ∨ ∃ g o, A2 = some ⟨g, o, none⟩ ∧ w.heap.size ≤ g) → K (a.put o.dst (.slice A2 (n + m) c2)) w') :
    if Region.wanted o (yielded ops a.tmps) = true then Oper.wp Try.prog o a w K Q else E := by
  have hw' : Region.wanted o (yielded ops a.tmps) = true := by simp [Region.wanted, hgd]
  rw [if_pos hw']
  exact wp_append_wce s x ho hs hw A' m c' ys hx hA hl hsts hb hlo h
end Go.Proofs.Ytbbagpnjjjohpaa.hexes

namespace Go.Proofs.Ytbbagpnjjjohpaa.hexes
open Go.RowKit

theorem pt (l : List Value) (k : Nat) (v : Value) (d : List Deferred) : Act.put ⟨l.toArray, d⟩ (some k) v = ⟨(l.set k v).toArray, d⟩ := by simp [Act.put]
theorem pn (a : Act) (v : Value) : a.put none v = a := rfl

/-- An operation that yields a value may be taken. -/
def RegT (P : Program) (ops : Array Oper) (q : Oper) (d : Option Nat) (n : Nat) (L L' : Array Bool) : Prop :=
  ∀ {Q : Exit → Act → World → Prop} {S : World → Prop} {a : Act} {w : World} (v : Value), (∀ c a w, Q (.panic c) (a.put d v) w → Q (.panic c) a w) → YieldsIf P ops S q v a → S w → wpAnyH P .any ops Q S n L' (a.put d v) w → wpAnyH P .any ops Q S (n + 1) L a w
theorem regT {P : Program} {ops : Array Oper} {q : Oper} {d : Option Nat} {n : Nat} {L L' : Array Bool} {i : Nat} (hi : ops[i]? = some q) (hd : q.dst = d) (hs : Region.noSelect ops = true) (hf : Region.free .any ops L i = true) (hr : (Region.ready .any ops L).contains i = true) (hl : L.setIfInBounds i true = L') : RegT P ops q d n L L' := by
  subst hd hl
  exact fun v hQ hy hS h => wpAnyH_take (i := i) hi hs hf hr hQ hy hS h
theorem regY {P : Program} {ops : Array Oper} {q : Oper} {d : Option Nat} {n : Nat} {L L' : Array Bool} (t : RegT P ops q d n L L') {Q : Exit → Act → World → Prop} {S : World → Prop} {a : Act} {w : World} (v : Value) (hv : ∀ w, S w → (execOp a.eval q).run P w = .ok (.value v) w) (hS : S w) (h : wpAnyH P .any ops Q S n L' (a.put d v) w)
    (hw : Region.wanted q (yielded ops a.tmps) = true := by rfl) (hQ : ∀ c a w, Q (.panic c) (a.put d v) w → Q (.panic c) a w := by exact fun _ _ _ h => h) : wpAnyH P .any ops Q S (n + 1) L a w := t v hQ (.inl ⟨hw, hv⟩) hS h
theorem regU {P : Program} {ops : Array Oper} {q : Oper} {d : Option Nat} {n : Nat} {L L' : Array Bool} (t : RegT P ops q d n L L') {Q : Exit → Act → World → Prop} {S : World → Prop} {a : Act} {w : World} (hS : S w) (h : wpAnyH P .any ops Q S n L' (a.put d undef) w)
    (hw : Region.wanted q (yielded ops a.tmps) = false := by rfl) (hQ : ∀ c a w, Q (.panic c) (a.put d undef) w → Q (.panic c) a w := by exact fun _ _ _ h => h) : wpAnyH P .any ops Q S (n + 1) L a w := t undef hQ (.inr ⟨hw, rfl⟩) hS h
/-- An operation that is carried out, the only one that may come up. -/
def RegC (P : Program) (ops : Array Oper) (q : Oper) (d : Option Nat) (n : Nat) (L L' : Array Bool) : Prop :=
  ∀ {Q : Exit → Act → World → Prop} {S : World → Prop} {a : Act} {w : World}, (∀ K' : Act → World → Prop, Shut (∀ a w, S w → (S w → wpAnyH P .any ops Q S n L' a w) → K' a w) → if Region.wanted q (yielded ops a.tmps) = true then Oper.wp P q a w K' Q else K' (a.put d undef) w) → wpAnyH P .any ops Q S (n + 1) L a w
theorem regC {P : Program} {ops : Array Oper} {q : Oper} {d : Option Nat} {n : Nat} {L L' : Array Bool} {i : Nat} (hi : ops[i]? = some q) (hd : q.dst = d) (hr : Region.ready .any ops L = [i]) (hl : L.setIfInBounds i true = L') : RegC P ops q d n L L' := by
  subst hd hl
  exact fun h => wpAnyH_ready (rs := [i]) hr (by simp) (AllReadyH.cons hi (fun K' hK => h K' hK) AllReadyH.nil)
end Go.Proofs.Ytbbagpnjjjohpaa.hexes

namespace Go.Proofs.Ytbbagpnjjjohpaa.hexes
open Go.RowKit

def findE1 (n : Nat) : Code → Option Code
  | .region id ops d => if id = n then some (.region id ops d) else none
  | .seq a b => match findE1 n a with
    | some c => some c
    | none => findE1 n b
  | .block _ c => findE1 n c
  | .scope c => findE1 n c
  | .loop c => findE1 n c
  | .cond _ a b => match findE1 n a with
    | some c => some c
    | none => findE1 n b
  | _ => none
def opsOfE1 : Option Code → Array Oper
  | some (.region _ ops _) => ops
  | _ => #[]
noncomputable def opsE1 : Array Oper := opsOfE1 (Try.f108.body.bind (findE1 1))
def schE1 : List Nat := [0, 1, 2, 3, 5, 6, 7, 8, 10, 11, 12, 13, 15, 16, 17, 18, 4, 9, 14, 19, 20, 21]
def LE1 (k : Nat) : Array Bool := ((List.range 22).map fun i => (schE1.take k).contains i).toArray
theorem noselE1 : Region.noSelect opsE1 = true := by kernel_rfl
def qE1_0 : Oper := { dst := some 7, op := Op.fieldAddr 38 (Operand.tmp 2) 1, type := 0, pos := "l09_memory.go:6", after := #[], guard := none }
theorem hE1_0 : opsE1[0]? = some qE1_0 := by kernel_rfl
theorem lE1_0 : (LE1 0).setIfInBounds 0 true = LE1 1 := by kernel_rfl
theorem tE1_0 : RegT Try.prog opsE1 qE1_0 (some 7) 21 (LE1 0) (LE1 1) := regT hE1_0 rfl noselE1 (by kernel_rfl) (by kernel_rfl) lE1_0
def qE1_1 : Oper := { dst := some 8, op := Op.load 3 (Operand.tmp 7), type := 3, pos := "l09_memory.go:6", after := #[{ on := 0, ground := Ground.data }], guard := none }
theorem hE1_1 : opsE1[1]? = some qE1_1 := by kernel_rfl
theorem lE1_1 : (LE1 1).setIfInBounds 1 true = LE1 2 := by kernel_rfl
theorem tE1_1 : RegT Try.prog opsE1 qE1_1 (some 8) 20 (LE1 1) (LE1 2) := regT hE1_1 rfl noselE1 (by kernel_rfl) (by kernel_rfl) lE1_1
def qE1_2 : Oper := { dst := some 9, op := Op.fieldAddr 38 (Operand.tmp 3) 1, type := 0, pos := "l09_memory.go:6", after := #[], guard := none }
theorem hE1_2 : opsE1[2]? = some qE1_2 := by kernel_rfl
theorem lE1_2 : (LE1 2).setIfInBounds 2 true = LE1 3 := by kernel_rfl
theorem tE1_2 : RegT Try.prog opsE1 qE1_2 (some 9) 19 (LE1 2) (LE1 3) := regT hE1_2 rfl noselE1 (by kernel_rfl) (by kernel_rfl) lE1_2
def qE1_3 : Oper := { dst := some 10, op := Op.load 3 (Operand.tmp 9), type := 3, pos := "l09_memory.go:6", after := #[{ on := 2, ground := Ground.data }], guard := none }
theorem hE1_3 : opsE1[3]? = some qE1_3 := by kernel_rfl
theorem lE1_3 : (LE1 3).setIfInBounds 3 true = LE1 4 := by kernel_rfl
theorem tE1_3 : RegT Try.prog opsE1 qE1_3 (some 10) 18 (LE1 3) (LE1 4) := regT hE1_3 rfl noselE1 (by kernel_rfl) (by kernel_rfl) lE1_3
def qE1_5 : Oper := { dst := some 12, op := Op.fieldAddr 38 (Operand.tmp 2) 0, type := 0, pos := "l09_memory.go:6", after := #[], guard := none }
theorem hE1_5 : opsE1[5]? = some qE1_5 := by kernel_rfl
theorem lE1_4 : (LE1 4).setIfInBounds 5 true = LE1 5 := by kernel_rfl
theorem tE1_4 : RegT Try.prog opsE1 qE1_5 (some 12) 17 (LE1 4) (LE1 5) := regT hE1_5 rfl noselE1 (by kernel_rfl) (by kernel_rfl) lE1_4
def qE1_6 : Oper := { dst := some 13, op := Op.load 3 (Operand.tmp 12), type := 3, pos := "l09_memory.go:6", after := #[{ on := 5, ground := Ground.data }], guard := none }
theorem hE1_6 : opsE1[6]? = some qE1_6 := by kernel_rfl
theorem lE1_5 : (LE1 5).setIfInBounds 6 true = LE1 6 := by kernel_rfl
theorem tE1_5 : RegT Try.prog opsE1 qE1_6 (some 13) 16 (LE1 5) (LE1 6) := regT hE1_6 rfl noselE1 (by kernel_rfl) (by kernel_rfl) lE1_5
def qE1_7 : Oper := { dst := some 14, op := Op.fieldAddr 38 (Operand.tmp 3) 0, type := 0, pos := "l09_memory.go:6", after := #[], guard := none }
theorem hE1_7 : opsE1[7]? = some qE1_7 := by kernel_rfl
theorem lE1_6 : (LE1 6).setIfInBounds 7 true = LE1 7 := by kernel_rfl
theorem tE1_6 : RegT Try.prog opsE1 qE1_7 (some 14) 15 (LE1 6) (LE1 7) := regT hE1_7 rfl noselE1 (by kernel_rfl) (by kernel_rfl) lE1_6
def qE1_8 : Oper := { dst := some 15, op := Op.load 3 (Operand.tmp 14), type := 3, pos := "l09_memory.go:6", after := #[{ on := 7, ground := Ground.data }], guard := none }
theorem hE1_8 : opsE1[8]? = some qE1_8 := by kernel_rfl
theorem lE1_7 : (LE1 7).setIfInBounds 8 true = LE1 8 := by kernel_rfl
theorem tE1_7 : RegT Try.prog opsE1 qE1_8 (some 15) 14 (LE1 7) (LE1 8) := regT hE1_8 rfl noselE1 (by kernel_rfl) (by kernel_rfl) lE1_7
def qE1_10 : Oper := { dst := some 17, op := Op.fieldAddr 38 (Operand.tmp 2) 2, type := 0, pos := "l09_memory.go:6", after := #[], guard := none }
theorem hE1_10 : opsE1[10]? = some qE1_10 := by kernel_rfl
theorem lE1_8 : (LE1 8).setIfInBounds 10 true = LE1 9 := by kernel_rfl
theorem tE1_8 : RegT Try.prog opsE1 qE1_10 (some 17) 13 (LE1 8) (LE1 9) := regT hE1_10 rfl noselE1 (by kernel_rfl) (by kernel_rfl) lE1_8
def qE1_11 : Oper := { dst := some 18, op := Op.load 3 (Operand.tmp 17), type := 3, pos := "l09_memory.go:6", after := #[{ on := 10, ground := Ground.data }], guard := none }
theorem hE1_11 : opsE1[11]? = some qE1_11 := by kernel_rfl
theorem lE1_9 : (LE1 9).setIfInBounds 11 true = LE1 10 := by kernel_rfl
theorem tE1_9 : RegT Try.prog opsE1 qE1_11 (some 18) 12 (LE1 9) (LE1 10) := regT hE1_11 rfl noselE1 (by kernel_rfl) (by kernel_rfl) lE1_9
def qE1_12 : Oper := { dst := some 19, op := Op.fieldAddr 38 (Operand.tmp 3) 2, type := 0, pos := "l09_memory.go:6", after := #[], guard := none }
theorem hE1_12 : opsE1[12]? = some qE1_12 := by kernel_rfl
theorem lE1_10 : (LE1 10).setIfInBounds 12 true = LE1 11 := by kernel_rfl
theorem tE1_10 : RegT Try.prog opsE1 qE1_12 (some 19) 11 (LE1 10) (LE1 11) := regT hE1_12 rfl noselE1 (by kernel_rfl) (by kernel_rfl) lE1_10
def qE1_13 : Oper := { dst := some 20, op := Op.load 3 (Operand.tmp 19), type := 3, pos := "l09_memory.go:6", after := #[{ on := 12, ground := Ground.data }], guard := none }
theorem hE1_13 : opsE1[13]? = some qE1_13 := by kernel_rfl
theorem lE1_11 : (LE1 11).setIfInBounds 13 true = LE1 12 := by kernel_rfl
theorem tE1_11 : RegT Try.prog opsE1 qE1_13 (some 20) 10 (LE1 11) (LE1 12) := regT hE1_13 rfl noselE1 (by kernel_rfl) (by kernel_rfl) lE1_11
def qE1_15 : Oper := { dst := some 22, op := Op.fieldAddr 38 (Operand.tmp 2) 3, type := 0, pos := "l09_memory.go:6", after := #[], guard := none }
theorem hE1_15 : opsE1[15]? = some qE1_15 := by kernel_rfl
theorem lE1_12 : (LE1 12).setIfInBounds 15 true = LE1 13 := by kernel_rfl
theorem tE1_12 : RegT Try.prog opsE1 qE1_15 (some 22) 9 (LE1 12) (LE1 13) := regT hE1_15 rfl noselE1 (by kernel_rfl) (by kernel_rfl) lE1_12
def qE1_16 : Oper := { dst := some 23, op := Op.load 3 (Operand.tmp 22), type := 3, pos := "l09_memory.go:6", after := #[{ on := 15, ground := Ground.data }], guard := none }
theorem hE1_16 : opsE1[16]? = some qE1_16 := by kernel_rfl
theorem lE1_13 : (LE1 13).setIfInBounds 16 true = LE1 14 := by kernel_rfl
theorem tE1_13 : RegT Try.prog opsE1 qE1_16 (some 23) 8 (LE1 13) (LE1 14) := regT hE1_16 rfl noselE1 (by kernel_rfl) (by kernel_rfl) lE1_13
def qE1_17 : Oper := { dst := some 24, op := Op.fieldAddr 38 (Operand.tmp 3) 3, type := 0, pos := "l09_memory.go:6", after := #[], guard := none }
theorem hE1_17 : opsE1[17]? = some qE1_17 := by kernel_rfl
theorem lE1_14 : (LE1 14).setIfInBounds 17 true = LE1 15 := by kernel_rfl
theorem tE1_14 : RegT Try.prog opsE1 qE1_17 (some 24) 7 (LE1 14) (LE1 15) := regT hE1_17 rfl noselE1 (by kernel_rfl) (by kernel_rfl) lE1_14
def qE1_18 : Oper := { dst := some 25, op := Op.load 3 (Operand.tmp 24), type := 3, pos := "l09_memory.go:6", after := #[{ on := 17, ground := Ground.data }], guard := none }
theorem hE1_18 : opsE1[18]? = some qE1_18 := by kernel_rfl
theorem lE1_15 : (LE1 15).setIfInBounds 18 true = LE1 16 := by kernel_rfl
theorem tE1_15 : RegT Try.prog opsE1 qE1_18 (some 25) 6 (LE1 15) (LE1 16) := regT hE1_18 rfl noselE1 (by kernel_rfl) (by kernel_rfl) lE1_15
def qE1_4 : Oper := { dst := some 11, op := Op.call { callee := Callee.value (Operand.func 120), args := #[Operand.tmp 8, Operand.tmp 10], argTypes := #[3, 3] }, type := 3, pos := "l09_memory.go:6", after := #[{ on := 1, ground := Ground.data }, { on := 3, ground := Ground.data }], guard := none }
theorem hE1_4 : opsE1[4]? = some qE1_4 := by kernel_rfl
theorem lE1_16 : (LE1 16).setIfInBounds 4 true = LE1 17 := by kernel_rfl
theorem cE1_16 : RegC Try.prog opsE1 qE1_4 (some 11) 5 (LE1 16) (LE1 17) := regC hE1_4 rfl (by kernel_rfl) lE1_16
def qE1_9 : Oper := { dst := some 16, op := Op.call { callee := Callee.value (Operand.func 120), args := #[Operand.tmp 13, Operand.tmp 15], argTypes := #[3, 3] }, type := 3, pos := "l09_memory.go:6", after := #[{ on := 6, ground := Ground.data }, { on := 8, ground := Ground.data }, { on := 4, ground := Ground.chain }], guard := none }
theorem hE1_9 : opsE1[9]? = some qE1_9 := by kernel_rfl
theorem lE1_17 : (LE1 17).setIfInBounds 9 true = LE1 18 := by kernel_rfl
theorem cE1_17 : RegC Try.prog opsE1 qE1_9 (some 16) 4 (LE1 17) (LE1 18) := regC hE1_9 rfl (by kernel_rfl) lE1_17
def qE1_14 : Oper := { dst := some 21, op := Op.call { callee := Callee.value (Operand.func 120), args := #[Operand.tmp 18, Operand.tmp 20], argTypes := #[3, 3] }, type := 3, pos := "l09_memory.go:6", after := #[{ on := 11, ground := Ground.data }, { on := 13, ground := Ground.data }, { on := 9, ground := Ground.chain }], guard := none }
theorem hE1_14 : opsE1[14]? = some qE1_14 := by kernel_rfl
theorem lE1_18 : (LE1 18).setIfInBounds 14 true = LE1 19 := by kernel_rfl
theorem cE1_18 : RegC Try.prog opsE1 qE1_14 (some 21) 3 (LE1 18) (LE1 19) := regC hE1_14 rfl (by kernel_rfl) lE1_18
def qE1_19 : Oper := { dst := some 26, op := Op.call { callee := Callee.value (Operand.func 120), args := #[Operand.tmp 23, Operand.tmp 25], argTypes := #[3, 3] }, type := 3, pos := "l09_memory.go:6", after := #[{ on := 16, ground := Ground.data }, { on := 18, ground := Ground.data }, { on := 14, ground := Ground.chain }], guard := none }
theorem hE1_19 : opsE1[19]? = some qE1_19 := by kernel_rfl
theorem lE1_19 : (LE1 19).setIfInBounds 19 true = LE1 20 := by kernel_rfl
theorem cE1_19 : RegC Try.prog opsE1 qE1_19 (some 26) 2 (LE1 19) (LE1 20) := regC hE1_19 rfl (by kernel_rfl) lE1_19
def qE1_20 : Oper := { dst := some 27, op := Op.buildSlice 44 4 #[(0, Operand.tmp 11), (1, Operand.tmp 16), (2, Operand.tmp 21), (3, Operand.tmp 26)], type := 44, pos := "l09_memory.go:6", after := #[{ on := 4, ground := Ground.data }, { on := 9, ground := Ground.data }, { on := 14, ground := Ground.data }, { on := 19, ground := Ground.data }], guard := none }
theorem hE1_20 : opsE1[20]? = some qE1_20 := by kernel_rfl
theorem lE1_20 : (LE1 20).setIfInBounds 20 true = LE1 21 := by kernel_rfl
theorem cE1_20 : RegC Try.prog opsE1 qE1_20 (some 27) 1 (LE1 20) (LE1 21) := regC hE1_20 rfl (by kernel_rfl) lE1_20
def qE1_21 : Oper := { dst := some 5, op := Op.assign (Operand.tmp 27), type := 44, pos := "l09_memory.go:6", after := #[{ on := 20, ground := Ground.data }, { on := 19, ground := Ground.chain }, { on := 0, ground := Ground.phase }, { on := 1, ground := Ground.phase }, { on := 2, ground := Ground.phase }, { on := 3, ground := Ground.phase }, { on := 4, ground := Ground.phase }, { on := 5, ground := Ground.phase }, { on := 6, ground := Ground.phase }, { on := 7, ground := Ground.phase }, { on := 8, ground := Ground.phase }, { on := 9, ground := Ground.phase }, { on := 10, ground := Ground.phase }, { on := 11, ground := Ground.phase }, { on := 12, ground := Ground.phase }, { on := 13, ground := Ground.phase }, { on := 14, ground := Ground.phase }, { on := 15, ground := Ground.phase }, { on := 16, ground := Ground.phase }, { on := 17, ground := Ground.phase }, { on := 18, ground := Ground.phase }, { on := 19, ground := Ground.phase }, { on := 20, ground := Ground.phase }], guard := none }
theorem hE1_21 : opsE1[21]? = some qE1_21 := by kernel_rfl
theorem lE1_21 : (LE1 21).setIfInBounds 21 true = LE1 22 := by kernel_rfl
theorem tE1_21 : RegT Try.prog opsE1 qE1_21 (some 5) 0 (LE1 21) (LE1 22) := regT hE1_21 rfl noselE1 (by kernel_rfl) (by kernel_rfl) lE1_21
end Go.Proofs.Ytbbagpnjjjohpaa.hexes

