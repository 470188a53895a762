/-
  A list of cells that the call owns, from some place of its block on.
-/
import Derived.Test.YtbbagpnjjjohpaaJ31
import Derived.Test.YtbbagpnjjjohpaaJ30
import Derived.Test.YtbbagpnjjjohpaaJ29

namespace Go.Proofs.Ytbbagpnjjjohpaa.hexes
open Go.RowKit

def Wce (w : World) (lo hi : Nat) (A : Option Addr) (n c : Nat) (zs : List Ce) : Prop := zs.length = n ∧ WinV w lo hi 38 4 A n c (ceCells zs)

section
variable {w w' : World} {lo hi n c : Nat} {A : Option Addr} {zs : List Ce}
theorem Wce.of_row (h : Row w lo hi 38 4 A n c (ceCells zs)) : Wce w lo hi A n c zs := ⟨by have := h.own.1; rw [ceCells_length] at this; omega, .of_row h⟩
theorem Wce.below (h : Wce w lo hi A n c zs) (hb : Below w.heap.size w w') : Wce w' lo hi A n c zs := ⟨h.1, h.2.below hb⟩
theorem Wce.bounds {lo' hi' : Nat} (h : Wce w lo hi A n c zs) (h1 : lo' ≤ lo) (h2 : hi ≤ hi') : Wce w lo' hi' A n c zs := ⟨h.1, h.2.bounds h1 h2⟩
theorem Wce.wrote {lo' hi' : Nat} (h : Wce w lo hi A n c zs) (hw : Wrote w w' lo' hi') (hd : hi ≤ lo' ∨ hi' ≤ lo) : Wce w' lo hi A n c zs := ⟨h.1, h.2.wrote hw hd⟩
theorem Wce.nil (h : Wce w lo hi A n c zs) : A = none → c = 0 := h.2.nil
theorem Wce.cap (h : Wce w lo hi A n c zs) : n ≤ c := h.2.cap
theorem Wce.ceLen (h : Wce w lo hi A n c zs) : zs.length = n := h.1
theorem Wce.ce (h : Wce w lo hi A n c zs) : Ces w A zs := fun hp => by
  obtain ⟨g, o, hA, hlt, hc⟩ := h.2.cells (by have := h.1; omega)
  refine ⟨g, o, hA, hlt, fun j hj => ?_⟩
  obtain ⟨e0, e1, e2, e3⟩ := ceCells_at zs j hj
  exact ⟨hc _ _ e0, hc _ _ e1, hc _ _ e2, hc _ _ e3⟩
end

theorem wp_append_wce {w : World} {o : Oper} {a : Act} {K : Act → World → Prop} {Q : Exit → Act → World → Prop} (s x : Operand)
    (ho : o.op = .call { callee := .builtin .append, args := #[s, x], argTypes := #[30, 30] })
    {lo hi n c : Nat} {A : Option Addr} {zs : List Ce} (hs : a.eval s = .slice A n c) (hw : Wce w lo hi A n c zs)
    (A' : Option Addr) (m c' : Nat) (ys : List Ce) (hx : a.eval x = .slice A' m c') (hA : A' = none → c' = 0) (hl : ys.length = m) (hsts : Ces w A' ys) (hb : n + m ≤ 4194304) (hlo : lo ≤ w.heap.size)
    (h : ∀ A2 c2 w', Wce w' lo w'.heap.size A2 (n + m) c2 (zs ++ ys) → ToV w w' lo w.heap.size 38 4 A → (A2 = A ∨ ∃ g o, A2 = some ⟨g, o, none⟩ ∧ w.heap.size ≤ g) → K (a.put o.dst (.slice A2 (n + m) c2)) w') : o.wp Try.prog a w K Q := by
  obtain ⟨i0, hi0, hz0, hz1, hz2⟩ := info_parts ceinfo
  obtain ⟨A2, c2, w', hr, h2, h3, h4⟩ := run_append_winV 30 o.type 38 Try.underlying30 hi0 hz0 hz1 hz2 rfl (by decide) hw.2 A' m c' (ceCells ys) (fun e => by subst e; exact ⟨hA rfl, ces_none hsts hl⟩) (by rw [ceCells_length, hl]) (fun ad e => by subst e; exact hsts.news) (fun u hu => ceCells_one hu) (by omega) (by unfold maxLen; omega) hlo
  unfold Oper.wp execOp
  simp only [ho, resolve, invoke, builtin, Sem.run_bind, Sem.run_pure, Result.andThen_ok, List.map_toArray, List.map_cons, List.map_nil, hs, hx, hr]
  rw [← ceCells_append] at h2
  exact h A2 c2 w' ⟨by rw [List.length_append, hw.1, hl], h2⟩ h3 h4
theorem wpList_append_wce {w : World} {ops : Array Oper} {rest : List Oper} {o : Oper} {a : Act} {Q : Exit → Act → World → Prop} (hgd : o.guard = none) (s x : Operand)
    (ho : o.op = .call { callee := .builtin .append, args := #[s, x], argTypes := #[30, 30] })
    {lo hi n c : Nat} {A : Option Addr} {zs : List Ce} (hs : a.eval s = .slice A n c) (hw : Wce w lo hi A n c zs)
    (A' : Option Addr) (m c' : Nat) (ys : List Ce) (hx : a.eval x = .slice A' m c') (hA : A' = none → c' = 0) (hl : ys.length = m) (hsts : Ces w A' ys) (hb : n + m ≤ 4194304) (hlo : lo ≤ w.heap.size)
    (h : ∀ A2 c2 w', Wce w' lo w'.heap.size A2 (n + m) c2 (zs ++ ys) → ToV w w' lo w.heap.size 38 4 A → (A2 = A ∨ ∃ g o, A2 = some ⟨g, o, none⟩ ∧ w.heap.size ≤ g) → wpList Try.prog ops Q rest (a.put o.dst (.slice A2 (n + m) c2)) w') : wpList Try.prog ops Q (o :: rest) a w :=
  wpList_plain hgd fun _ hK => wp_append_wce s x ho hs hw A' m c' ys hx hA hl hsts hb hlo fun A2 c2 w' h2 h3 h4 => hK _ _ (h A2 c2 w' h2 h3 h4)
end Go.Proofs.Ytbbagpnjjjohpaa.hexes

