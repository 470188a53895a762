/-
  Links on lists: what LinkOk, SendOn, TakeFrom and CreditBack answer.
-/
import Derived.Test.YthkkleicekhelaaRcList
namespace Go.Proofs.Ythkkleicekhelaa.hexes

/-- Credits, Back and the queue add up to Cap. -/
def credOk (p a b n : Int) : Bool := decide (1 ≤ p ∧ p ≤ 4) && decide (0 ≤ a ∧ a ≤ p) && decide (0 ≤ b ∧ b ≤ p) && decide (a + b + n = p)
/-- Sent and Got are the queue's ends. -/
def cntOk (s g n : Int) : Bool := decide (0 ≤ s ∧ s ≤ 1000000000) && decide (0 ≤ g) && decide (s - g = n)
/-- A valid link. -/
def okLk (p a b s g n : Int) (zs : List Rc) : Bool := credOk p a b n && cntOk s g n && zs.all okRc

theorem okLk_credF {p a b s g n : Int} {zs : List Rc} (h : credOk p a b n = false) : okLk p a b s g n zs = false := by unfold okLk; rw [h]; rfl
theorem okLk_cntF {p a b s g n : Int} {zs : List Rc} (h : cntOk s g n = false) : okLk p a b s g n zs = false := by unfold okLk; rw [h]; simp
theorem okLk_all {p a b s g n : Int} {zs : List Rc} (h1 : credOk p a b n = true) (h2 : cntOk s g n = true) : okLk p a b s g n zs = zs.all okRc := by unfold okLk; rw [h1, h2]; simp
theorem okLk_allF {p a b s g n : Int} {zs : List Rc} (h : zs.all okRc = false) : okLk p a b s g n zs = false := by unfold okLk; rw [h]; simp
theorem okLk_allT {p a b s g n : Int} {zs : List Rc} (h : zs.all okRc = true) : okLk p a b s g n zs = (credOk p a b n && cntOk s g n) := by unfold okLk; rw [h]; simp

structure OkLk (p a b s g n : Int) (zs : List Rc) : Prop where
  p1 : 1 ≤ p
  p4 : p ≤ 4
  a0 : 0 ≤ a
  ap : a ≤ p
  b0 : 0 ≤ b
  bp : b ≤ p
  sum : a + b + n = p
  s0 : 0 ≤ s
  s9 : s ≤ 1000000000
  g0 : 0 ≤ g
  gs : s - g = n
  all : zs.all okRc = true
theorem okLk_iff {p a b s g n : Int} {zs : List Rc} : okLk p a b s g n zs = true ↔ OkLk p a b s g n zs := by
  unfold okLk credOk cntOk
  simp only [Bool.and_eq_true, decide_eq_true_eq]
  constructor
  · rintro ⟨⟨⟨⟨⟨⟨h1, h2⟩, h3, h4⟩, h5, h6⟩, h7⟩, ⟨⟨h8, h9⟩, h10⟩, h11⟩, h12⟩
    exact ⟨h1, h2, h3, h4, h5, h6, h7, h8, h9, h10, h11, h12⟩
  · rintro ⟨h1, h2, h3, h4, h5, h6, h7, h8, h9, h10, h11, h12⟩
    exact ⟨⟨⟨⟨⟨⟨h1, h2⟩, h3, h4⟩, h5, h6⟩, h7⟩, ⟨⟨h8, h9⟩, h10⟩, h11⟩, h12⟩

/-- SendOn is carried out. -/
def sendOk (p a b s g n : Int) (zs : List Rc) (r : Rc) : Bool := okLk p a b s g n zs && okRc r && !decide (a = 0) && !decide (s = 1000000000)
/-- TakeFrom is carried out. -/
def takeOk (p a b s g n : Int) (zs : List Rc) : Bool := okLk p a b s g n zs && !decide (n = 0)
/-- CreditBack is carried out. -/
def backOk (p a b s g n : Int) (zs : List Rc) : Bool := okLk p a b s g n zs && !decide (b = 0)

def sendQ (ok : Bool) (zs : List Rc) (r : Rc) : List Rc := if ok then zs ++ [r] else zs
def takeQ (ok : Bool) (zs : List Rc) : List Rc := if ok then zs.drop 1 else zs
def takeR (ok : Bool) (zs : List Rc) : Rc := if ok then zs.headD (0, (0, 0), 0, 0) else (0, (0, 0), 0, 0)
/-- x turned by d where the step is carried out. -/
def turnI (ok : Bool) (x d : Int) : Int := if ok then x + d else x

theorem all_step {zs : List Rc} {k : Nat} (hk : k < zs.length) (h : (zs.take k).all okRc = true) (h2 : okRc zs[k] = true) : (zs.take (k + 1)).all okRc = true := by
  rw [List.take_succ_eq_append_getElem hk, List.all_append, h]; simp [h2]
theorem all_bad {zs : List Rc} {k : Nat} (hk : k < zs.length) (h2 : okRc zs[k] = false) : zs.all okRc = false := by
  rw [List.all_eq_false]
  exact ⟨zs[k], List.getElem_mem hk, by simp [h2]⟩
end Go.Proofs.Ythkkleicekhelaa.hexes
