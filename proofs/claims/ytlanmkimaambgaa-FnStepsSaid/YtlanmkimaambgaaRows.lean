/-
  No cell of these rows narrows 'for every input' (looked for: loops, veiled, ifaces, maps, wideKeys, modest, calm, conditions, laid).
  DERIVED. THE GIVEN ROWS OF THIS SEAT. 3 by the template 'for every input the law returns true; each argument reads behind the call as it read before'; 0 by the template 'total and deterministic' (their statements: YtlanmkimaambgaaTotals.lean).
  GIVEN WITH THE SEED: the statements are not yours to turn. If you find one false, say at which input.
  Laid BY PROGRAM, IN A SANDBOX (cutbox-rows.mjs): the forced cells as the released guide's own fill.sh prints them over the translation 7822d6215457528b… (all of the seat's roots in one cut). By AI agents, Wed Nov 11 2026. No macro, syntax, notation, axiom, sorry.
-/
import Derived.Test.YtlanmkimaambgaaChecked
import GoSem.Claim
import GoSem.ClaimJoined
import GoSem.ClaimMapViews
import Derived.JoinedTies
import Derived.KernelRfl
namespace Go.Proofs.Ytlanmkimaambgaa
/- THE CELL 'sum', in the pinned program and in every row, IS THE sha256 OF THE DUMP (.gsa) THAT YtlanmkimaambgaaProg.lean LOADS. Nothing in Lean hashes anything: it is a label: what it is worth is what the hold of that sum in a sandbox is worth. -/
noncomputable def Try.pinned : Pinned := { name := "ytlanmkimaambgaa", sum := "7822d6215457528b3e8f3235455fb097e660548519c26f7ecea482ed145cd895", checked := Try.checked }
namespace Rows
def none {H : Type} : Left H := { results := [], args := [] }

/-- 'laws.FnSteps': WHATEVER THE INPUT: true; the input reads as it did. -/
def fnStepsSpec : ChangeSpec := { name := "fnSteps", fn := fun _ => fun
  | [d] => { results := [.lit (.bool true)], args := [d] }
  | _ => none }
def fnStepsRow : OpenClaim := { program := "ytlanmkimaambgaa", sum := "7822d6215457528b3e8f3235455fb097e660548519c26f7ecea482ed145cd895", func := "loop.example/g00973/laws.FnSteps", spec := "fnSteps", unfollowed := true, recurses := true, apart := false }
def FnStepsSaid : Prop := fnStepsRow.holds Try.pinned (OpenSpec.ofChange fnStepsSpec)

/-- ITS FALSE NEIGHBOUR: 'it returns false'. Refute it at one input. -/
def fnStepsWrong : ChangeSpec := { name := "fnSteps", fn := fun _ => fun
  | [d] => { results := [.lit (.bool false)], args := [d] }
  | _ => none }
def FnStepsWrongFalsely : Prop := fnStepsRow.holds Try.pinned (OpenSpec.ofChange fnStepsWrong)

/-- 'laws.FnExactStepOp': WHATEVER THE INPUT: true; the input reads as it did. -/
def fnExactStepOpSpec : ChangeSpec := { name := "fnExactStepOp", fn := fun _ => fun
  | [d1, d2, d3] => { results := [.lit (.bool true)], args := [d1, d2, d3] }
  | _ => none }
def fnExactStepOpRow : OpenClaim := { program := "ytlanmkimaambgaa", sum := "7822d6215457528b3e8f3235455fb097e660548519c26f7ecea482ed145cd895", func := "loop.example/g00973/laws.FnExactStepOp", spec := "fnExactStepOp", unfollowed := true, recurses := true, apart := false }
def FnExactStepOpSaid : Prop := fnExactStepOpRow.holds Try.pinned (OpenSpec.ofChange fnExactStepOpSpec)

/-- ITS FALSE NEIGHBOUR: 'it returns false'. Refute it at one input. -/
def fnExactStepOpWrong : ChangeSpec := { name := "fnExactStepOp", fn := fun _ => fun
  | [d1, d2, d3] => { results := [.lit (.bool false)], args := [d1, d2, d3] }
  | _ => none }
def FnExactStepOpWrongFalsely : Prop := fnExactStepOpRow.holds Try.pinned (OpenSpec.ofChange fnExactStepOpWrong)

/-- 'laws.FnExactCapped': WHATEVER THE INPUT: true; the input reads as it did. -/
def fnExactCappedSpec : ChangeSpec := { name := "fnExactCapped", fn := fun _ => fun
  | [d1, d2] => { results := [.lit (.bool true)], args := [d1, d2] }
  | _ => none }
def fnExactCappedRow : OpenClaim := { program := "ytlanmkimaambgaa", sum := "7822d6215457528b3e8f3235455fb097e660548519c26f7ecea482ed145cd895", func := "loop.example/g00973/laws.FnExactCapped", spec := "fnExactCapped", apart := false }
def FnExactCappedSaid : Prop := fnExactCappedRow.holds Try.pinned (OpenSpec.ofChange fnExactCappedSpec)

/-- ITS FALSE NEIGHBOUR: 'it returns false'. Refute it at one input. -/
def fnExactCappedWrong : ChangeSpec := { name := "fnExactCapped", fn := fun _ => fun
  | [d1, d2] => { results := [.lit (.bool false)], args := [d1, d2] }
  | _ => none }
def FnExactCappedWrongFalsely : Prop := fnExactCappedRow.holds Try.pinned (OpenSpec.ofChange fnExactCappedWrong)

/- THE SECOND FORM. 'bulk': how many values and letters a reading holds, each counted each time it is reached (what is shared counts as often as it is met; a slice's spare places count too). A statement '..UptoSaid' is the law's where the arguments, and the package variables that the reading takes, are together of bulk at most 1048576: NARROWER than '..Said'. Prove '..Said' where nothing that the law and all that it calls make is longer than what came in: it says more and counts as full. Else prove '..UptoSaid'. A law counts once. -/
mutual
def uptoBulk {H : Type} : DataW H → Nat
  | .lit (.string bytes) => bytes.length + 1
  | .lit _ => 1
  | .nil => 1
  | .ptr d => uptoBulk d + 1
  | .slice elems spare => uptoBulkAll elems + uptoBulkAll spare + 1
  | .agg parts => uptoBulkAll parts + 1
  | .iface _ d => uptoBulk d + 1
  | .map entries => uptoBulkEntries entries + 1
  | .held _ => 1
def uptoBulkAll {H : Type} : List (DataW H) → Nat
  | [] => 0
  | d :: r => uptoBulk d + uptoBulkAll r
def uptoBulkEntries {H : Type} : List (Lit × DataW H) → Nat
  | [] => 0
  | x :: r => uptoBulkEntry x + uptoBulkEntries r
def uptoBulkEntry {H : Type} : Lit × DataW H → Nat
  | (.string bytes, d) => bytes.length + uptoBulk d + 1
  | (_, d) => uptoBulk d + 1
 end
def uptoSmall : (H : Type) → List (DataW H) → Bool := fun _ ds => decide (uptoBulkAll ds ≤ 1048576)
def OpenSpec.upto (s : _root_.Go.ChangeSpec) : _root_.Go.OpenSpec := { _root_.Go.OpenSpec.ofChange s with cond := some uptoSmall }

/-- 'laws.FnSteps', WHERE WHAT IT READS IS OF BULK AT MOST 1048576: true; the input reads as it did. -/
def fnStepsUptoRow : OpenClaim := { program := "ytlanmkimaambgaa", sum := "7822d6215457528b3e8f3235455fb097e660548519c26f7ecea482ed145cd895", func := "loop.example/g00973/laws.FnSteps", spec := "fnSteps", unfollowed := true, recurses := true, apart := false, narrowed := true }
def FnStepsUptoSaid : Prop := fnStepsUptoRow.holds Try.pinned (OpenSpec.upto fnStepsSpec)

/-- 'laws.FnExactStepOp', WHERE WHAT IT READS IS OF BULK AT MOST 1048576: true; the input reads as it did. -/
def fnExactStepOpUptoRow : OpenClaim := { program := "ytlanmkimaambgaa", sum := "7822d6215457528b3e8f3235455fb097e660548519c26f7ecea482ed145cd895", func := "loop.example/g00973/laws.FnExactStepOp", spec := "fnExactStepOp", unfollowed := true, recurses := true, apart := false, narrowed := true }
def FnExactStepOpUptoSaid : Prop := fnExactStepOpUptoRow.holds Try.pinned (OpenSpec.upto fnExactStepOpSpec)

/-- 'laws.FnExactCapped', WHERE WHAT IT READS IS OF BULK AT MOST 1048576: true; the input reads as it did. -/
def fnExactCappedUptoRow : OpenClaim := { program := "ytlanmkimaambgaa", sum := "7822d6215457528b3e8f3235455fb097e660548519c26f7ecea482ed145cd895", func := "loop.example/g00973/laws.FnExactCapped", spec := "fnExactCapped", apart := false, narrowed := true }
def FnExactCappedUptoSaid : Prop := fnExactCappedUptoRow.holds Try.pinned (OpenSpec.upto fnExactCappedSpec)

end Rows
end Go.Proofs.Ytlanmkimaambgaa
