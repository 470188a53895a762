/-
  No cell of these rows narrows 'for every input' (looked for: loops, veiled, ifaces, maps, wideKeys, modest, calm, conditions, laid).
  DERIVED. THE GIVEN ROWS OF THIS SEAT. 8 by the template 'for every input the law returns true; each argument reads behind the call as it read before'; 0 by the template 'total and deterministic' (their statements: YtbbagpnjjjohpaaTotals.lean).
  GIVEN WITH THE SEED: the statements are not yours to turn. If you find one false, say at which input.
  Laid BY PROGRAM, IN A SANDBOX (cutbox-rows.mjs): the forced cells as the released guide's own fill.sh prints them over the translation 2aae1158e5622855… (all of the seat's roots in one cut). By AI agents, Wed Nov 11 2026. No macro, syntax, notation, axiom, sorry.
-/
import Derived.Test.YtbbagpnjjjohpaaChecked
import GoSem.Claim
import GoSem.ClaimJoined
import GoSem.ClaimMapViews
import Derived.JoinedTies
import Derived.KernelRfl
namespace Go.Proofs.Ytbbagpnjjjohpaa
/- THE CELL 'sum', in the pinned program and in every row, IS THE sha256 OF THE DUMP (.gsa) THAT YtbbagpnjjjohpaaProg.lean LOADS. Nothing in Lean hashes anything: it is a label: what it is worth is what the hold of that sum in a sandbox is worth. -/
noncomputable def Try.pinned : Pinned := { name := "ytbbagpnjjjohpaa", sum := "2aae1158e5622855f3583028d506984b34b8bf463229fd460877ffd359b68ffc", checked := Try.checked }
namespace Rows
def none {H : Type} : Left H := { results := [], args := [] }

/-- 'laws.FnFixed': WHATEVER THE INPUT: true; the input reads as it did. -/
def fnFixedSpec : ChangeSpec := { name := "fnFixed", fn := fun _ => fun
  | [d] => { results := [.lit (.bool true)], args := [d] }
  | _ => none }
def fnFixedRow : OpenClaim := { program := "ytbbagpnjjjohpaa", sum := "2aae1158e5622855f3583028d506984b34b8bf463229fd460877ffd359b68ffc", func := "loop.example/g00973/laws.FnFixed", spec := "fnFixed", unfollowed := true, recurses := true, apart := false }
def FnFixedSaid : Prop := fnFixedRow.holds Try.pinned (OpenSpec.ofChange fnFixedSpec)

/-- ITS FALSE NEIGHBOUR: 'it returns false'. Refute it at one input. -/
def fnFixedWrong : ChangeSpec := { name := "fnFixed", fn := fun _ => fun
  | [d] => { results := [.lit (.bool false)], args := [d] }
  | _ => none }
def FnFixedWrongFalsely : Prop := fnFixedRow.holds Try.pinned (OpenSpec.ofChange fnFixedWrong)

/-- 'laws.FnImproved': WHATEVER THE INPUT: true; the input reads as it did. -/
def fnImprovedSpec : ChangeSpec := { name := "fnImproved", fn := fun _ => fun
  | [d] => { results := [.lit (.bool true)], args := [d] }
  | _ => none }
def fnImprovedRow : OpenClaim := { program := "ytbbagpnjjjohpaa", sum := "2aae1158e5622855f3583028d506984b34b8bf463229fd460877ffd359b68ffc", func := "loop.example/g00973/laws.FnImproved", spec := "fnImproved", unfollowed := true, recurses := true, apart := false }
def FnImprovedSaid : Prop := fnImprovedRow.holds Try.pinned (OpenSpec.ofChange fnImprovedSpec)

/-- ITS FALSE NEIGHBOUR: 'it returns false'. Refute it at one input. -/
def fnImprovedWrong : ChangeSpec := { name := "fnImproved", fn := fun _ => fun
  | [d] => { results := [.lit (.bool false)], args := [d] }
  | _ => none }
def FnImprovedWrongFalsely : Prop := fnImprovedRow.holds Try.pinned (OpenSpec.ofChange fnImprovedWrong)

/-- 'laws.FnExactImprove': WHATEVER THE INPUT: true; the input reads as it did. -/
def fnExactImproveSpec : ChangeSpec := { name := "fnExactImprove", fn := fun _ => fun
  | [d1, d2, d3] => { results := [.lit (.bool true)], args := [d1, d2, d3] }
  | _ => none }
def fnExactImproveRow : OpenClaim := { program := "ytbbagpnjjjohpaa", sum := "2aae1158e5622855f3583028d506984b34b8bf463229fd460877ffd359b68ffc", func := "loop.example/g00973/laws.FnExactImprove", spec := "fnExactImprove", unfollowed := true, recurses := true, apart := false }
def FnExactImproveSaid : Prop := fnExactImproveRow.holds Try.pinned (OpenSpec.ofChange fnExactImproveSpec)

/-- ITS FALSE NEIGHBOUR: 'it returns false'. Refute it at one input. -/
def fnExactImproveWrong : ChangeSpec := { name := "fnExactImprove", fn := fun _ => fun
  | [d1, d2, d3] => { results := [.lit (.bool false)], args := [d1, d2, d3] }
  | _ => none }
def FnExactImproveWrongFalsely : Prop := fnExactImproveRow.holds Try.pinned (OpenSpec.ofChange fnExactImproveWrong)

/-- 'laws.FnExactFixpoint': WHATEVER THE INPUT: true; the input reads as it did. -/
def fnExactFixpointSpec : ChangeSpec := { name := "fnExactFixpoint", fn := fun _ => fun
  | [d1, d2, d3] => { results := [.lit (.bool true)], args := [d1, d2, d3] }
  | _ => none }
def fnExactFixpointRow : OpenClaim := { program := "ytbbagpnjjjohpaa", sum := "2aae1158e5622855f3583028d506984b34b8bf463229fd460877ffd359b68ffc", func := "loop.example/g00973/laws.FnExactFixpoint", spec := "fnExactFixpoint", unfollowed := true, recurses := true, apart := false }
def FnExactFixpointSaid : Prop := fnExactFixpointRow.holds Try.pinned (OpenSpec.ofChange fnExactFixpointSpec)

/-- ITS FALSE NEIGHBOUR: 'it returns false'. Refute it at one input. -/
def fnExactFixpointWrong : ChangeSpec := { name := "fnExactFixpoint", fn := fun _ => fun
  | [d1, d2, d3] => { results := [.lit (.bool false)], args := [d1, d2, d3] }
  | _ => none }
def FnExactFixpointWrongFalsely : Prop := fnExactFixpointRow.holds Try.pinned (OpenSpec.ofChange fnExactFixpointWrong)

/-- 'laws.FnExactResultOf': WHATEVER THE INPUT: true; the input reads as it did. -/
def fnExactResultOfSpec : ChangeSpec := { name := "fnExactResultOf", fn := fun _ => fun
  | [d1, d2, d3] => { results := [.lit (.bool true)], args := [d1, d2, d3] }
  | _ => none }
def fnExactResultOfRow : OpenClaim := { program := "ytbbagpnjjjohpaa", sum := "2aae1158e5622855f3583028d506984b34b8bf463229fd460877ffd359b68ffc", func := "loop.example/g00973/laws.FnExactResultOf", spec := "fnExactResultOf", unfollowed := true, recurses := true, apart := false }
def FnExactResultOfSaid : Prop := fnExactResultOfRow.holds Try.pinned (OpenSpec.ofChange fnExactResultOfSpec)

/-- ITS FALSE NEIGHBOUR: 'it returns false'. Refute it at one input. -/
def fnExactResultOfWrong : ChangeSpec := { name := "fnExactResultOf", fn := fun _ => fun
  | [d1, d2, d3] => { results := [.lit (.bool false)], args := [d1, d2, d3] }
  | _ => none }
def FnExactResultOfWrongFalsely : Prop := fnExactResultOfRow.holds Try.pinned (OpenSpec.ofChange fnExactResultOfWrong)

/-- 'laws.FnExactIsClosed': WHATEVER THE INPUT: true; the input reads as it did. -/
def fnExactIsClosedSpec : ChangeSpec := { name := "fnExactIsClosed", fn := fun _ => fun
  | [d1, d2] => { results := [.lit (.bool true)], args := [d1, d2] }
  | _ => none }
def fnExactIsClosedRow : OpenClaim := { program := "ytbbagpnjjjohpaa", sum := "2aae1158e5622855f3583028d506984b34b8bf463229fd460877ffd359b68ffc", func := "loop.example/g00973/laws.FnExactIsClosed", spec := "fnExactIsClosed", unfollowed := true, recurses := true, apart := false }
def FnExactIsClosedSaid : Prop := fnExactIsClosedRow.holds Try.pinned (OpenSpec.ofChange fnExactIsClosedSpec)

/-- ITS FALSE NEIGHBOUR: 'it returns false'. Refute it at one input. -/
def fnExactIsClosedWrong : ChangeSpec := { name := "fnExactIsClosed", fn := fun _ => fun
  | [d1, d2] => { results := [.lit (.bool false)], args := [d1, d2] }
  | _ => none }
def FnExactIsClosedWrongFalsely : Prop := fnExactIsClosedRow.holds Try.pinned (OpenSpec.ofChange fnExactIsClosedWrong)

/-- 'laws.FnExactNoWorse': WHATEVER THE INPUT: true; the input reads as it did. -/
def fnExactNoWorseSpec : ChangeSpec := { name := "fnExactNoWorse", fn := fun _ => fun
  | [d1, d2] => { results := [.lit (.bool true)], args := [d1, d2] }
  | _ => none }
def fnExactNoWorseRow : OpenClaim := { program := "ytbbagpnjjjohpaa", sum := "2aae1158e5622855f3583028d506984b34b8bf463229fd460877ffd359b68ffc", func := "loop.example/g00973/laws.FnExactNoWorse", spec := "fnExactNoWorse", apart := false }
def FnExactNoWorseSaid : Prop := fnExactNoWorseRow.holds Try.pinned (OpenSpec.ofChange fnExactNoWorseSpec)

/-- ITS FALSE NEIGHBOUR: 'it returns false'. Refute it at one input. -/
def fnExactNoWorseWrong : ChangeSpec := { name := "fnExactNoWorse", fn := fun _ => fun
  | [d1, d2] => { results := [.lit (.bool false)], args := [d1, d2] }
  | _ => none }
def FnExactNoWorseWrongFalsely : Prop := fnExactNoWorseRow.holds Try.pinned (OpenSpec.ofChange fnExactNoWorseWrong)

/-- 'laws.FnExactOutsOnly': WHATEVER THE INPUT: true; the input reads as it did. -/
def fnExactOutsOnlySpec : ChangeSpec := { name := "fnExactOutsOnly", fn := fun _ => fun
  | [d1, d2] => { results := [.lit (.bool true)], args := [d1, d2] }
  | _ => none }
def fnExactOutsOnlyRow : OpenClaim := { program := "ytbbagpnjjjohpaa", sum := "2aae1158e5622855f3583028d506984b34b8bf463229fd460877ffd359b68ffc", func := "loop.example/g00973/laws.FnExactOutsOnly", spec := "fnExactOutsOnly", apart := false }
def FnExactOutsOnlySaid : Prop := fnExactOutsOnlyRow.holds Try.pinned (OpenSpec.ofChange fnExactOutsOnlySpec)

/-- ITS FALSE NEIGHBOUR: 'it returns false'. Refute it at one input. -/
def fnExactOutsOnlyWrong : ChangeSpec := { name := "fnExactOutsOnly", fn := fun _ => fun
  | [d1, d2] => { results := [.lit (.bool false)], args := [d1, d2] }
  | _ => none }
def FnExactOutsOnlyWrongFalsely : Prop := fnExactOutsOnlyRow.holds Try.pinned (OpenSpec.ofChange fnExactOutsOnlyWrong)

/- THE SECOND FORM. 'bulk': how many values and letters a reading holds, each counted each time it is reached (what is shared counts as often as it is met; a slice's spare places count too). A statement '..UptoSaid' is the law's where the arguments, and the package variables that the reading takes, are together of bulk at most 1048576: NARROWER than '..Said'. Prove '..Said' where nothing that the law and all that it calls make is longer than what came in: it says more and counts as full. Else prove '..UptoSaid'. A law counts once. -/
mutual
def uptoBulk {H : Type} : DataW H → Nat
  | .lit (.string bytes) => bytes.length + 1
  | .lit _ => 1
  | .nil => 1
  | .ptr d => uptoBulk d + 1
  | .slice elems spare => uptoBulkAll elems + uptoBulkAll spare + 1
  | .agg parts => uptoBulkAll parts + 1
  | .iface _ d => uptoBulk d + 1
  | .map entries => uptoBulkEntries entries + 1
  | .held _ => 1
def uptoBulkAll {H : Type} : List (DataW H) → Nat
  | [] => 0
  | d :: r => uptoBulk d + uptoBulkAll r
def uptoBulkEntries {H : Type} : List (Lit × DataW H) → Nat
  | [] => 0
  | x :: r => uptoBulkEntry x + uptoBulkEntries r
def uptoBulkEntry {H : Type} : Lit × DataW H → Nat
  | (.string bytes, d) => bytes.length + uptoBulk d + 1
  | (_, d) => uptoBulk d + 1
 end
def uptoSmall : (H : Type) → List (DataW H) → Bool := fun _ ds => decide (uptoBulkAll ds ≤ 1048576)
def OpenSpec.upto (s : _root_.Go.ChangeSpec) : _root_.Go.OpenSpec := { _root_.Go.OpenSpec.ofChange s with cond := some uptoSmall }

/-- 'laws.FnFixed', WHERE WHAT IT READS IS OF BULK AT MOST 1048576: true; the input reads as it did. -/
def fnFixedUptoRow : OpenClaim := { program := "ytbbagpnjjjohpaa", sum := "2aae1158e5622855f3583028d506984b34b8bf463229fd460877ffd359b68ffc", func := "loop.example/g00973/laws.FnFixed", spec := "fnFixed", unfollowed := true, recurses := true, apart := false, narrowed := true }
def FnFixedUptoSaid : Prop := fnFixedUptoRow.holds Try.pinned (OpenSpec.upto fnFixedSpec)

/-- 'laws.FnImproved', WHERE WHAT IT READS IS OF BULK AT MOST 1048576: true; the input reads as it did. -/
def fnImprovedUptoRow : OpenClaim := { program := "ytbbagpnjjjohpaa", sum := "2aae1158e5622855f3583028d506984b34b8bf463229fd460877ffd359b68ffc", func := "loop.example/g00973/laws.FnImproved", spec := "fnImproved", unfollowed := true, recurses := true, apart := false, narrowed := true }
def FnImprovedUptoSaid : Prop := fnImprovedUptoRow.holds Try.pinned (OpenSpec.upto fnImprovedSpec)

/-- 'laws.FnExactImprove', WHERE WHAT IT READS IS OF BULK AT MOST 1048576: true; the input reads as it did. -/
def fnExactImproveUptoRow : OpenClaim := { program := "ytbbagpnjjjohpaa", sum := "2aae1158e5622855f3583028d506984b34b8bf463229fd460877ffd359b68ffc", func := "loop.example/g00973/laws.FnExactImprove", spec := "fnExactImprove", unfollowed := true, recurses := true, apart := false, narrowed := true }
def FnExactImproveUptoSaid : Prop := fnExactImproveUptoRow.holds Try.pinned (OpenSpec.upto fnExactImproveSpec)

/-- 'laws.FnExactFixpoint', WHERE WHAT IT READS IS OF BULK AT MOST 1048576: true; the input reads as it did. -/
def fnExactFixpointUptoRow : OpenClaim := { program := "ytbbagpnjjjohpaa", sum := "2aae1158e5622855f3583028d506984b34b8bf463229fd460877ffd359b68ffc", func := "loop.example/g00973/laws.FnExactFixpoint", spec := "fnExactFixpoint", unfollowed := true, recurses := true, apart := false, narrowed := true }
def FnExactFixpointUptoSaid : Prop := fnExactFixpointUptoRow.holds Try.pinned (OpenSpec.upto fnExactFixpointSpec)

/-- 'laws.FnExactResultOf', WHERE WHAT IT READS IS OF BULK AT MOST 1048576: true; the input reads as it did. -/
def fnExactResultOfUptoRow : OpenClaim := { program := "ytbbagpnjjjohpaa", sum := "2aae1158e5622855f3583028d506984b34b8bf463229fd460877ffd359b68ffc", func := "loop.example/g00973/laws.FnExactResultOf", spec := "fnExactResultOf", unfollowed := true, recurses := true, apart := false, narrowed := true }
def FnExactResultOfUptoSaid : Prop := fnExactResultOfUptoRow.holds Try.pinned (OpenSpec.upto fnExactResultOfSpec)

/-- 'laws.FnExactIsClosed', WHERE WHAT IT READS IS OF BULK AT MOST 1048576: true; the input reads as it did. -/
def fnExactIsClosedUptoRow : OpenClaim := { program := "ytbbagpnjjjohpaa", sum := "2aae1158e5622855f3583028d506984b34b8bf463229fd460877ffd359b68ffc", func := "loop.example/g00973/laws.FnExactIsClosed", spec := "fnExactIsClosed", unfollowed := true, recurses := true, apart := false, narrowed := true }
def FnExactIsClosedUptoSaid : Prop := fnExactIsClosedUptoRow.holds Try.pinned (OpenSpec.upto fnExactIsClosedSpec)

/-- 'laws.FnExactNoWorse', WHERE WHAT IT READS IS OF BULK AT MOST 1048576: true; the input reads as it did. -/
def fnExactNoWorseUptoRow : OpenClaim := { program := "ytbbagpnjjjohpaa", sum := "2aae1158e5622855f3583028d506984b34b8bf463229fd460877ffd359b68ffc", func := "loop.example/g00973/laws.FnExactNoWorse", spec := "fnExactNoWorse", apart := false, narrowed := true }
def FnExactNoWorseUptoSaid : Prop := fnExactNoWorseUptoRow.holds Try.pinned (OpenSpec.upto fnExactNoWorseSpec)

/-- 'laws.FnExactOutsOnly', WHERE WHAT IT READS IS OF BULK AT MOST 1048576: true; the input reads as it did. -/
def fnExactOutsOnlyUptoRow : OpenClaim := { program := "ytbbagpnjjjohpaa", sum := "2aae1158e5622855f3583028d506984b34b8bf463229fd460877ffd359b68ffc", func := "loop.example/g00973/laws.FnExactOutsOnly", spec := "fnExactOutsOnly", apart := false, narrowed := true }
def FnExactOutsOnlyUptoSaid : Prop := fnExactOutsOnlyUptoRow.holds Try.pinned (OpenSpec.upto fnExactOutsOnlySpec)

end Rows
end Go.Proofs.Ytbbagpnjjjohpaa
