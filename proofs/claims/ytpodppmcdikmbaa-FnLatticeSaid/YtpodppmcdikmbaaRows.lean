/-
  No cell of these rows narrows 'for every input' (looked for: loops, veiled, ifaces, maps, wideKeys, modest, calm, conditions, laid).
  DERIVED. THE GIVEN ROWS OF THIS SEAT. 7 by the template 'for every input the law returns true; each argument reads behind the call as it read before'; 0 by the template 'total and deterministic' (their statements: YtpodppmcdikmbaaTotals.lean).
  GIVEN WITH THE SEED: the statements are not yours to turn. If you find one false, say at which input.
  Laid BY PROGRAM, IN A SANDBOX (cutbox-rows.mjs): the forced cells as the released guide's own fill.sh prints them over the translation d343a79a6c8a923b… (all of the seat's roots in one cut). By AI agents, Wed Nov 11 2026. No macro, syntax, notation, axiom, sorry.
-/
import Derived.Test.YtpodppmcdikmbaaChecked
import GoSem.Claim
import GoSem.ClaimJoined
import GoSem.ClaimMapViews
import Derived.JoinedTies
import Derived.KernelRfl
namespace Go.Proofs.Ytpodppmcdikmbaa
/- THE CELL 'sum', in the pinned program and in every row, IS THE sha256 OF THE DUMP (.gsa) THAT YtpodppmcdikmbaaProg.lean LOADS. Nothing in Lean hashes anything: it is a label: what it is worth is what the hold of that sum in a sandbox is worth. -/
noncomputable def Try.pinned : Pinned := { name := "ytpodppmcdikmbaa", sum := "d343a79a6c8a923b8ef8c3e651dd8062c7fc604a701f5017a3a3c06aa02b9c4d", checked := Try.checked }
namespace Rows
def none {H : Type} : Left H := { results := [], args := [] }

/-- 'laws.FnLattice': WHATEVER THE INPUT: true; the input reads as it did. -/
def fnLatticeSpec : ChangeSpec := { name := "fnLattice", fn := fun _ => fun
  | [d] => { results := [.lit (.bool true)], args := [d] }
  | _ => none }
def fnLatticeRow : OpenClaim := { program := "ytpodppmcdikmbaa", sum := "d343a79a6c8a923b8ef8c3e651dd8062c7fc604a701f5017a3a3c06aa02b9c4d", func := "loop.example/g00973/laws.FnLattice", spec := "fnLattice", apart := false }
def FnLatticeSaid : Prop := fnLatticeRow.holds Try.pinned (OpenSpec.ofChange fnLatticeSpec)

/-- ITS FALSE NEIGHBOUR: 'it returns false'. Refute it at one input. -/
def fnLatticeWrong : ChangeSpec := { name := "fnLattice", fn := fun _ => fun
  | [d] => { results := [.lit (.bool false)], args := [d] }
  | _ => none }
def FnLatticeWrongFalsely : Prop := fnLatticeRow.holds Try.pinned (OpenSpec.ofChange fnLatticeWrong)

/-- 'laws.FnExactStampOk': WHATEVER THE INPUT: true; the input reads as it did. -/
def fnExactStampOkSpec : ChangeSpec := { name := "fnExactStampOk", fn := fun _ => fun
  | [d] => { results := [.lit (.bool true)], args := [d] }
  | _ => none }
def fnExactStampOkRow : OpenClaim := { program := "ytpodppmcdikmbaa", sum := "d343a79a6c8a923b8ef8c3e651dd8062c7fc604a701f5017a3a3c06aa02b9c4d", func := "loop.example/g00973/laws.FnExactStampOk", spec := "fnExactStampOk", apart := false }
def FnExactStampOkSaid : Prop := fnExactStampOkRow.holds Try.pinned (OpenSpec.ofChange fnExactStampOkSpec)

/-- ITS FALSE NEIGHBOUR: 'it returns false'. Refute it at one input. -/
def fnExactStampOkWrong : ChangeSpec := { name := "fnExactStampOk", fn := fun _ => fun
  | [d] => { results := [.lit (.bool false)], args := [d] }
  | _ => none }
def FnExactStampOkWrongFalsely : Prop := fnExactStampOkRow.holds Try.pinned (OpenSpec.ofChange fnExactStampOkWrong)

/-- 'laws.FnExactStampLeq': WHATEVER THE INPUT: true; the input reads as it did. -/
def fnExactStampLeqSpec : ChangeSpec := { name := "fnExactStampLeq", fn := fun _ => fun
  | [d1, d2] => { results := [.lit (.bool true)], args := [d1, d2] }
  | _ => none }
def fnExactStampLeqRow : OpenClaim := { program := "ytpodppmcdikmbaa", sum := "d343a79a6c8a923b8ef8c3e651dd8062c7fc604a701f5017a3a3c06aa02b9c4d", func := "loop.example/g00973/laws.FnExactStampLeq", spec := "fnExactStampLeq", apart := false }
def FnExactStampLeqSaid : Prop := fnExactStampLeqRow.holds Try.pinned (OpenSpec.ofChange fnExactStampLeqSpec)

/-- ITS FALSE NEIGHBOUR: 'it returns false'. Refute it at one input. -/
def fnExactStampLeqWrong : ChangeSpec := { name := "fnExactStampLeq", fn := fun _ => fun
  | [d1, d2] => { results := [.lit (.bool false)], args := [d1, d2] }
  | _ => none }
def FnExactStampLeqWrongFalsely : Prop := fnExactStampLeqRow.holds Try.pinned (OpenSpec.ofChange fnExactStampLeqWrong)

/-- 'laws.FnExactStampMeet': WHATEVER THE INPUT: true; the input reads as it did. -/
def fnExactStampMeetSpec : ChangeSpec := { name := "fnExactStampMeet", fn := fun _ => fun
  | [d1, d2] => { results := [.lit (.bool true)], args := [d1, d2] }
  | _ => none }
def fnExactStampMeetRow : OpenClaim := { program := "ytpodppmcdikmbaa", sum := "d343a79a6c8a923b8ef8c3e651dd8062c7fc604a701f5017a3a3c06aa02b9c4d", func := "loop.example/g00973/laws.FnExactStampMeet", spec := "fnExactStampMeet", apart := false }
def FnExactStampMeetSaid : Prop := fnExactStampMeetRow.holds Try.pinned (OpenSpec.ofChange fnExactStampMeetSpec)

/-- ITS FALSE NEIGHBOUR: 'it returns false'. Refute it at one input. -/
def fnExactStampMeetWrong : ChangeSpec := { name := "fnExactStampMeet", fn := fun _ => fun
  | [d1, d2] => { results := [.lit (.bool false)], args := [d1, d2] }
  | _ => none }
def FnExactStampMeetWrongFalsely : Prop := fnExactStampMeetRow.holds Try.pinned (OpenSpec.ofChange fnExactStampMeetWrong)

/-- 'laws.FnExactStampJoin': WHATEVER THE INPUT: true; the input reads as it did. -/
def fnExactStampJoinSpec : ChangeSpec := { name := "fnExactStampJoin", fn := fun _ => fun
  | [d1, d2] => { results := [.lit (.bool true)], args := [d1, d2] }
  | _ => none }
def fnExactStampJoinRow : OpenClaim := { program := "ytpodppmcdikmbaa", sum := "d343a79a6c8a923b8ef8c3e651dd8062c7fc604a701f5017a3a3c06aa02b9c4d", func := "loop.example/g00973/laws.FnExactStampJoin", spec := "fnExactStampJoin", apart := false }
def FnExactStampJoinSaid : Prop := fnExactStampJoinRow.holds Try.pinned (OpenSpec.ofChange fnExactStampJoinSpec)

/-- ITS FALSE NEIGHBOUR: 'it returns false'. Refute it at one input. -/
def fnExactStampJoinWrong : ChangeSpec := { name := "fnExactStampJoin", fn := fun _ => fun
  | [d1, d2] => { results := [.lit (.bool false)], args := [d1, d2] }
  | _ => none }
def FnExactStampJoinWrongFalsely : Prop := fnExactStampJoinRow.holds Try.pinned (OpenSpec.ofChange fnExactStampJoinWrong)

/-- 'laws.FnExactNextTurn': WHATEVER THE INPUT: true; the input reads as it did. -/
def fnExactNextTurnSpec : ChangeSpec := { name := "fnExactNextTurn", fn := fun _ => fun
  | [d] => { results := [.lit (.bool true)], args := [d] }
  | _ => none }
def fnExactNextTurnRow : OpenClaim := { program := "ytpodppmcdikmbaa", sum := "d343a79a6c8a923b8ef8c3e651dd8062c7fc604a701f5017a3a3c06aa02b9c4d", func := "loop.example/g00973/laws.FnExactNextTurn", spec := "fnExactNextTurn", apart := false }
def FnExactNextTurnSaid : Prop := fnExactNextTurnRow.holds Try.pinned (OpenSpec.ofChange fnExactNextTurnSpec)

/-- ITS FALSE NEIGHBOUR: 'it returns false'. Refute it at one input. -/
def fnExactNextTurnWrong : ChangeSpec := { name := "fnExactNextTurn", fn := fun _ => fun
  | [d] => { results := [.lit (.bool false)], args := [d] }
  | _ => none }
def FnExactNextTurnWrongFalsely : Prop := fnExactNextTurnRow.holds Try.pinned (OpenSpec.ofChange fnExactNextTurnWrong)

/-- 'laws.FnExactStampOrder': WHATEVER THE INPUT: true; the input reads as it did. -/
def fnExactStampOrderSpec : ChangeSpec := { name := "fnExactStampOrder", fn := fun _ => fun
  | [d1, d2] => { results := [.lit (.bool true)], args := [d1, d2] }
  | _ => none }
def fnExactStampOrderRow : OpenClaim := { program := "ytpodppmcdikmbaa", sum := "d343a79a6c8a923b8ef8c3e651dd8062c7fc604a701f5017a3a3c06aa02b9c4d", func := "loop.example/g00973/laws.FnExactStampOrder", spec := "fnExactStampOrder", apart := false }
def FnExactStampOrderSaid : Prop := fnExactStampOrderRow.holds Try.pinned (OpenSpec.ofChange fnExactStampOrderSpec)

/-- ITS FALSE NEIGHBOUR: 'it returns false'. Refute it at one input. -/
def fnExactStampOrderWrong : ChangeSpec := { name := "fnExactStampOrder", fn := fun _ => fun
  | [d1, d2] => { results := [.lit (.bool false)], args := [d1, d2] }
  | _ => none }
def FnExactStampOrderWrongFalsely : Prop := fnExactStampOrderRow.holds Try.pinned (OpenSpec.ofChange fnExactStampOrderWrong)

/- THE SECOND FORM. 'bulk': how many values and letters a reading holds, each counted each time it is reached (what is shared counts as often as it is met; a slice's spare places count too). A statement '..UptoSaid' is the law's where the arguments, and the package variables that the reading takes, are together of bulk at most 1048576: NARROWER than '..Said'. Prove '..Said' where nothing that the law and all that it calls make is longer than what came in: it says more and counts as full. Else prove '..UptoSaid'. A law counts once. -/
mutual
def uptoBulk {H : Type} : DataW H → Nat
  | .lit (.string bytes) => bytes.length + 1
  | .lit _ => 1
  | .nil => 1
  | .ptr d => uptoBulk d + 1
  | .slice elems spare => uptoBulkAll elems + uptoBulkAll spare + 1
  | .agg parts => uptoBulkAll parts + 1
  | .iface _ d => uptoBulk d + 1
  | .map entries => uptoBulkEntries entries + 1
  | .held _ => 1
def uptoBulkAll {H : Type} : List (DataW H) → Nat
  | [] => 0
  | d :: r => uptoBulk d + uptoBulkAll r
def uptoBulkEntries {H : Type} : List (Lit × DataW H) → Nat
  | [] => 0
  | x :: r => uptoBulkEntry x + uptoBulkEntries r
def uptoBulkEntry {H : Type} : Lit × DataW H → Nat
  | (.string bytes, d) => bytes.length + uptoBulk d + 1
  | (_, d) => uptoBulk d + 1
 end
def uptoSmall : (H : Type) → List (DataW H) → Bool := fun _ ds => decide (uptoBulkAll ds ≤ 1048576)
def OpenSpec.upto (s : _root_.Go.ChangeSpec) : _root_.Go.OpenSpec := { _root_.Go.OpenSpec.ofChange s with cond := some uptoSmall }

/-- 'laws.FnLattice', WHERE WHAT IT READS IS OF BULK AT MOST 1048576: true; the input reads as it did. -/
def fnLatticeUptoRow : OpenClaim := { program := "ytpodppmcdikmbaa", sum := "d343a79a6c8a923b8ef8c3e651dd8062c7fc604a701f5017a3a3c06aa02b9c4d", func := "loop.example/g00973/laws.FnLattice", spec := "fnLattice", apart := false, narrowed := true }
def FnLatticeUptoSaid : Prop := fnLatticeUptoRow.holds Try.pinned (OpenSpec.upto fnLatticeSpec)

/-- 'laws.FnExactStampOk', WHERE WHAT IT READS IS OF BULK AT MOST 1048576: true; the input reads as it did. -/
def fnExactStampOkUptoRow : OpenClaim := { program := "ytpodppmcdikmbaa", sum := "d343a79a6c8a923b8ef8c3e651dd8062c7fc604a701f5017a3a3c06aa02b9c4d", func := "loop.example/g00973/laws.FnExactStampOk", spec := "fnExactStampOk", apart := false, narrowed := true }
def FnExactStampOkUptoSaid : Prop := fnExactStampOkUptoRow.holds Try.pinned (OpenSpec.upto fnExactStampOkSpec)

/-- 'laws.FnExactStampLeq', WHERE WHAT IT READS IS OF BULK AT MOST 1048576: true; the input reads as it did. -/
def fnExactStampLeqUptoRow : OpenClaim := { program := "ytpodppmcdikmbaa", sum := "d343a79a6c8a923b8ef8c3e651dd8062c7fc604a701f5017a3a3c06aa02b9c4d", func := "loop.example/g00973/laws.FnExactStampLeq", spec := "fnExactStampLeq", apart := false, narrowed := true }
def FnExactStampLeqUptoSaid : Prop := fnExactStampLeqUptoRow.holds Try.pinned (OpenSpec.upto fnExactStampLeqSpec)

/-- 'laws.FnExactStampMeet', WHERE WHAT IT READS IS OF BULK AT MOST 1048576: true; the input reads as it did. -/
def fnExactStampMeetUptoRow : OpenClaim := { program := "ytpodppmcdikmbaa", sum := "d343a79a6c8a923b8ef8c3e651dd8062c7fc604a701f5017a3a3c06aa02b9c4d", func := "loop.example/g00973/laws.FnExactStampMeet", spec := "fnExactStampMeet", apart := false, narrowed := true }
def FnExactStampMeetUptoSaid : Prop := fnExactStampMeetUptoRow.holds Try.pinned (OpenSpec.upto fnExactStampMeetSpec)

/-- 'laws.FnExactStampJoin', WHERE WHAT IT READS IS OF BULK AT MOST 1048576: true; the input reads as it did. -/
def fnExactStampJoinUptoRow : OpenClaim := { program := "ytpodppmcdikmbaa", sum := "d343a79a6c8a923b8ef8c3e651dd8062c7fc604a701f5017a3a3c06aa02b9c4d", func := "loop.example/g00973/laws.FnExactStampJoin", spec := "fnExactStampJoin", apart := false, narrowed := true }
def FnExactStampJoinUptoSaid : Prop := fnExactStampJoinUptoRow.holds Try.pinned (OpenSpec.upto fnExactStampJoinSpec)

/-- 'laws.FnExactNextTurn', WHERE WHAT IT READS IS OF BULK AT MOST 1048576: true; the input reads as it did. -/
def fnExactNextTurnUptoRow : OpenClaim := { program := "ytpodppmcdikmbaa", sum := "d343a79a6c8a923b8ef8c3e651dd8062c7fc604a701f5017a3a3c06aa02b9c4d", func := "loop.example/g00973/laws.FnExactNextTurn", spec := "fnExactNextTurn", apart := false, narrowed := true }
def FnExactNextTurnUptoSaid : Prop := fnExactNextTurnUptoRow.holds Try.pinned (OpenSpec.upto fnExactNextTurnSpec)

/-- 'laws.FnExactStampOrder', WHERE WHAT IT READS IS OF BULK AT MOST 1048576: true; the input reads as it did. -/
def fnExactStampOrderUptoRow : OpenClaim := { program := "ytpodppmcdikmbaa", sum := "d343a79a6c8a923b8ef8c3e651dd8062c7fc604a701f5017a3a3c06aa02b9c4d", func := "loop.example/g00973/laws.FnExactStampOrder", spec := "fnExactStampOrder", apart := false, narrowed := true }
def FnExactStampOrderUptoSaid : Prop := fnExactStampOrderUptoRow.holds Try.pinned (OpenSpec.upto fnExactStampOrderSpec)

end Rows
end Go.Proofs.Ytpodppmcdikmbaa
