/-
  No cell of these rows narrows 'for every input' (looked for: loops, veiled, ifaces, maps, wideKeys, modest, calm, conditions, laid).
  DERIVED. THE GIVEN ROWS OF THIS SEAT. 8 by the template 'for every input the law returns true; each argument reads behind the call as it read before'; 0 by the template 'total and deterministic' (their statements: YtdmbkjebagnloaaTotals.lean).
  GIVEN WITH THE SEED: the statements are not yours to turn. If you find one false, say at which input.
  Laid BY PROGRAM, IN A SANDBOX (cutbox-rows.mjs): the forced cells as the released guide's own fill.sh prints them over the translation ac4c319963f7ca46… (all of the seat's roots in one cut). By AI agents, Wed Nov 11 2026. No macro, syntax, notation, axiom, sorry.
-/
import Derived.Test.YtdmbkjebagnloaaChecked
import GoSem.Claim
import GoSem.ClaimJoined
import GoSem.ClaimMapViews
import Derived.JoinedTies
import Derived.KernelRfl
namespace Go.Proofs.Ytdmbkjebagnloaa
/- THE CELL 'sum', in the pinned program and in every row, IS THE sha256 OF THE DUMP (.gsa) THAT YtdmbkjebagnloaaProg.lean LOADS. Nothing in Lean hashes anything: it is a label: what it is worth is what the hold of that sum in a sandbox is worth. -/
noncomputable def Try.pinned : Pinned := { name := "ytdmbkjebagnloaa", sum := "ac4c319963f7ca467872e5f82946e038348b2b43b41e3b79f0026d4fea23b22f", checked := Try.checked }
namespace Rows
def none {H : Type} : Left H := { results := [], args := [] }

/-- 'laws.FnOwners': WHATEVER THE INPUT: true; the input reads as it did. -/
def fnOwnersSpec : ChangeSpec := { name := "fnOwners", fn := fun _ => fun
  | [d] => { results := [.lit (.bool true)], args := [d] }
  | _ => none }
def fnOwnersRow : OpenClaim := { program := "ytdmbkjebagnloaa", sum := "ac4c319963f7ca467872e5f82946e038348b2b43b41e3b79f0026d4fea23b22f", func := "loop.example/g00973/laws.FnOwners", spec := "fnOwners", plainKeys := false, apart := false }
def FnOwnersSaid : Prop := fnOwnersRow.holds Try.pinned (OpenSpec.ofChange fnOwnersSpec)

/-- ITS FALSE NEIGHBOUR: 'it returns false'. Refute it at one input. -/
def fnOwnersWrong : ChangeSpec := { name := "fnOwners", fn := fun _ => fun
  | [d] => { results := [.lit (.bool false)], args := [d] }
  | _ => none }
def FnOwnersWrongFalsely : Prop := fnOwnersRow.holds Try.pinned (OpenSpec.ofChange fnOwnersWrong)

/-- 'laws.FnExactRecordOk': WHATEVER THE INPUT: true; the input reads as it did. -/
def fnExactRecordOkSpec : ChangeSpec := { name := "fnExactRecordOk", fn := fun _ => fun
  | [d] => { results := [.lit (.bool true)], args := [d] }
  | _ => none }
def fnExactRecordOkRow : OpenClaim := { program := "ytdmbkjebagnloaa", sum := "ac4c319963f7ca467872e5f82946e038348b2b43b41e3b79f0026d4fea23b22f", func := "loop.example/g00973/laws.FnExactRecordOk", spec := "fnExactRecordOk", plainKeys := false, apart := false }
def FnExactRecordOkSaid : Prop := fnExactRecordOkRow.holds Try.pinned (OpenSpec.ofChange fnExactRecordOkSpec)

/-- ITS FALSE NEIGHBOUR: 'it returns false'. Refute it at one input. -/
def fnExactRecordOkWrong : ChangeSpec := { name := "fnExactRecordOk", fn := fun _ => fun
  | [d] => { results := [.lit (.bool false)], args := [d] }
  | _ => none }
def FnExactRecordOkWrongFalsely : Prop := fnExactRecordOkRow.holds Try.pinned (OpenSpec.ofChange fnExactRecordOkWrong)

/-- 'laws.FnExactRecordOrder': WHATEVER THE INPUT: true; the input reads as it did. -/
def fnExactRecordOrderSpec : ChangeSpec := { name := "fnExactRecordOrder", fn := fun _ => fun
  | [d1, d2] => { results := [.lit (.bool true)], args := [d1, d2] }
  | _ => none }
def fnExactRecordOrderRow : OpenClaim := { program := "ytdmbkjebagnloaa", sum := "ac4c319963f7ca467872e5f82946e038348b2b43b41e3b79f0026d4fea23b22f", func := "loop.example/g00973/laws.FnExactRecordOrder", spec := "fnExactRecordOrder", plainKeys := false, apart := false }
def FnExactRecordOrderSaid : Prop := fnExactRecordOrderRow.holds Try.pinned (OpenSpec.ofChange fnExactRecordOrderSpec)

/-- ITS FALSE NEIGHBOUR: 'it returns false'. Refute it at one input. -/
def fnExactRecordOrderWrong : ChangeSpec := { name := "fnExactRecordOrder", fn := fun _ => fun
  | [d1, d2] => { results := [.lit (.bool false)], args := [d1, d2] }
  | _ => none }
def FnExactRecordOrderWrongFalsely : Prop := fnExactRecordOrderRow.holds Try.pinned (OpenSpec.ofChange fnExactRecordOrderWrong)

/-- 'laws.FnExactSortRecords': WHATEVER THE INPUT: true; the input reads as it did. -/
def fnExactSortRecordsSpec : ChangeSpec := { name := "fnExactSortRecords", fn := fun _ => fun
  | [d] => { results := [.lit (.bool true)], args := [d] }
  | _ => none }
def fnExactSortRecordsRow : OpenClaim := { program := "ytdmbkjebagnloaa", sum := "ac4c319963f7ca467872e5f82946e038348b2b43b41e3b79f0026d4fea23b22f", func := "loop.example/g00973/laws.FnExactSortRecords", spec := "fnExactSortRecords", unfollowed := true, recurses := true, plainKeys := false, apart := false }
def FnExactSortRecordsSaid : Prop := fnExactSortRecordsRow.holds Try.pinned (OpenSpec.ofChange fnExactSortRecordsSpec)

/-- ITS FALSE NEIGHBOUR: 'it returns false'. Refute it at one input. -/
def fnExactSortRecordsWrong : ChangeSpec := { name := "fnExactSortRecords", fn := fun _ => fun
  | [d] => { results := [.lit (.bool false)], args := [d] }
  | _ => none }
def FnExactSortRecordsWrongFalsely : Prop := fnExactSortRecordsRow.holds Try.pinned (OpenSpec.ofChange fnExactSortRecordsWrong)

/-- 'laws.FnExactSameBag': WHATEVER THE INPUT: true; the input reads as it did. -/
def fnExactSameBagSpec : ChangeSpec := { name := "fnExactSameBag", fn := fun _ => fun
  | [d1, d2] => { results := [.lit (.bool true)], args := [d1, d2] }
  | _ => none }
def fnExactSameBagRow : OpenClaim := { program := "ytdmbkjebagnloaa", sum := "ac4c319963f7ca467872e5f82946e038348b2b43b41e3b79f0026d4fea23b22f", func := "loop.example/g00973/laws.FnExactSameBag", spec := "fnExactSameBag", unfollowed := true, recurses := true, plainKeys := false, apart := false }
def FnExactSameBagSaid : Prop := fnExactSameBagRow.holds Try.pinned (OpenSpec.ofChange fnExactSameBagSpec)

/-- ITS FALSE NEIGHBOUR: 'it returns false'. Refute it at one input. -/
def fnExactSameBagWrong : ChangeSpec := { name := "fnExactSameBag", fn := fun _ => fun
  | [d1, d2] => { results := [.lit (.bool false)], args := [d1, d2] }
  | _ => none }
def FnExactSameBagWrongFalsely : Prop := fnExactSameBagRow.holds Try.pinned (OpenSpec.ofChange fnExactSameBagWrong)

/-- 'laws.FnExactOfEpoch': WHATEVER THE INPUT: true; the input reads as it did. -/
def fnExactOfEpochSpec : ChangeSpec := { name := "fnExactOfEpoch", fn := fun _ => fun
  | [d1, d2] => { results := [.lit (.bool true)], args := [d1, d2] }
  | _ => none }
def fnExactOfEpochRow : OpenClaim := { program := "ytdmbkjebagnloaa", sum := "ac4c319963f7ca467872e5f82946e038348b2b43b41e3b79f0026d4fea23b22f", func := "loop.example/g00973/laws.FnExactOfEpoch", spec := "fnExactOfEpoch", plainKeys := false, apart := false }
def FnExactOfEpochSaid : Prop := fnExactOfEpochRow.holds Try.pinned (OpenSpec.ofChange fnExactOfEpochSpec)

/-- ITS FALSE NEIGHBOUR: 'it returns false'. Refute it at one input. -/
def fnExactOfEpochWrong : ChangeSpec := { name := "fnExactOfEpoch", fn := fun _ => fun
  | [d1, d2] => { results := [.lit (.bool false)], args := [d1, d2] }
  | _ => none }
def FnExactOfEpochWrongFalsely : Prop := fnExactOfEpochRow.holds Try.pinned (OpenSpec.ofChange fnExactOfEpochWrong)

/-- 'laws.FnExactCountsOfRecords': WHATEVER THE INPUT: true; the input reads as it did. -/
def fnExactCountsOfRecordsSpec : ChangeSpec := { name := "fnExactCountsOfRecords", fn := fun _ => fun
  | [d] => { results := [.lit (.bool true)], args := [d] }
  | _ => none }
def fnExactCountsOfRecordsRow : OpenClaim := { program := "ytdmbkjebagnloaa", sum := "ac4c319963f7ca467872e5f82946e038348b2b43b41e3b79f0026d4fea23b22f", func := "loop.example/g00973/laws.FnExactCountsOfRecords", spec := "fnExactCountsOfRecords", unfollowed := true, recurses := true, plainKeys := false, apart := false }
def FnExactCountsOfRecordsSaid : Prop := fnExactCountsOfRecordsRow.holds Try.pinned (OpenSpec.ofChange fnExactCountsOfRecordsSpec)

/-- ITS FALSE NEIGHBOUR: 'it returns false'. Refute it at one input. -/
def fnExactCountsOfRecordsWrong : ChangeSpec := { name := "fnExactCountsOfRecords", fn := fun _ => fun
  | [d] => { results := [.lit (.bool false)], args := [d] }
  | _ => none }
def FnExactCountsOfRecordsWrongFalsely : Prop := fnExactCountsOfRecordsRow.holds Try.pinned (OpenSpec.ofChange fnExactCountsOfRecordsWrong)

/-- 'laws.FnExactOwnerOf': WHATEVER THE INPUT: true; the input reads as it did. -/
def fnExactOwnerOfSpec : ChangeSpec := { name := "fnExactOwnerOf", fn := fun _ => fun
  | [d1, d2] => { results := [.lit (.bool true)], args := [d1, d2] }
  | _ => none }
def fnExactOwnerOfRow : OpenClaim := { program := "ytdmbkjebagnloaa", sum := "ac4c319963f7ca467872e5f82946e038348b2b43b41e3b79f0026d4fea23b22f", func := "loop.example/g00973/laws.FnExactOwnerOf", spec := "fnExactOwnerOf", plainKeys := false, apart := false }
def FnExactOwnerOfSaid : Prop := fnExactOwnerOfRow.holds Try.pinned (OpenSpec.ofChange fnExactOwnerOfSpec)

/-- ITS FALSE NEIGHBOUR: 'it returns false'. Refute it at one input. -/
def fnExactOwnerOfWrong : ChangeSpec := { name := "fnExactOwnerOf", fn := fun _ => fun
  | [d1, d2] => { results := [.lit (.bool false)], args := [d1, d2] }
  | _ => none }
def FnExactOwnerOfWrongFalsely : Prop := fnExactOwnerOfRow.holds Try.pinned (OpenSpec.ofChange fnExactOwnerOfWrong)

/- THE SECOND FORM. 'bulk': how many values and letters a reading holds, each counted each time it is reached (what is shared counts as often as it is met; a slice's spare places count too). A statement '..UptoSaid' is the law's where the arguments, and the package variables that the reading takes, are together of bulk at most 1048576: NARROWER than '..Said'. Prove '..Said' where nothing that the law and all that it calls make is longer than what came in: it says more and counts as full. Else prove '..UptoSaid'. A law counts once. -/
mutual
def uptoBulk {H : Type} : DataW H → Nat
  | .lit (.string bytes) => bytes.length + 1
  | .lit _ => 1
  | .nil => 1
  | .ptr d => uptoBulk d + 1
  | .slice elems spare => uptoBulkAll elems + uptoBulkAll spare + 1
  | .agg parts => uptoBulkAll parts + 1
  | .iface _ d => uptoBulk d + 1
  | .map entries => uptoBulkEntries entries + 1
  | .held _ => 1
def uptoBulkAll {H : Type} : List (DataW H) → Nat
  | [] => 0
  | d :: r => uptoBulk d + uptoBulkAll r
def uptoBulkEntries {H : Type} : List (Lit × DataW H) → Nat
  | [] => 0
  | x :: r => uptoBulkEntry x + uptoBulkEntries r
def uptoBulkEntry {H : Type} : Lit × DataW H → Nat
  | (.string bytes, d) => bytes.length + uptoBulk d + 1
  | (_, d) => uptoBulk d + 1
 end
def uptoSmall : (H : Type) → List (DataW H) → Bool := fun _ ds => decide (uptoBulkAll ds ≤ 1048576)
def OpenSpec.upto (s : _root_.Go.ChangeSpec) : _root_.Go.OpenSpec := { _root_.Go.OpenSpec.ofChange s with cond := some uptoSmall }

/-- 'laws.FnOwners', WHERE WHAT IT READS IS OF BULK AT MOST 1048576: true; the input reads as it did. -/
def fnOwnersUptoRow : OpenClaim := { program := "ytdmbkjebagnloaa", sum := "ac4c319963f7ca467872e5f82946e038348b2b43b41e3b79f0026d4fea23b22f", func := "loop.example/g00973/laws.FnOwners", spec := "fnOwners", plainKeys := false, apart := false, narrowed := true }
def FnOwnersUptoSaid : Prop := fnOwnersUptoRow.holds Try.pinned (OpenSpec.upto fnOwnersSpec)

/-- 'laws.FnExactRecordOk', WHERE WHAT IT READS IS OF BULK AT MOST 1048576: true; the input reads as it did. -/
def fnExactRecordOkUptoRow : OpenClaim := { program := "ytdmbkjebagnloaa", sum := "ac4c319963f7ca467872e5f82946e038348b2b43b41e3b79f0026d4fea23b22f", func := "loop.example/g00973/laws.FnExactRecordOk", spec := "fnExactRecordOk", plainKeys := false, apart := false, narrowed := true }
def FnExactRecordOkUptoSaid : Prop := fnExactRecordOkUptoRow.holds Try.pinned (OpenSpec.upto fnExactRecordOkSpec)

/-- 'laws.FnExactRecordOrder', WHERE WHAT IT READS IS OF BULK AT MOST 1048576: true; the input reads as it did. -/
def fnExactRecordOrderUptoRow : OpenClaim := { program := "ytdmbkjebagnloaa", sum := "ac4c319963f7ca467872e5f82946e038348b2b43b41e3b79f0026d4fea23b22f", func := "loop.example/g00973/laws.FnExactRecordOrder", spec := "fnExactRecordOrder", plainKeys := false, apart := false, narrowed := true }
def FnExactRecordOrderUptoSaid : Prop := fnExactRecordOrderUptoRow.holds Try.pinned (OpenSpec.upto fnExactRecordOrderSpec)

/-- 'laws.FnExactSortRecords', WHERE WHAT IT READS IS OF BULK AT MOST 1048576: true; the input reads as it did. -/
def fnExactSortRecordsUptoRow : OpenClaim := { program := "ytdmbkjebagnloaa", sum := "ac4c319963f7ca467872e5f82946e038348b2b43b41e3b79f0026d4fea23b22f", func := "loop.example/g00973/laws.FnExactSortRecords", spec := "fnExactSortRecords", unfollowed := true, recurses := true, plainKeys := false, apart := false, narrowed := true }
def FnExactSortRecordsUptoSaid : Prop := fnExactSortRecordsUptoRow.holds Try.pinned (OpenSpec.upto fnExactSortRecordsSpec)

/-- 'laws.FnExactSameBag', WHERE WHAT IT READS IS OF BULK AT MOST 1048576: true; the input reads as it did. -/
def fnExactSameBagUptoRow : OpenClaim := { program := "ytdmbkjebagnloaa", sum := "ac4c319963f7ca467872e5f82946e038348b2b43b41e3b79f0026d4fea23b22f", func := "loop.example/g00973/laws.FnExactSameBag", spec := "fnExactSameBag", unfollowed := true, recurses := true, plainKeys := false, apart := false, narrowed := true }
def FnExactSameBagUptoSaid : Prop := fnExactSameBagUptoRow.holds Try.pinned (OpenSpec.upto fnExactSameBagSpec)

/-- 'laws.FnExactOfEpoch', WHERE WHAT IT READS IS OF BULK AT MOST 1048576: true; the input reads as it did. -/
def fnExactOfEpochUptoRow : OpenClaim := { program := "ytdmbkjebagnloaa", sum := "ac4c319963f7ca467872e5f82946e038348b2b43b41e3b79f0026d4fea23b22f", func := "loop.example/g00973/laws.FnExactOfEpoch", spec := "fnExactOfEpoch", plainKeys := false, apart := false, narrowed := true }
def FnExactOfEpochUptoSaid : Prop := fnExactOfEpochUptoRow.holds Try.pinned (OpenSpec.upto fnExactOfEpochSpec)

/-- 'laws.FnExactCountsOfRecords', WHERE WHAT IT READS IS OF BULK AT MOST 1048576: true; the input reads as it did. -/
def fnExactCountsOfRecordsUptoRow : OpenClaim := { program := "ytdmbkjebagnloaa", sum := "ac4c319963f7ca467872e5f82946e038348b2b43b41e3b79f0026d4fea23b22f", func := "loop.example/g00973/laws.FnExactCountsOfRecords", spec := "fnExactCountsOfRecords", unfollowed := true, recurses := true, plainKeys := false, apart := false, narrowed := true }
def FnExactCountsOfRecordsUptoSaid : Prop := fnExactCountsOfRecordsUptoRow.holds Try.pinned (OpenSpec.upto fnExactCountsOfRecordsSpec)

/-- 'laws.FnExactOwnerOf', WHERE WHAT IT READS IS OF BULK AT MOST 1048576: true; the input reads as it did. -/
def fnExactOwnerOfUptoRow : OpenClaim := { program := "ytdmbkjebagnloaa", sum := "ac4c319963f7ca467872e5f82946e038348b2b43b41e3b79f0026d4fea23b22f", func := "loop.example/g00973/laws.FnExactOwnerOf", spec := "fnExactOwnerOf", plainKeys := false, apart := false, narrowed := true }
def FnExactOwnerOfUptoSaid : Prop := fnExactOwnerOfUptoRow.holds Try.pinned (OpenSpec.upto fnExactOwnerOfSpec)

end Rows
end Go.Proofs.Ytdmbkjebagnloaa
