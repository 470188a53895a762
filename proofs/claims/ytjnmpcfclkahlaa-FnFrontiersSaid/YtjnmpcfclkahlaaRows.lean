/-
  No cell of these rows narrows 'for every input' (looked for: loops, veiled, ifaces, maps, wideKeys, modest, calm, conditions, laid).
  DERIVED. THE GIVEN ROWS OF THIS SEAT. 9 by the template 'for every input the law returns true; each argument reads behind the call as it read before'; 0 by the template 'total and deterministic' (their statements: YtjnmpcfclkahlaaTotals.lean).
  GIVEN WITH THE SEED: the statements are not yours to turn. If you find one false, say at which input.
  Laid BY PROGRAM, IN A SANDBOX (cutbox-rows.mjs): the forced cells as the released guide's own fill.sh prints them over the translation 4ee9608fb6280cbf… (all of the seat's roots in one cut). By AI agents, Wed Nov 11 2026. No macro, syntax, notation, axiom, sorry.
-/
import Derived.Test.YtjnmpcfclkahlaaChecked
import GoSem.Claim
import GoSem.ClaimJoined
import GoSem.ClaimMapViews
import Derived.JoinedTies
import Derived.KernelRfl
namespace Go.Proofs.Ytjnmpcfclkahlaa
/- THE CELL 'sum', in the pinned program and in every row, IS THE sha256 OF THE DUMP (.gsa) THAT YtjnmpcfclkahlaaProg.lean LOADS. Nothing in Lean hashes anything: it is a label: what it is worth is what the hold of that sum in a sandbox is worth. -/
noncomputable def Try.pinned : Pinned := { name := "ytjnmpcfclkahlaa", sum := "4ee9608fb6280cbf9e3c059fd9d3343c5f5b2a4bc8dccbce55bef767502cc65d", checked := Try.checked }
namespace Rows
def none {H : Type} : Left H := { results := [], args := [] }

/-- 'laws.FnFrontiers': WHATEVER THE INPUT: true; the input reads as it did. -/
def fnFrontiersSpec : ChangeSpec := { name := "fnFrontiers", fn := fun _ => fun
  | [d] => { results := [.lit (.bool true)], args := [d] }
  | _ => none }
def fnFrontiersRow : OpenClaim := { program := "ytjnmpcfclkahlaa", sum := "4ee9608fb6280cbf9e3c059fd9d3343c5f5b2a4bc8dccbce55bef767502cc65d", func := "loop.example/g00973/laws.FnFrontiers", spec := "fnFrontiers", unfollowed := true, recurses := true, apart := false }
def FnFrontiersSaid : Prop := fnFrontiersRow.holds Try.pinned (OpenSpec.ofChange fnFrontiersSpec)

/-- ITS FALSE NEIGHBOUR: 'it returns false'. Refute it at one input. -/
def fnFrontiersWrong : ChangeSpec := { name := "fnFrontiers", fn := fun _ => fun
  | [d] => { results := [.lit (.bool false)], args := [d] }
  | _ => none }
def FnFrontiersWrongFalsely : Prop := fnFrontiersRow.holds Try.pinned (OpenSpec.ofChange fnFrontiersWrong)

/-- 'laws.FnMerged': WHATEVER THE INPUT: true; the input reads as it did. -/
def fnMergedSpec : ChangeSpec := { name := "fnMerged", fn := fun _ => fun
  | [d] => { results := [.lit (.bool true)], args := [d] }
  | _ => none }
def fnMergedRow : OpenClaim := { program := "ytjnmpcfclkahlaa", sum := "4ee9608fb6280cbf9e3c059fd9d3343c5f5b2a4bc8dccbce55bef767502cc65d", func := "loop.example/g00973/laws.FnMerged", spec := "fnMerged", unfollowed := true, recurses := true, apart := false }
def FnMergedSaid : Prop := fnMergedRow.holds Try.pinned (OpenSpec.ofChange fnMergedSpec)

/-- ITS FALSE NEIGHBOUR: 'it returns false'. Refute it at one input. -/
def fnMergedWrong : ChangeSpec := { name := "fnMerged", fn := fun _ => fun
  | [d] => { results := [.lit (.bool false)], args := [d] }
  | _ => none }
def FnMergedWrongFalsely : Prop := fnMergedRow.holds Try.pinned (OpenSpec.ofChange fnMergedWrong)

/-- 'laws.FnExactMinimal': WHATEVER THE INPUT: true; the input reads as it did. -/
def fnExactMinimalSpec : ChangeSpec := { name := "fnExactMinimal", fn := fun _ => fun
  | [d] => { results := [.lit (.bool true)], args := [d] }
  | _ => none }
def fnExactMinimalRow : OpenClaim := { program := "ytjnmpcfclkahlaa", sum := "4ee9608fb6280cbf9e3c059fd9d3343c5f5b2a4bc8dccbce55bef767502cc65d", func := "loop.example/g00973/laws.FnExactMinimal", spec := "fnExactMinimal", unfollowed := true, recurses := true, apart := false }
def FnExactMinimalSaid : Prop := fnExactMinimalRow.holds Try.pinned (OpenSpec.ofChange fnExactMinimalSpec)

/-- ITS FALSE NEIGHBOUR: 'it returns false'. Refute it at one input. -/
def fnExactMinimalWrong : ChangeSpec := { name := "fnExactMinimal", fn := fun _ => fun
  | [d] => { results := [.lit (.bool false)], args := [d] }
  | _ => none }
def FnExactMinimalWrongFalsely : Prop := fnExactMinimalRow.holds Try.pinned (OpenSpec.ofChange fnExactMinimalWrong)

/-- 'laws.FnExactFrontierOk': WHATEVER THE INPUT: true; the input reads as it did. -/
def fnExactFrontierOkSpec : ChangeSpec := { name := "fnExactFrontierOk", fn := fun _ => fun
  | [d] => { results := [.lit (.bool true)], args := [d] }
  | _ => none }
def fnExactFrontierOkRow : OpenClaim := { program := "ytjnmpcfclkahlaa", sum := "4ee9608fb6280cbf9e3c059fd9d3343c5f5b2a4bc8dccbce55bef767502cc65d", func := "loop.example/g00973/laws.FnExactFrontierOk", spec := "fnExactFrontierOk", unfollowed := true, recurses := true, apart := false }
def FnExactFrontierOkSaid : Prop := fnExactFrontierOkRow.holds Try.pinned (OpenSpec.ofChange fnExactFrontierOkSpec)

/-- ITS FALSE NEIGHBOUR: 'it returns false'. Refute it at one input. -/
def fnExactFrontierOkWrong : ChangeSpec := { name := "fnExactFrontierOk", fn := fun _ => fun
  | [d] => { results := [.lit (.bool false)], args := [d] }
  | _ => none }
def FnExactFrontierOkWrongFalsely : Prop := fnExactFrontierOkRow.holds Try.pinned (OpenSpec.ofChange fnExactFrontierOkWrong)

/-- 'laws.FnExactAhead': WHATEVER THE INPUT: true; the input reads as it did. -/
def fnExactAheadSpec : ChangeSpec := { name := "fnExactAhead", fn := fun _ => fun
  | [d1, d2] => { results := [.lit (.bool true)], args := [d1, d2] }
  | _ => none }
def fnExactAheadRow : OpenClaim := { program := "ytjnmpcfclkahlaa", sum := "4ee9608fb6280cbf9e3c059fd9d3343c5f5b2a4bc8dccbce55bef767502cc65d", func := "loop.example/g00973/laws.FnExactAhead", spec := "fnExactAhead", apart := false }
def FnExactAheadSaid : Prop := fnExactAheadRow.holds Try.pinned (OpenSpec.ofChange fnExactAheadSpec)

/-- ITS FALSE NEIGHBOUR: 'it returns false'. Refute it at one input. -/
def fnExactAheadWrong : ChangeSpec := { name := "fnExactAhead", fn := fun _ => fun
  | [d1, d2] => { results := [.lit (.bool false)], args := [d1, d2] }
  | _ => none }
def FnExactAheadWrongFalsely : Prop := fnExactAheadRow.holds Try.pinned (OpenSpec.ofChange fnExactAheadWrong)

/-- 'laws.FnExactMergeFronts': WHATEVER THE INPUT: true; the input reads as it did. -/
def fnExactMergeFrontsSpec : ChangeSpec := { name := "fnExactMergeFronts", fn := fun _ => fun
  | [d1, d2] => { results := [.lit (.bool true)], args := [d1, d2] }
  | _ => none }
def fnExactMergeFrontsRow : OpenClaim := { program := "ytjnmpcfclkahlaa", sum := "4ee9608fb6280cbf9e3c059fd9d3343c5f5b2a4bc8dccbce55bef767502cc65d", func := "loop.example/g00973/laws.FnExactMergeFronts", spec := "fnExactMergeFronts", unfollowed := true, recurses := true, apart := false }
def FnExactMergeFrontsSaid : Prop := fnExactMergeFrontsRow.holds Try.pinned (OpenSpec.ofChange fnExactMergeFrontsSpec)

/-- ITS FALSE NEIGHBOUR: 'it returns false'. Refute it at one input. -/
def fnExactMergeFrontsWrong : ChangeSpec := { name := "fnExactMergeFronts", fn := fun _ => fun
  | [d1, d2] => { results := [.lit (.bool false)], args := [d1, d2] }
  | _ => none }
def FnExactMergeFrontsWrongFalsely : Prop := fnExactMergeFrontsRow.holds Try.pinned (OpenSpec.ofChange fnExactMergeFrontsWrong)

/-- 'laws.FnExactFrontLeq': WHATEVER THE INPUT: true; the input reads as it did. -/
def fnExactFrontLeqSpec : ChangeSpec := { name := "fnExactFrontLeq", fn := fun _ => fun
  | [d1, d2] => { results := [.lit (.bool true)], args := [d1, d2] }
  | _ => none }
def fnExactFrontLeqRow : OpenClaim := { program := "ytjnmpcfclkahlaa", sum := "4ee9608fb6280cbf9e3c059fd9d3343c5f5b2a4bc8dccbce55bef767502cc65d", func := "loop.example/g00973/laws.FnExactFrontLeq", spec := "fnExactFrontLeq", apart := false }
def FnExactFrontLeqSaid : Prop := fnExactFrontLeqRow.holds Try.pinned (OpenSpec.ofChange fnExactFrontLeqSpec)

/-- ITS FALSE NEIGHBOUR: 'it returns false'. Refute it at one input. -/
def fnExactFrontLeqWrong : ChangeSpec := { name := "fnExactFrontLeq", fn := fun _ => fun
  | [d1, d2] => { results := [.lit (.bool false)], args := [d1, d2] }
  | _ => none }
def FnExactFrontLeqWrongFalsely : Prop := fnExactFrontLeqRow.holds Try.pinned (OpenSpec.ofChange fnExactFrontLeqWrong)

/-- 'laws.FnExactSameFront': WHATEVER THE INPUT: true; the input reads as it did. -/
def fnExactSameFrontSpec : ChangeSpec := { name := "fnExactSameFront", fn := fun _ => fun
  | [d1, d2] => { results := [.lit (.bool true)], args := [d1, d2] }
  | _ => none }
def fnExactSameFrontRow : OpenClaim := { program := "ytjnmpcfclkahlaa", sum := "4ee9608fb6280cbf9e3c059fd9d3343c5f5b2a4bc8dccbce55bef767502cc65d", func := "loop.example/g00973/laws.FnExactSameFront", spec := "fnExactSameFront", apart := false }
def FnExactSameFrontSaid : Prop := fnExactSameFrontRow.holds Try.pinned (OpenSpec.ofChange fnExactSameFrontSpec)

/-- ITS FALSE NEIGHBOUR: 'it returns false'. Refute it at one input. -/
def fnExactSameFrontWrong : ChangeSpec := { name := "fnExactSameFront", fn := fun _ => fun
  | [d1, d2] => { results := [.lit (.bool false)], args := [d1, d2] }
  | _ => none }
def FnExactSameFrontWrongFalsely : Prop := fnExactSameFrontRow.holds Try.pinned (OpenSpec.ofChange fnExactSameFrontWrong)

/-- 'laws.FnExactEpochOver': WHATEVER THE INPUT: true; the input reads as it did. -/
def fnExactEpochOverSpec : ChangeSpec := { name := "fnExactEpochOver", fn := fun _ => fun
  | [d1, d2] => { results := [.lit (.bool true)], args := [d1, d2] }
  | _ => none }
def fnExactEpochOverRow : OpenClaim := { program := "ytjnmpcfclkahlaa", sum := "4ee9608fb6280cbf9e3c059fd9d3343c5f5b2a4bc8dccbce55bef767502cc65d", func := "loop.example/g00973/laws.FnExactEpochOver", spec := "fnExactEpochOver", apart := false }
def FnExactEpochOverSaid : Prop := fnExactEpochOverRow.holds Try.pinned (OpenSpec.ofChange fnExactEpochOverSpec)

/-- ITS FALSE NEIGHBOUR: 'it returns false'. Refute it at one input. -/
def fnExactEpochOverWrong : ChangeSpec := { name := "fnExactEpochOver", fn := fun _ => fun
  | [d1, d2] => { results := [.lit (.bool false)], args := [d1, d2] }
  | _ => none }
def FnExactEpochOverWrongFalsely : Prop := fnExactEpochOverRow.holds Try.pinned (OpenSpec.ofChange fnExactEpochOverWrong)

/- THE SECOND FORM. 'bulk': how many values and letters a reading holds, each counted each time it is reached (what is shared counts as often as it is met; a slice's spare places count too). A statement '..UptoSaid' is the law's where the arguments, and the package variables that the reading takes, are together of bulk at most 1048576: NARROWER than '..Said'. Prove '..Said' where nothing that the law and all that it calls make is longer than what came in: it says more and counts as full. Else prove '..UptoSaid'. A law counts once. -/
mutual
def uptoBulk {H : Type} : DataW H → Nat
  | .lit (.string bytes) => bytes.length + 1
  | .lit _ => 1
  | .nil => 1
  | .ptr d => uptoBulk d + 1
  | .slice elems spare => uptoBulkAll elems + uptoBulkAll spare + 1
  | .agg parts => uptoBulkAll parts + 1
  | .iface _ d => uptoBulk d + 1
  | .map entries => uptoBulkEntries entries + 1
  | .held _ => 1
def uptoBulkAll {H : Type} : List (DataW H) → Nat
  | [] => 0
  | d :: r => uptoBulk d + uptoBulkAll r
def uptoBulkEntries {H : Type} : List (Lit × DataW H) → Nat
  | [] => 0
  | x :: r => uptoBulkEntry x + uptoBulkEntries r
def uptoBulkEntry {H : Type} : Lit × DataW H → Nat
  | (.string bytes, d) => bytes.length + uptoBulk d + 1
  | (_, d) => uptoBulk d + 1
 end
def uptoSmall : (H : Type) → List (DataW H) → Bool := fun _ ds => decide (uptoBulkAll ds ≤ 1048576)
def OpenSpec.upto (s : _root_.Go.ChangeSpec) : _root_.Go.OpenSpec := { _root_.Go.OpenSpec.ofChange s with cond := some uptoSmall }

/-- 'laws.FnFrontiers', WHERE WHAT IT READS IS OF BULK AT MOST 1048576: true; the input reads as it did. -/
def fnFrontiersUptoRow : OpenClaim := { program := "ytjnmpcfclkahlaa", sum := "4ee9608fb6280cbf9e3c059fd9d3343c5f5b2a4bc8dccbce55bef767502cc65d", func := "loop.example/g00973/laws.FnFrontiers", spec := "fnFrontiers", unfollowed := true, recurses := true, apart := false, narrowed := true }
def FnFrontiersUptoSaid : Prop := fnFrontiersUptoRow.holds Try.pinned (OpenSpec.upto fnFrontiersSpec)

/-- 'laws.FnMerged', WHERE WHAT IT READS IS OF BULK AT MOST 1048576: true; the input reads as it did. -/
def fnMergedUptoRow : OpenClaim := { program := "ytjnmpcfclkahlaa", sum := "4ee9608fb6280cbf9e3c059fd9d3343c5f5b2a4bc8dccbce55bef767502cc65d", func := "loop.example/g00973/laws.FnMerged", spec := "fnMerged", unfollowed := true, recurses := true, apart := false, narrowed := true }
def FnMergedUptoSaid : Prop := fnMergedUptoRow.holds Try.pinned (OpenSpec.upto fnMergedSpec)

/-- 'laws.FnExactMinimal', WHERE WHAT IT READS IS OF BULK AT MOST 1048576: true; the input reads as it did. -/
def fnExactMinimalUptoRow : OpenClaim := { program := "ytjnmpcfclkahlaa", sum := "4ee9608fb6280cbf9e3c059fd9d3343c5f5b2a4bc8dccbce55bef767502cc65d", func := "loop.example/g00973/laws.FnExactMinimal", spec := "fnExactMinimal", unfollowed := true, recurses := true, apart := false, narrowed := true }
def FnExactMinimalUptoSaid : Prop := fnExactMinimalUptoRow.holds Try.pinned (OpenSpec.upto fnExactMinimalSpec)

/-- 'laws.FnExactFrontierOk', WHERE WHAT IT READS IS OF BULK AT MOST 1048576: true; the input reads as it did. -/
def fnExactFrontierOkUptoRow : OpenClaim := { program := "ytjnmpcfclkahlaa", sum := "4ee9608fb6280cbf9e3c059fd9d3343c5f5b2a4bc8dccbce55bef767502cc65d", func := "loop.example/g00973/laws.FnExactFrontierOk", spec := "fnExactFrontierOk", unfollowed := true, recurses := true, apart := false, narrowed := true }
def FnExactFrontierOkUptoSaid : Prop := fnExactFrontierOkUptoRow.holds Try.pinned (OpenSpec.upto fnExactFrontierOkSpec)

/-- 'laws.FnExactAhead', WHERE WHAT IT READS IS OF BULK AT MOST 1048576: true; the input reads as it did. -/
def fnExactAheadUptoRow : OpenClaim := { program := "ytjnmpcfclkahlaa", sum := "4ee9608fb6280cbf9e3c059fd9d3343c5f5b2a4bc8dccbce55bef767502cc65d", func := "loop.example/g00973/laws.FnExactAhead", spec := "fnExactAhead", apart := false, narrowed := true }
def FnExactAheadUptoSaid : Prop := fnExactAheadUptoRow.holds Try.pinned (OpenSpec.upto fnExactAheadSpec)

/-- 'laws.FnExactMergeFronts', WHERE WHAT IT READS IS OF BULK AT MOST 1048576: true; the input reads as it did. -/
def fnExactMergeFrontsUptoRow : OpenClaim := { program := "ytjnmpcfclkahlaa", sum := "4ee9608fb6280cbf9e3c059fd9d3343c5f5b2a4bc8dccbce55bef767502cc65d", func := "loop.example/g00973/laws.FnExactMergeFronts", spec := "fnExactMergeFronts", unfollowed := true, recurses := true, apart := false, narrowed := true }
def FnExactMergeFrontsUptoSaid : Prop := fnExactMergeFrontsUptoRow.holds Try.pinned (OpenSpec.upto fnExactMergeFrontsSpec)

/-- 'laws.FnExactFrontLeq', WHERE WHAT IT READS IS OF BULK AT MOST 1048576: true; the input reads as it did. -/
def fnExactFrontLeqUptoRow : OpenClaim := { program := "ytjnmpcfclkahlaa", sum := "4ee9608fb6280cbf9e3c059fd9d3343c5f5b2a4bc8dccbce55bef767502cc65d", func := "loop.example/g00973/laws.FnExactFrontLeq", spec := "fnExactFrontLeq", apart := false, narrowed := true }
def FnExactFrontLeqUptoSaid : Prop := fnExactFrontLeqUptoRow.holds Try.pinned (OpenSpec.upto fnExactFrontLeqSpec)

/-- 'laws.FnExactSameFront', WHERE WHAT IT READS IS OF BULK AT MOST 1048576: true; the input reads as it did. -/
def fnExactSameFrontUptoRow : OpenClaim := { program := "ytjnmpcfclkahlaa", sum := "4ee9608fb6280cbf9e3c059fd9d3343c5f5b2a4bc8dccbce55bef767502cc65d", func := "loop.example/g00973/laws.FnExactSameFront", spec := "fnExactSameFront", apart := false, narrowed := true }
def FnExactSameFrontUptoSaid : Prop := fnExactSameFrontUptoRow.holds Try.pinned (OpenSpec.upto fnExactSameFrontSpec)

/-- 'laws.FnExactEpochOver', WHERE WHAT IT READS IS OF BULK AT MOST 1048576: true; the input reads as it did. -/
def fnExactEpochOverUptoRow : OpenClaim := { program := "ytjnmpcfclkahlaa", sum := "4ee9608fb6280cbf9e3c059fd9d3343c5f5b2a4bc8dccbce55bef767502cc65d", func := "loop.example/g00973/laws.FnExactEpochOver", spec := "fnExactEpochOver", apart := false, narrowed := true }
def FnExactEpochOverUptoSaid : Prop := fnExactEpochOverUptoRow.holds Try.pinned (OpenSpec.upto fnExactEpochOverSpec)

end Rows
end Go.Proofs.Ytjnmpcfclkahlaa
