/-
  DERIVED. GIVEN WITH THE SEED: THE CARDS: each row of YthkkleicekhelaaDoorRows.lean that lists a variable, with what it lists TIED to the program's text (the seventh form; the later family's looks); each row that meets fmt, with fmt's text TOLD by the authors' own Lean function (tested against real Go, not proved from fmt's source: count such statements apart). THE CARD IS WHAT COUNTS. Prove the row's statement (the work); the ties are given (YthkkleicekhelaaDoorTie.lean); close each card by the builder's one call (the guide's Derived/Test/ToyasCard.lean, 'card_holds'). Laid BY PROGRAM, IN A SANDBOX (cutbox-door.mjs). By AI agents, Wed Nov 11 2026. No macro, syntax, notation, axiom, sorry.
-/
import Derived.Test.YthkkleicekhelaaDoorRows
import GoSem.ClaimSeven
namespace Go.Proofs.YthkkleicekhelaaDoor
namespace Rows

/-- THE TIED CARD OF 'laws.FnOperators'. -/
def fnOperatorsCard : Claim7 := { stood := { row := fnOperatorsRow, standIns := [], harness := (true, "427a2d7150f71ec1b50e44ba969b2fb0bdab0c4864bff0b260e15b43d27a2ed4"), looks := false }, kinds := [], alts := [], laidByText := true, laidKinds := [.data, .data, .data], laidTests := true, laidLooks := .later }
def FnOperatorsCardSaid : Prop := Claim7.holds Tryd.pinned (.plain (OpenSpec.ofChange fnOperatorsSpec)) fnOperatorsCard

/-- THE TIED CARD OF 'laws.FnExactNodeText'. -/
def fnExactNodeTextCard : Claim7 := { stood := { row := fnExactNodeTextRow, standIns := [], harness := (true, "427a2d7150f71ec1b50e44ba969b2fb0bdab0c4864bff0b260e15b43d27a2ed4"), looks := false }, kinds := [], alts := [], laidByText := true, laidKinds := [.data, .data, .data], laidTests := true, laidLooks := .later }
def FnExactNodeTextCardSaid : Prop := Claim7.holds Tryd.pinned (.plain (OpenSpec.ofChange fnExactNodeTextSpec)) fnExactNodeTextCard

/-- THE SECOND FORM's CARD OF 'laws.FnOperators'. -/
def fnOperatorsUptoCard : Claim7 := { stood := { row := fnOperatorsUptoRow, standIns := [], harness := (true, "427a2d7150f71ec1b50e44ba969b2fb0bdab0c4864bff0b260e15b43d27a2ed4"), looks := false }, kinds := [], alts := [], laidByText := true, laidKinds := [.data, .data, .data], laidTests := true, laidLooks := .later }
def FnOperatorsUptoCardSaid : Prop := Claim7.holds Tryd.pinned (.plain (OpenSpec.upto fnOperatorsSpec)) fnOperatorsUptoCard

/-- THE SECOND FORM's CARD OF 'laws.FnExactNodeText'. -/
def fnExactNodeTextUptoCard : Claim7 := { stood := { row := fnExactNodeTextUptoRow, standIns := [], harness := (true, "427a2d7150f71ec1b50e44ba969b2fb0bdab0c4864bff0b260e15b43d27a2ed4"), looks := false }, kinds := [], alts := [], laidByText := true, laidKinds := [.data, .data, .data], laidTests := true, laidLooks := .later }
def FnExactNodeTextUptoCardSaid : Prop := Claim7.holds Tryd.pinned (.plain (OpenSpec.upto fnExactNodeTextSpec)) fnExactNodeTextUptoCard
end Rows
end Go.Proofs.YthkkleicekhelaaDoor
