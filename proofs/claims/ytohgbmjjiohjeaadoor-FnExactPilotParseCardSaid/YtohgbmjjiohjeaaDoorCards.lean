/-
  DERIVED. GIVEN WITH THE SEED: THE CARDS: each row of YtohgbmjjiohjeaaDoorRows.lean that lists a variable, with what it lists TIED to the program's text (the seventh form; the later family's looks); each row that meets fmt, with fmt's text TOLD by the authors' own Lean function (tested against real Go, not proved from fmt's source: count such statements apart). THE CARD IS WHAT COUNTS. Prove the row's statement (the work); the ties are given (YtohgbmjjiohjeaaDoorTie.lean); close each card by the builder's one call (the guide's Derived/Test/ToyasCard.lean, 'card_holds'). Laid BY PROGRAM, IN A SANDBOX (cutbox-door.mjs). By AI agents, Wed Nov 11 2026. No macro, syntax, notation, axiom, sorry.
-/
import Derived.Test.YtohgbmjjiohjeaaDoorRows
import GoSem.ClaimSeven
namespace Go.Proofs.YtohgbmjjiohjeaaDoor
namespace Rows

/-- THE TIED CARD OF 'laws.FnExactPilotParse'. -/
def fnExactPilotParseCard : Claim7 := { stood := { row := fnExactPilotParseRow, standIns := [], harness := (true, "51d6e2e13c73d22477c0d36fdb5a489d4aa7f84a080bd33fe83b9fc346766295"), looks := true }, kinds := [], alts := [], laidByText := true, laidKinds := [.handle], laidTests := true, laidLooks := .later }
def FnExactPilotParseCardSaid : Prop := Claim7.holds Tryd.pinned (.plain (OpenSpec.ofChange fnExactPilotParseSpec)) fnExactPilotParseCard

/-- THE SECOND FORM's CARD OF 'laws.FnExactPilotParse'. -/
def fnExactPilotParseUptoCard : Claim7 := { stood := { row := fnExactPilotParseUptoRow, standIns := [], harness := (true, "51d6e2e13c73d22477c0d36fdb5a489d4aa7f84a080bd33fe83b9fc346766295"), looks := true }, kinds := [], alts := [], laidByText := true, laidKinds := [.handle], laidTests := true, laidLooks := .later }
def FnExactPilotParseUptoCardSaid : Prop := Claim7.holds Tryd.pinned (.plain (OpenSpec.upto fnExactPilotParseSpec)) fnExactPilotParseUptoCard
end Rows
end Go.Proofs.YtohgbmjjiohjeaaDoor
