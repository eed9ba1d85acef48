/-
  DERIVED. GIVEN WITH THE SEED: THE CARDS: each row of YthjicahpfhjfdaaGreatDoorRows.lean that lists a variable, with what it lists TIED to the program's text (the seventh form; the later family's looks); each row that meets fmt, with fmt's text TOLD by the authors' own Lean function (tested against real Go, not proved from fmt's source: count such statements apart). THE CARD IS WHAT COUNTS. Prove the row's statement (the work); the ties are given (YthjicahpfhjfdaaGreatDoorTie.lean); close each card by the builder's one call (the guide's Derived/Test/ToyasCard.lean, 'card_holds'). Laid BY PROGRAM, IN A SANDBOX (cutbox-door.mjs). By AI agents, Wed Nov 11 2026. No macro, syntax, notation, axiom, sorry.
-/
import Derived.Test.YthjicahpfhjfdaaGreatDoorRows
import GoSem.ClaimSeven
namespace Go.Proofs.YthjicahpfhjfdaaGreatDoor
namespace Rows

/-- THE TIED CARD OF 'laws.FnPilotSelect'. -/
def fnPilotSelectCard : Claim7 := { stood := { row := fnPilotSelectRow, standIns := [], harness := (true, "49a07727a64bc14e6d6e38b0f14a20512b7298a25495a79f07233570fc15e121"), looks := true }, kinds := [], alts := [], laidByText := true, laidKinds := [.handle], laidTests := true, laidLooks := .later }
def FnPilotSelectCardSaid : Prop := Claim7.holds Tryz.pinned (.plain (OpenSpec.ofChange fnPilotSelectSpec)) fnPilotSelectCard

/-- THE SECOND FORM's CARD OF 'laws.FnPilotSelect'. -/
def fnPilotSelectUptoCard : Claim7 := { stood := { row := fnPilotSelectUptoRow, standIns := [], harness := (true, "49a07727a64bc14e6d6e38b0f14a20512b7298a25495a79f07233570fc15e121"), looks := true }, kinds := [], alts := [], laidByText := true, laidKinds := [.handle], laidTests := true, laidLooks := .later }
def FnPilotSelectUptoCardSaid : Prop := Claim7.holds Tryz.pinned (.plain (OpenSpec.upto fnPilotSelectSpec)) fnPilotSelectUptoCard
end Rows
end Go.Proofs.YthjicahpfhjfdaaGreatDoor
