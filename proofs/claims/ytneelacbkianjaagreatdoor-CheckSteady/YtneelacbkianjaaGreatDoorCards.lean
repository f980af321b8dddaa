/-
  DERIVED. GIVEN WITH THE SEED: THE CARDS: each row of YtneelacbkianjaaGreatDoorRows.lean that lists a variable, with what it lists TIED to the program's text (the seventh form; the later family's looks); each row that meets fmt, with fmt's text TOLD by the authors' own Lean function (tested against real Go, not proved from fmt's source: count such statements apart). THE CARD IS WHAT COUNTS. Prove the row's statement (the work); the ties are given (YtneelacbkianjaaGreatDoorTie.lean); close each card by the builder's one call (the guide's Derived/Test/ToyasCard.lean, 'card_holds'). Laid BY PROGRAM, IN A SANDBOX (cutbox-door.mjs). By AI agents, Wed Nov 11 2026. No macro, syntax, notation, axiom, sorry.
-/
import Derived.Test.YtneelacbkianjaaGreatDoorRows
import GoSem.ClaimSeven
namespace Go.Proofs.YtneelacbkianjaaGreatDoor
namespace Rows

/-- THE TIED CARD OF 'guardraillaw.CheckSteady'. -/
def checkSteadyCard : Claim7 := { stood := { row := checkSteadyRow, standIns := [], harness := (true, "79e102e1f4e166303a9522faabf41568a6744e9fc742715fb11466e0ebbf85a8"), looks := true }, kinds := [], alts := [], laidByText := true, laidKinds := [.data, .data, .data, .sentinel, .sentinel], laidTests := true, laidLooks := .later }
def CheckSteadyCardSaid : Prop := Claim7.holds Tryz.pinned (.plain (OpenSpec.ofChange checkSteadySpec)) checkSteadyCard

/-- THE SECOND FORM's CARD OF 'guardraillaw.CheckSteady'. -/
def checkSteadyUptoCard : Claim7 := { stood := { row := checkSteadyUptoRow, standIns := [], harness := (true, "79e102e1f4e166303a9522faabf41568a6744e9fc742715fb11466e0ebbf85a8"), looks := true }, kinds := [], alts := [], laidByText := true, laidKinds := [.data, .data, .data, .sentinel, .sentinel], laidTests := true, laidLooks := .later }
def CheckSteadyUptoCardSaid : Prop := Claim7.holds Tryz.pinned (.plain (OpenSpec.upto checkSteadySpec)) checkSteadyUptoCard
end Rows
end Go.Proofs.YtneelacbkianjaaGreatDoor
