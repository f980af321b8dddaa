/-
  DERIVED. GIVEN WITH THE SEED: THE CARDS: each row of YtfhhipefecekkaaGreatDoorRows.lean that lists a variable, with what it lists TIED to the program's text (the seventh form; the later family's looks); each row that meets fmt, with fmt's text TOLD by the authors' own Lean function (tested against real Go, not proved from fmt's source: count such statements apart). THE CARD IS WHAT COUNTS. Prove the row's statement (the work); the ties are given (YtfhhipefecekkaaGreatDoorTie.lean); close each card by the builder's one call (the guide's Derived/Test/ToyasCard.lean, 'card_holds'). Laid BY PROGRAM, IN A SANDBOX (cutbox-door.mjs). By AI agents, Wed Nov 11 2026. No macro, syntax, notation, axiom, sorry.
-/
import Derived.Test.YtfhhipefecekkaaGreatDoorRows
import GoSem.ClaimSeven
namespace Go.Proofs.YtfhhipefecekkaaGreatDoor
namespace Rows

/-- THE TIED CARD OF 'guardraillaw.ElideFewer'. -/
def elideFewerCard : Claim7 := { stood := { row := elideFewerRow, standIns := [], harness := (true, "7f19a2c09e2d0c161e35069e6de9ca30eff44d2e7d37beac3b8a6bbe4b2801ed"), looks := true }, kinds := [], alts := [], laidByText := true, laidKinds := [.data, .data, .data, .sentinel, .sentinel], laidTests := true, laidLooks := .later }
def ElideFewerCardSaid : Prop := Claim7.holds Tryz.pinned (.plain (OpenSpec.ofChange elideFewerSpec)) elideFewerCard

/-- THE SECOND FORM's CARD OF 'guardraillaw.ElideFewer'. -/
def elideFewerUptoCard : Claim7 := { stood := { row := elideFewerUptoRow, standIns := [], harness := (true, "7f19a2c09e2d0c161e35069e6de9ca30eff44d2e7d37beac3b8a6bbe4b2801ed"), looks := true }, kinds := [], alts := [], laidByText := true, laidKinds := [.data, .data, .data, .sentinel, .sentinel], laidTests := true, laidLooks := .later }
def ElideFewerUptoCardSaid : Prop := Claim7.holds Tryz.pinned (.plain (OpenSpec.upto elideFewerSpec)) elideFewerUptoCard
end Rows
end Go.Proofs.YtfhhipefecekkaaGreatDoor
