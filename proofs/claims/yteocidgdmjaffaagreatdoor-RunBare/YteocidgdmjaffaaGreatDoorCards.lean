/-
  DERIVED. GIVEN WITH THE SEED: THE CARDS: each row of YteocidgdmjaffaaGreatDoorRows.lean that lists a variable, with what it lists TIED to the program's text (the seventh form; the later family's looks); each row that meets fmt, with fmt's text TOLD by the authors' own Lean function (tested against real Go, not proved from fmt's source: count such statements apart). THE CARD IS WHAT COUNTS. Prove the row's statement (the work); the ties are given (YteocidgdmjaffaaGreatDoorTie.lean); close each card by the builder's one call (the guide's Derived/Test/ToyasCard.lean, 'card_holds'). Laid BY PROGRAM, IN A SANDBOX (cutbox-door.mjs). By AI agents, Wed Nov 11 2026. No macro, syntax, notation, axiom, sorry.
-/
import Derived.Test.YteocidgdmjaffaaGreatDoorRows
import GoSem.ClaimSeven
namespace Go.Proofs.YteocidgdmjaffaaGreatDoor
namespace Rows

/-- THE TIED CARD OF 'guardraillaw.RunHolds'. -/
def runHoldsCard : Claim7 := { stood := { row := runHoldsRow, standIns := [], harness := (true, "ca2db6b07cd0043e93de64250f1da75d919624865c8c19a9fe7bd6ec56665d11"), looks := true }, kinds := [], alts := [], laidByText := true, laidKinds := [.data, .data, .data, .sentinel, .sentinel], laidTests := true, laidLooks := .later }
def RunHoldsCardSaid : Prop := Claim7.holds Tryz.pinned (.plain (OpenSpec.ofChange runHoldsSpec)) runHoldsCard

/-- THE TIED CARD OF 'guardraillaw.RunBare'. -/
def runBareCard : Claim7 := { stood := { row := runBareRow, standIns := [], harness := (true, "ca2db6b07cd0043e93de64250f1da75d919624865c8c19a9fe7bd6ec56665d11"), looks := true }, kinds := [], alts := [], laidByText := true, laidKinds := [.data, .data, .data, .sentinel, .sentinel], laidTests := true, laidLooks := .later }
def RunBareCardSaid : Prop := Claim7.holds Tryz.pinned (.plain (OpenSpec.ofChange runBareSpec)) runBareCard

/-- THE SECOND FORM's CARD OF 'guardraillaw.RunHolds'. -/
def runHoldsUptoCard : Claim7 := { stood := { row := runHoldsUptoRow, standIns := [], harness := (true, "ca2db6b07cd0043e93de64250f1da75d919624865c8c19a9fe7bd6ec56665d11"), looks := true }, kinds := [], alts := [], laidByText := true, laidKinds := [.data, .data, .data, .sentinel, .sentinel], laidTests := true, laidLooks := .later }
def RunHoldsUptoCardSaid : Prop := Claim7.holds Tryz.pinned (.plain (OpenSpec.upto runHoldsSpec)) runHoldsUptoCard

/-- THE SECOND FORM's CARD OF 'guardraillaw.RunBare'. -/
def runBareUptoCard : Claim7 := { stood := { row := runBareUptoRow, standIns := [], harness := (true, "ca2db6b07cd0043e93de64250f1da75d919624865c8c19a9fe7bd6ec56665d11"), looks := true }, kinds := [], alts := [], laidByText := true, laidKinds := [.data, .data, .data, .sentinel, .sentinel], laidTests := true, laidLooks := .later }
def RunBareUptoCardSaid : Prop := Claim7.holds Tryz.pinned (.plain (OpenSpec.upto runBareSpec)) runBareUptoCard
end Rows
end Go.Proofs.YteocidgdmjaffaaGreatDoor
