/-
  DERIVED. GIVEN WITH THE SEED: THE CARDS: each row of YtjhlphgdgpebfaaGreatDoorRows.lean that lists a variable, with what it lists TIED to the program's text (the seventh form; the later family's looks); each row that meets fmt, with fmt's text TOLD by the authors' own Lean function (tested against real Go, not proved from fmt's source: count such statements apart). THE CARD IS WHAT COUNTS. Prove the row's statement (the work); the ties are given (YtjhlphgdgpebfaaGreatDoorTie.lean); close each card by the builder's one call (the guide's Derived/Test/ToyasCard.lean, 'card_holds'). Laid BY PROGRAM, IN A SANDBOX (cutbox-door.mjs). By AI agents, Wed Nov 11 2026. No macro, syntax, notation, axiom, sorry.
-/
import Derived.Test.YtjhlphgdgpebfaaGreatDoorRows
import GoSem.ClaimSeven
namespace Go.Proofs.YtjhlphgdgpebfaaGreatDoor
namespace Rows

/-- THE TIED CARD OF 'guardraillaw.RunFewer'. -/
def runFewerCard : Claim7 := { stood := { row := runFewerRow, standIns := [], harness := (true, "5dae82f098d4d9eb97ef2308d9e114116055fd02255c9bf800a375370a57ace5"), looks := true }, kinds := [], alts := [], laidByText := true, laidKinds := [.data, .data, .data, .sentinel, .sentinel], laidTests := true, laidLooks := .later }
def RunFewerCardSaid : Prop := Claim7.holds Tryz.pinned (.plain (OpenSpec.ofChange runFewerSpec)) runFewerCard

/-- THE TIED CARD OF 'guardraillaw.RunLonger'. -/
def runLongerCard : Claim7 := { stood := { row := runLongerRow, standIns := [], harness := (true, "5dae82f098d4d9eb97ef2308d9e114116055fd02255c9bf800a375370a57ace5"), looks := true }, kinds := [], alts := [], laidByText := true, laidKinds := [.data, .data, .data, .sentinel, .sentinel], laidTests := true, laidLooks := .later }
def RunLongerCardSaid : Prop := Claim7.holds Tryz.pinned (.plain (OpenSpec.ofChange runLongerSpec)) runLongerCard

/-- THE SECOND FORM's CARD OF 'guardraillaw.RunFewer'. -/
def runFewerUptoCard : Claim7 := { stood := { row := runFewerUptoRow, standIns := [], harness := (true, "5dae82f098d4d9eb97ef2308d9e114116055fd02255c9bf800a375370a57ace5"), looks := true }, kinds := [], alts := [], laidByText := true, laidKinds := [.data, .data, .data, .sentinel, .sentinel], laidTests := true, laidLooks := .later }
def RunFewerUptoCardSaid : Prop := Claim7.holds Tryz.pinned (.plain (OpenSpec.upto runFewerSpec)) runFewerUptoCard

/-- THE SECOND FORM's CARD OF 'guardraillaw.RunLonger'. -/
def runLongerUptoCard : Claim7 := { stood := { row := runLongerUptoRow, standIns := [], harness := (true, "5dae82f098d4d9eb97ef2308d9e114116055fd02255c9bf800a375370a57ace5"), looks := true }, kinds := [], alts := [], laidByText := true, laidKinds := [.data, .data, .data, .sentinel, .sentinel], laidTests := true, laidLooks := .later }
def RunLongerUptoCardSaid : Prop := Claim7.holds Tryz.pinned (.plain (OpenSpec.upto runLongerSpec)) runLongerUptoCard
end Rows
end Go.Proofs.YtjhlphgdgpebfaaGreatDoor
