/-
  DERIVED. GIVEN WITH THE SEED: THE CARDS: each row of YtllclkcjdhoohaaGreatDoorRows.lean that lists a variable, with what it lists TIED to the program's text (the seventh form; the later family's looks); each row that meets fmt, with fmt's text TOLD by the authors' own Lean function (tested against real Go, not proved from fmt's source: count such statements apart). THE CARD IS WHAT COUNTS. Prove the row's statement (the work); the ties are given (YtllclkcjdhoohaaGreatDoorTie.lean); close each card by the builder's one call (the guide's Derived/Test/ToyasCard.lean, 'card_holds'). Laid BY PROGRAM, IN A SANDBOX (cutbox-door.mjs). By AI agents, Wed Nov 11 2026. No macro, syntax, notation, axiom, sorry.
-/
import Derived.Test.YtllclkcjdhoohaaGreatDoorRows
import GoSem.ClaimSeven
namespace Go.Proofs.YtllclkcjdhoohaaGreatDoor
namespace Rows

/-- THE TIED CARD OF 'guardraillaw.RunAnew'. -/
def runAnewCard : Claim7 := { stood := { row := runAnewRow, standIns := [], harness := (true, "3a594114c65e0f477fba77c732b420793fe654276cc7f5e10babc89db8cff3d6"), looks := true }, kinds := [], alts := [], laidByText := true, laidKinds := [.data, .data, .data, .sentinel, .sentinel], laidTests := true, laidLooks := .later }
def RunAnewCardSaid : Prop := Claim7.holds Tryz.pinned (.plain (OpenSpec.ofChange runAnewSpec)) runAnewCard

/-- THE SECOND FORM's CARD OF 'guardraillaw.RunAnew'. -/
def runAnewUptoCard : Claim7 := { stood := { row := runAnewUptoRow, standIns := [], harness := (true, "3a594114c65e0f477fba77c732b420793fe654276cc7f5e10babc89db8cff3d6"), looks := true }, kinds := [], alts := [], laidByText := true, laidKinds := [.data, .data, .data, .sentinel, .sentinel], laidTests := true, laidLooks := .later }
def RunAnewUptoCardSaid : Prop := Claim7.holds Tryz.pinned (.plain (OpenSpec.upto runAnewSpec)) runAnewUptoCard
end Rows
end Go.Proofs.YtllclkcjdhoohaaGreatDoor
