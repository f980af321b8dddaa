/-
  DERIVED. GIVEN WITH THE SEED: THE CARDS: each row of YtgdnpemiiageaaaGreatDoorRows.lean that lists a variable, with what it lists TIED to the program's text (the seventh form; the later family's looks); each row that meets fmt, with fmt's text TOLD by the authors' own Lean function (tested against real Go, not proved from fmt's source: count such statements apart). THE CARD IS WHAT COUNTS. Prove the row's statement (the work); the ties are given (YtgdnpemiiageaaaGreatDoorTie.lean); close each card by the builder's one call (the guide's Derived/Test/ToyasCard.lean, 'card_holds'). Laid BY PROGRAM, IN A SANDBOX (cutbox-door.mjs). By AI agents, Wed Nov 11 2026. No macro, syntax, notation, axiom, sorry.
-/
import Derived.Test.YtgdnpemiiageaaaGreatDoorRows
import GoSem.ClaimSeven
namespace Go.Proofs.YtgdnpemiiageaaaGreatDoor
namespace Rows

/-- THE TIED CARD OF 'guardraillaw.PlaceRises'. -/
def placeRisesCard : Claim7 := { stood := { row := placeRisesRow, standIns := [], harness := (true, "466ee5f8df98504a5bb3aa0ae6b9c5839408abba1aff591c80d634d1abb4e702"), looks := true }, kinds := [], alts := [], laidByText := true, laidKinds := [.data, .data, .data, .sentinel, .sentinel], laidTests := true, laidLooks := .later }
def PlaceRisesCardSaid : Prop := Claim7.holds Tryz.pinned (.plain (OpenSpec.ofChange placeRisesSpec)) placeRisesCard

/-- THE SECOND FORM's CARD OF 'guardraillaw.PlaceRises'. -/
def placeRisesUptoCard : Claim7 := { stood := { row := placeRisesUptoRow, standIns := [], harness := (true, "466ee5f8df98504a5bb3aa0ae6b9c5839408abba1aff591c80d634d1abb4e702"), looks := true }, kinds := [], alts := [], laidByText := true, laidKinds := [.data, .data, .data, .sentinel, .sentinel], laidTests := true, laidLooks := .later }
def PlaceRisesUptoCardSaid : Prop := Claim7.holds Tryz.pinned (.plain (OpenSpec.upto placeRisesSpec)) placeRisesUptoCard
end Rows
end Go.Proofs.YtgdnpemiiageaaaGreatDoor
