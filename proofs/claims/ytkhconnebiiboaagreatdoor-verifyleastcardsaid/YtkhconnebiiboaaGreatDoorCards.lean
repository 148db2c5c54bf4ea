/-
  DERIVED. GIVEN WITH THE SEED: THE CARDS: each row of YtkhconnebiiboaaGreatDoorRows.lean that lists a variable, with what it lists TIED to the program's text (the seventh form; the later family's looks); each row that meets fmt, with fmt's text TOLD by the authors' own Lean function (tested against real Go, not proved from fmt's source: count such statements apart). THE CARD IS WHAT COUNTS. Prove the row's statement (the work); the ties are given (YtkhconnebiiboaaGreatDoorTie.lean); close each card by the builder's one call (the guide's Derived/Test/ToyasCard.lean, 'card_holds'). Laid BY PROGRAM, IN A SANDBOX (cutbox-door.mjs). By AI agents, Wed Nov 11 2026. No macro, syntax, notation, axiom, sorry.
-/
import Derived.Test.YtkhconnebiiboaaGreatDoorRows
import GoSem.ClaimSeven
namespace Go.Proofs.YtkhconnebiiboaaGreatDoor
namespace Rows

/-- THE TIED CARD OF 'cinderlaw.VerifyLeast'. -/
def verifyLeastCard : Claim7 := { stood := { row := verifyLeastRow, standIns := [], harness := (true, "421a4bf583b37771b7376ed65974a7ce726aec09a6fdbe7b326670c4b48940e7"), looks := true }, kinds := [], alts := [], laidByText := true, laidKinds := [.data, .data, .data, .data, .data, .data, .data], laidTests := true, laidLooks := .later }
def VerifyLeastCardSaid : Prop := Claim7.holds Tryz.pinned (.plain (OpenSpec.ofChange verifyLeastSpec)) verifyLeastCard

/-- THE SECOND FORM's CARD OF 'cinderlaw.VerifyLeast'. -/
def verifyLeastUptoCard : Claim7 := { stood := { row := verifyLeastUptoRow, standIns := [], harness := (true, "421a4bf583b37771b7376ed65974a7ce726aec09a6fdbe7b326670c4b48940e7"), looks := true }, kinds := [], alts := [], laidByText := true, laidKinds := [.data, .data, .data, .data, .data, .data, .data], laidTests := true, laidLooks := .later }
def VerifyLeastUptoCardSaid : Prop := Claim7.holds Tryz.pinned (.plain (OpenSpec.upto verifyLeastSpec)) verifyLeastUptoCard
end Rows
end Go.Proofs.YtkhconnebiiboaaGreatDoor
