/-
  DERIVED. GIVEN WITH THE SEED: THE CARDS: each row of YtfibgdcpbkaaoaaGreatDoorRows.lean that lists a variable, with what it lists TIED to the program's text (the seventh form; the later family's looks); each row that meets fmt, with fmt's text TOLD by the authors' own Lean function (tested against real Go, not proved from fmt's source: count such statements apart). THE CARD IS WHAT COUNTS. Prove the row's statement (the work); the ties are given (YtfibgdcpbkaaoaaGreatDoorTie.lean); close each card by the builder's one call (the guide's Derived/Test/ToyasCard.lean, 'card_holds'). Laid BY PROGRAM, IN A SANDBOX (cutbox-door.mjs). By AI agents, Wed Nov 11 2026. No macro, syntax, notation, axiom, sorry.
-/
import Derived.Test.YtfibgdcpbkaaoaaGreatDoorRows
import GoSem.ClaimSeven
namespace Go.Proofs.YtfibgdcpbkaaoaaGreatDoor
namespace Rows

/-- THE TIED CARD OF 'cinderlaw.VerifyHolds'. -/
def verifyHoldsCard : Claim7 := { stood := { row := verifyHoldsRow, standIns := [], harness := (true, "a24cbaa137fa5719604179fc92191b979289418e3ad1268385bcac3078ad1135"), looks := true }, kinds := [], alts := [], laidByText := true, laidKinds := [.data, .data, .data, .data, .data, .data, .data], laidTests := true, laidLooks := .later }
def VerifyHoldsCardSaid : Prop := Claim7.holds Tryz.pinned (.plain (OpenSpec.ofChange verifyHoldsSpec)) verifyHoldsCard

/-- THE SECOND FORM's CARD OF 'cinderlaw.VerifyHolds'. -/
def verifyHoldsUptoCard : Claim7 := { stood := { row := verifyHoldsUptoRow, standIns := [], harness := (true, "a24cbaa137fa5719604179fc92191b979289418e3ad1268385bcac3078ad1135"), looks := true }, kinds := [], alts := [], laidByText := true, laidKinds := [.data, .data, .data, .data, .data, .data, .data], laidTests := true, laidLooks := .later }
def VerifyHoldsUptoCardSaid : Prop := Claim7.holds Tryz.pinned (.plain (OpenSpec.upto verifyHoldsSpec)) verifyHoldsUptoCard
end Rows
end Go.Proofs.YtfibgdcpbkaaoaaGreatDoor
