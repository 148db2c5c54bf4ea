/-
  DERIVED. GIVEN WITH THE SEED: THE CARDS: each row of YtcddpmappmjilaaGreatDoorRows.lean that lists a variable, with what it lists TIED to the program's text (the seventh form; the later family's looks); each row that meets fmt, with fmt's text TOLD by the authors' own Lean function (tested against real Go, not proved from fmt's source: count such statements apart). THE CARD IS WHAT COUNTS. Prove the row's statement (the work); the ties are given (YtcddpmappmjilaaGreatDoorTie.lean); close each card by the builder's one call (the guide's Derived/Test/ToyasCard.lean, 'card_holds'). Laid BY PROGRAM, IN A SANDBOX (cutbox-door.mjs). By AI agents, Wed Nov 11 2026. No macro, syntax, notation, axiom, sorry.
-/
import Derived.Test.YtcddpmappmjilaaGreatDoorRows
import GoSem.ClaimSeven
namespace Go.Proofs.YtcddpmappmjilaaGreatDoor
namespace Rows

/-- THE TIED CARD OF 'cinderlaw.RunChecks'. -/
def runChecksCard : Claim7 := { stood := { row := runChecksRow, standIns := [], harness := (true, "caffd37e2a86c146122da6da218c2055c0c1169c34ab47093884ac669795a74f"), looks := true }, kinds := [], alts := [], laidByText := true, laidKinds := [.data, .data, .data, .data, .data, .data, .data], laidTests := true, laidLooks := .later }
def RunChecksCardSaid : Prop := Claim7.holds Tryz.pinned (.plain (OpenSpec.ofChange runChecksSpec)) runChecksCard

/-- THE SECOND FORM's CARD OF 'cinderlaw.RunChecks'. -/
def runChecksUptoCard : Claim7 := { stood := { row := runChecksUptoRow, standIns := [], harness := (true, "caffd37e2a86c146122da6da218c2055c0c1169c34ab47093884ac669795a74f"), looks := true }, kinds := [], alts := [], laidByText := true, laidKinds := [.data, .data, .data, .data, .data, .data, .data], laidTests := true, laidLooks := .later }
def RunChecksUptoCardSaid : Prop := Claim7.holds Tryz.pinned (.plain (OpenSpec.upto runChecksSpec)) runChecksUptoCard
end Rows
end Go.Proofs.YtcddpmappmjilaaGreatDoor
