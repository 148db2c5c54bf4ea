/-
  DERIVED. GIVEN WITH THE SEED: THE CARDS: each row of YtaekpdcnnkmahaaGreatDoorRows.lean that lists a variable, with what it lists TIED to the program's text (the seventh form; the later family's looks); each row that meets fmt, with fmt's text TOLD by the authors' own Lean function (tested against real Go, not proved from fmt's source: count such statements apart). THE CARD IS WHAT COUNTS. Prove the row's statement (the work); the ties are given (YtaekpdcnnkmahaaGreatDoorTie.lean); close each card by the builder's one call (the guide's Derived/Test/ToyasCard.lean, 'card_holds'). Laid BY PROGRAM, IN A SANDBOX (cutbox-door.mjs). By AI agents, Wed Nov 11 2026. No macro, syntax, notation, axiom, sorry.
-/
import Derived.Test.YtaekpdcnnkmahaaGreatDoorRows
import GoSem.ClaimSeven
namespace Go.Proofs.YtaekpdcnnkmahaaGreatDoor
namespace Rows

/-- THE TIED CARD OF 'cinderlaw.RestImages'. -/
def restImagesCard : Claim7 := { stood := { row := restImagesRow, standIns := [], harness := (true, "761fe614d53e57f17b3735a0b7d2e18140ef02d40427be796ddd3e61e085b735"), looks := true }, kinds := [], alts := [], laidByText := true, laidKinds := [.data, .data], laidTests := true, laidLooks := .later }
def RestImagesCardSaid : Prop := Claim7.holds Tryz.pinned (.plain (OpenSpec.ofChange restImagesSpec)) restImagesCard

/-- THE SECOND FORM's CARD OF 'cinderlaw.RestImages'. -/
def restImagesUptoCard : Claim7 := { stood := { row := restImagesUptoRow, standIns := [], harness := (true, "761fe614d53e57f17b3735a0b7d2e18140ef02d40427be796ddd3e61e085b735"), looks := true }, kinds := [], alts := [], laidByText := true, laidKinds := [.data, .data], laidTests := true, laidLooks := .later }
def RestImagesUptoCardSaid : Prop := Claim7.holds Tryz.pinned (.plain (OpenSpec.upto restImagesSpec)) restImagesUptoCard
end Rows
end Go.Proofs.YtaekpdcnnkmahaaGreatDoor
