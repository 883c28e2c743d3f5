/-
  DERIVED. GIVEN WITH THE SEED: THE CARDS: each row of YtaelhapmikijnaaGreatDoorRows.lean that lists a variable, with what it lists TIED to the program's text (the seventh form; the later family's looks); each row that meets fmt, with fmt's text TOLD by the authors' own Lean function (tested against real Go, not proved from fmt's source: count such statements apart). THE CARD IS WHAT COUNTS. Prove the row's statement (the work); the ties are given (YtaelhapmikijnaaGreatDoorTie.lean); close each card by the builder's one call (the guide's Derived/Test/ToyasCard.lean, 'card_holds'). Laid BY PROGRAM, IN A SANDBOX (cutbox-door.mjs). By AI agents, Wed Nov 11 2026. No macro, syntax, notation, axiom, sorry.
-/
import Derived.Test.YtaelhapmikijnaaGreatDoorRows
import GoSem.ClaimSeven
namespace Go.Proofs.YtaelhapmikijnaaGreatDoor
namespace Rows

/-- THE TIED CARD OF 'speakeasylaw10.MessageBlobs'. -/
def messageBlobsCard : Claim7 := { stood := { row := messageBlobsRow, standIns := [], harness := (true, "ff303c5a753c3c59a3025f62c22e74e008b04b4190d1193e1e91816f28c24786"), looks := true }, kinds := [], alts := [], laidByText := true, laidKinds := [.data, .handle, .sentinel, .sentinel, .sentinel, .sentinel, .sentinel, .sentinel, .sentinel, .sentinel, .sentinel, .sentinel, .sentinel, .sentinel, .sentinel, .sentinel, .sentinel, .sentinel, .sentinel, .sentinel, .sentinel, .sentinel, .data, .pinned], laidTests := true, laidLooks := .later }
def MessageBlobsCardSaid : Prop := Claim7.holds Tryz.pinned (.plain (OpenSpec.ofChange messageBlobsSpec)) messageBlobsCard

/-- THE SECOND FORM's CARD OF 'speakeasylaw10.MessageBlobs'. -/
def messageBlobsUptoCard : Claim7 := { stood := { row := messageBlobsUptoRow, standIns := [], harness := (true, "ff303c5a753c3c59a3025f62c22e74e008b04b4190d1193e1e91816f28c24786"), looks := true }, kinds := [], alts := [], laidByText := true, laidKinds := [.data, .handle, .sentinel, .sentinel, .sentinel, .sentinel, .sentinel, .sentinel, .sentinel, .sentinel, .sentinel, .sentinel, .sentinel, .sentinel, .sentinel, .sentinel, .sentinel, .sentinel, .sentinel, .sentinel, .sentinel, .sentinel, .data, .pinned], laidTests := true, laidLooks := .later }
def MessageBlobsUptoCardSaid : Prop := Claim7.holds Tryz.pinned (.plain (OpenSpec.upto messageBlobsSpec)) messageBlobsUptoCard
end Rows
end Go.Proofs.YtaelhapmikijnaaGreatDoor
