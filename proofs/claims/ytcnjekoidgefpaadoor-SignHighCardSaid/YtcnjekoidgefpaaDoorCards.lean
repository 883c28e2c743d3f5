/-
  DERIVED. GIVEN WITH THE SEED: THE CARDS: each row of YtcnjekoidgefpaaDoorRows.lean that lists a variable, with what it lists TIED to the program's text (the seventh form; the later family's looks); each row that meets fmt, with fmt's text TOLD by the authors' own Lean function (tested against real Go, not proved from fmt's source: count such statements apart). THE CARD IS WHAT COUNTS. Prove the row's statement (the work); the ties are given (YtcnjekoidgefpaaDoorTie.lean); close each card by the builder's one call (the guide's Derived/Test/ToyasCard.lean, 'card_holds'). Laid BY PROGRAM, IN A SANDBOX (cutbox-door.mjs). By AI agents, Wed Nov 11 2026. No macro, syntax, notation, axiom, sorry.
-/
import Derived.Test.YtcnjekoidgefpaaDoorRows
import GoSem.ClaimSeven
namespace Go.Proofs.YtcnjekoidgefpaaDoor
namespace Rows

/-- THE TIED CARD OF 'speakeasylaw08.SignHigh'. -/
def signHighCard : Claim7 := { stood := { row := signHighRow, standIns := [], harness := (true, "3a8dcc3f6e92f45e558a702ceef0a537f2bf8dd3ed63b0621ef49c6b8244bb1c"), looks := false }, kinds := [], alts := [], laidByText := true, laidKinds := [.data, .data, .data, .data], laidTests := true, laidLooks := .later }
def SignHighCardSaid : Prop := Claim7.holds Tryd.pinned (.plain (OpenSpec.ofChange signHighSpec)) signHighCard

/-- THE TIED CARD OF 'speakeasylaw12.PacketParts'. -/
def packetPartsCard : Claim7 := { stood := { row := packetPartsRow, standIns := [], harness := (true, "3a8dcc3f6e92f45e558a702ceef0a537f2bf8dd3ed63b0621ef49c6b8244bb1c"), looks := false }, kinds := [], alts := [], laidByText := true, laidKinds := [.data, .sentinel, .sentinel, .sentinel, .sentinel], laidTests := true, laidLooks := .later }
def PacketPartsCardSaid : Prop := Claim7.holds Tryd.pinned (.plain (OpenSpec.ofChange packetPartsSpec)) packetPartsCard

/-- THE TIED CARD OF 'speakeasytop.SpeakSealed'. -/
def speakSealedCard : Claim7 := { stood := { row := speakSealedRow, standIns := [], harness := (true, "3a8dcc3f6e92f45e558a702ceef0a537f2bf8dd3ed63b0621ef49c6b8244bb1c"), looks := false }, kinds := [], alts := [], laidByText := true, laidKinds := [.data, .sentinel, .sentinel, .data], laidTests := true, laidLooks := .later }
def SpeakSealedCardSaid : Prop := Claim7.holds Tryd.pinned (.plain (OpenSpec.ofChange speakSealedSpec)) speakSealedCard

/-- THE TIED CARD OF 'speakeasytop.SpeakMaps'. -/
def speakMapsCard : Claim7 := { stood := { row := speakMapsRow, standIns := [], harness := (true, "3a8dcc3f6e92f45e558a702ceef0a537f2bf8dd3ed63b0621ef49c6b8244bb1c"), looks := false }, kinds := [], alts := [], laidByText := true, laidKinds := [.data, .data, .data], laidTests := true, laidLooks := .later }
def SpeakMapsCardSaid : Prop := Claim7.holds Tryd.pinned (.plain (OpenSpec.ofChange speakMapsSpec)) speakMapsCard

/-- THE SECOND FORM's CARD OF 'speakeasylaw08.SignHigh'. -/
def signHighUptoCard : Claim7 := { stood := { row := signHighUptoRow, standIns := [], harness := (true, "3a8dcc3f6e92f45e558a702ceef0a537f2bf8dd3ed63b0621ef49c6b8244bb1c"), looks := false }, kinds := [], alts := [], laidByText := true, laidKinds := [.data, .data, .data, .data], laidTests := true, laidLooks := .later }
def SignHighUptoCardSaid : Prop := Claim7.holds Tryd.pinned (.plain (OpenSpec.upto signHighSpec)) signHighUptoCard

/-- THE SECOND FORM's CARD OF 'speakeasylaw12.PacketParts'. -/
def packetPartsUptoCard : Claim7 := { stood := { row := packetPartsUptoRow, standIns := [], harness := (true, "3a8dcc3f6e92f45e558a702ceef0a537f2bf8dd3ed63b0621ef49c6b8244bb1c"), looks := false }, kinds := [], alts := [], laidByText := true, laidKinds := [.data, .sentinel, .sentinel, .sentinel, .sentinel], laidTests := true, laidLooks := .later }
def PacketPartsUptoCardSaid : Prop := Claim7.holds Tryd.pinned (.plain (OpenSpec.upto packetPartsSpec)) packetPartsUptoCard

/-- THE SECOND FORM's CARD OF 'speakeasytop.SpeakSealed'. -/
def speakSealedUptoCard : Claim7 := { stood := { row := speakSealedUptoRow, standIns := [], harness := (true, "3a8dcc3f6e92f45e558a702ceef0a537f2bf8dd3ed63b0621ef49c6b8244bb1c"), looks := false }, kinds := [], alts := [], laidByText := true, laidKinds := [.data, .sentinel, .sentinel, .data], laidTests := true, laidLooks := .later }
def SpeakSealedUptoCardSaid : Prop := Claim7.holds Tryd.pinned (.plain (OpenSpec.upto speakSealedSpec)) speakSealedUptoCard

/-- THE SECOND FORM's CARD OF 'speakeasytop.SpeakMaps'. -/
def speakMapsUptoCard : Claim7 := { stood := { row := speakMapsUptoRow, standIns := [], harness := (true, "3a8dcc3f6e92f45e558a702ceef0a537f2bf8dd3ed63b0621ef49c6b8244bb1c"), looks := false }, kinds := [], alts := [], laidByText := true, laidKinds := [.data, .data, .data], laidTests := true, laidLooks := .later }
def SpeakMapsUptoCardSaid : Prop := Claim7.holds Tryd.pinned (.plain (OpenSpec.upto speakMapsSpec)) speakMapsUptoCard
end Rows
end Go.Proofs.YtcnjekoidgefpaaDoor
