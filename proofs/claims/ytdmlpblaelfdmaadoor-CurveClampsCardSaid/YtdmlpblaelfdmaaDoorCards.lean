/-
  DERIVED. GIVEN WITH THE SEED: THE CARDS: each row of YtdmlpblaelfdmaaDoorRows.lean that lists a variable, with what it lists TIED to the program's text (the seventh form; the later family's looks); each row that meets fmt, with fmt's text TOLD by the authors' own Lean function (tested against real Go, not proved from fmt's source: count such statements apart). THE CARD IS WHAT COUNTS. Prove the row's statement (the work); the ties are given (YtdmlpblaelfdmaaDoorTie.lean); close each card by the builder's one call (the guide's Derived/Test/ToyasCard.lean, 'card_holds'). Laid BY PROGRAM, IN A SANDBOX (cutbox-door.mjs). By AI agents, Wed Nov 11 2026. No macro, syntax, notation, axiom, sorry.
-/
import Derived.Test.YtdmlpblaelfdmaaDoorRows
import GoSem.ClaimSeven
namespace Go.Proofs.YtdmlpblaelfdmaaDoor
namespace Rows

/-- THE TIED CARD OF 'speakeasylaw06.CurveClamps'. -/
def curveClampsCard : Claim7 := { stood := { row := curveClampsRow, standIns := [], harness := (true, "63b9829811ed4d140a126af9b413d424fa1b5802f4057827cea4e6a3a86233e7"), looks := false }, kinds := [], alts := [], laidByText := true, laidKinds := [.data], laidTests := true, laidLooks := .later }
def CurveClampsCardSaid : Prop := Claim7.holds Tryd.pinned (.plain (OpenSpec.ofChange curveClampsSpec)) curveClampsCard

/-- THE TIED CARD OF 'speakeasylaw12.PacketParts'. -/
def packetPartsCard : Claim7 := { stood := { row := packetPartsRow, standIns := [], harness := (true, "63b9829811ed4d140a126af9b413d424fa1b5802f4057827cea4e6a3a86233e7"), looks := false }, kinds := [], alts := [], laidByText := true, laidKinds := [.data, .sentinel, .sentinel, .sentinel, .sentinel], laidTests := true, laidLooks := .later }
def PacketPartsCardSaid : Prop := Claim7.holds Tryd.pinned (.plain (OpenSpec.ofChange packetPartsSpec)) packetPartsCard

/-- THE SECOND FORM's CARD OF 'speakeasylaw06.CurveClamps'. -/
def curveClampsUptoCard : Claim7 := { stood := { row := curveClampsUptoRow, standIns := [], harness := (true, "63b9829811ed4d140a126af9b413d424fa1b5802f4057827cea4e6a3a86233e7"), looks := false }, kinds := [], alts := [], laidByText := true, laidKinds := [.data], laidTests := true, laidLooks := .later }
def CurveClampsUptoCardSaid : Prop := Claim7.holds Tryd.pinned (.plain (OpenSpec.upto curveClampsSpec)) curveClampsUptoCard

/-- THE SECOND FORM's CARD OF 'speakeasylaw12.PacketParts'. -/
def packetPartsUptoCard : Claim7 := { stood := { row := packetPartsUptoRow, standIns := [], harness := (true, "63b9829811ed4d140a126af9b413d424fa1b5802f4057827cea4e6a3a86233e7"), looks := false }, kinds := [], alts := [], laidByText := true, laidKinds := [.data, .sentinel, .sentinel, .sentinel, .sentinel], laidTests := true, laidLooks := .later }
def PacketPartsUptoCardSaid : Prop := Claim7.holds Tryd.pinned (.plain (OpenSpec.upto packetPartsSpec)) packetPartsUptoCard
end Rows
end Go.Proofs.YtdmlpblaelfdmaaDoor
