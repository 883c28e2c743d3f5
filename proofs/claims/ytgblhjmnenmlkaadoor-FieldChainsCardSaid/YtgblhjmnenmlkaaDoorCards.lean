/-
  DERIVED. GIVEN WITH THE SEED: THE CARDS: each row of YtgblhjmnenmlkaaDoorRows.lean that lists a variable, with what it lists TIED to the program's text (the seventh form; the later family's looks); each row that meets fmt, with fmt's text TOLD by the authors' own Lean function (tested against real Go, not proved from fmt's source: count such statements apart). THE CARD IS WHAT COUNTS. Prove the row's statement (the work); the ties are given (YtgblhjmnenmlkaaDoorTie.lean); close each card by the builder's one call (the guide's Derived/Test/ToyasCard.lean, 'card_holds'). Laid BY PROGRAM, IN A SANDBOX (cutbox-door.mjs). By AI agents, Wed Nov 11 2026. No macro, syntax, notation, axiom, sorry.
-/
import Derived.Test.YtgblhjmnenmlkaaDoorRows
import GoSem.ClaimSeven
namespace Go.Proofs.YtgblhjmnenmlkaaDoor
namespace Rows

/-- THE TIED CARD OF 'speakeasylaw04.PolyEdges'. -/
def polyEdgesCard : Claim7 := { stood := { row := polyEdgesRow, standIns := [], harness := (true, "2035a523f8fbaf2421a77dcac3f7b93522b1b119323292cc90274a8cf63ff6f0"), looks := true }, kinds := [], alts := [], laidByText := true, laidKinds := [.data, .sentinel, .sentinel], laidTests := true, laidLooks := .later }
def PolyEdgesCardSaid : Prop := Claim7.holds Tryd.pinned (.plain (OpenSpec.ofChange polyEdgesSpec)) polyEdgesCard

/-- THE TIED CARD OF 'speakeasylaw04.PolyOpens'. -/
def polyOpensCard : Claim7 := { stood := { row := polyOpensRow, standIns := [], harness := (true, "2035a523f8fbaf2421a77dcac3f7b93522b1b119323292cc90274a8cf63ff6f0"), looks := true }, kinds := [], alts := [], laidByText := true, laidKinds := [.data, .sentinel, .sentinel, .sentinel, .sentinel, .sentinel, .sentinel, .sentinel, .sentinel, .sentinel, .sentinel, .sentinel, .sentinel, .sentinel, .sentinel, .sentinel, .sentinel, .sentinel, .sentinel, .sentinel, .sentinel], laidTests := true, laidLooks := .later }
def PolyOpensCardSaid : Prop := Claim7.holds Tryd.pinned (.plain (OpenSpec.ofChange polyOpensSpec)) polyOpensCard

/-- THE TIED CARD OF 'speakeasylaw04.PolyTurned'. -/
def polyTurnedCard : Claim7 := { stood := { row := polyTurnedRow, standIns := [], harness := (true, "2035a523f8fbaf2421a77dcac3f7b93522b1b119323292cc90274a8cf63ff6f0"), looks := true }, kinds := [], alts := [], laidByText := true, laidKinds := [.data, .sentinel, .sentinel, .sentinel, .sentinel, .sentinel, .sentinel, .sentinel, .sentinel, .sentinel, .sentinel, .sentinel, .sentinel, .sentinel, .sentinel, .sentinel, .sentinel, .sentinel, .sentinel, .sentinel, .sentinel], laidTests := true, laidLooks := .later }
def PolyTurnedCardSaid : Prop := Claim7.holds Tryd.pinned (.plain (OpenSpec.ofChange polyTurnedSpec)) polyTurnedCard

/-- THE TIED CARD OF 'speakeasylaw05.FieldChains'. -/
def fieldChainsCard : Claim7 := { stood := { row := fieldChainsRow, standIns := [], harness := (true, "2035a523f8fbaf2421a77dcac3f7b93522b1b119323292cc90274a8cf63ff6f0"), looks := true }, kinds := [], alts := [], laidByText := true, laidKinds := [.data], laidTests := true, laidLooks := .later }
def FieldChainsCardSaid : Prop := Claim7.holds Tryd.pinned (.plain (OpenSpec.ofChange fieldChainsSpec)) fieldChainsCard

/-- THE TIED CARD OF 'speakeasylaw12.PacketParts'. -/
def packetPartsCard : Claim7 := { stood := { row := packetPartsRow, standIns := [], harness := (true, "2035a523f8fbaf2421a77dcac3f7b93522b1b119323292cc90274a8cf63ff6f0"), looks := true }, kinds := [], alts := [], laidByText := true, laidKinds := [.data, .sentinel, .sentinel, .sentinel, .sentinel], laidTests := true, laidLooks := .later }
def PacketPartsCardSaid : Prop := Claim7.holds Tryd.pinned (.plain (OpenSpec.ofChange packetPartsSpec)) packetPartsCard

/-- THE TIED CARD OF 'speakeasylaw12.PacketLong'. -/
def packetLongCard : Claim7 := { stood := { row := packetLongRow, standIns := [], harness := (true, "2035a523f8fbaf2421a77dcac3f7b93522b1b119323292cc90274a8cf63ff6f0"), looks := true }, kinds := [], alts := [], laidByText := true, laidKinds := [.data, .sentinel, .sentinel, .sentinel, .sentinel, .sentinel, .sentinel, .sentinel, .sentinel, .sentinel, .sentinel, .sentinel, .sentinel, .sentinel, .sentinel, .sentinel, .sentinel, .sentinel, .sentinel, .sentinel, .sentinel], laidTests := true, laidLooks := .later }
def PacketLongCardSaid : Prop := Claim7.holds Tryd.pinned (.plain (OpenSpec.ofChange packetLongSpec)) packetLongCard

/-- THE SECOND FORM's CARD OF 'speakeasylaw04.PolyEdges'. -/
def polyEdgesUptoCard : Claim7 := { stood := { row := polyEdgesUptoRow, standIns := [], harness := (true, "2035a523f8fbaf2421a77dcac3f7b93522b1b119323292cc90274a8cf63ff6f0"), looks := true }, kinds := [], alts := [], laidByText := true, laidKinds := [.data, .sentinel, .sentinel], laidTests := true, laidLooks := .later }
def PolyEdgesUptoCardSaid : Prop := Claim7.holds Tryd.pinned (.plain (OpenSpec.upto polyEdgesSpec)) polyEdgesUptoCard

/-- THE SECOND FORM's CARD OF 'speakeasylaw04.PolyOpens'. -/
def polyOpensUptoCard : Claim7 := { stood := { row := polyOpensUptoRow, standIns := [], harness := (true, "2035a523f8fbaf2421a77dcac3f7b93522b1b119323292cc90274a8cf63ff6f0"), looks := true }, kinds := [], alts := [], laidByText := true, laidKinds := [.data, .sentinel, .sentinel, .sentinel, .sentinel, .sentinel, .sentinel, .sentinel, .sentinel, .sentinel, .sentinel, .sentinel, .sentinel, .sentinel, .sentinel, .sentinel, .sentinel, .sentinel, .sentinel, .sentinel, .sentinel], laidTests := true, laidLooks := .later }
def PolyOpensUptoCardSaid : Prop := Claim7.holds Tryd.pinned (.plain (OpenSpec.upto polyOpensSpec)) polyOpensUptoCard

/-- THE SECOND FORM's CARD OF 'speakeasylaw04.PolyTurned'. -/
def polyTurnedUptoCard : Claim7 := { stood := { row := polyTurnedUptoRow, standIns := [], harness := (true, "2035a523f8fbaf2421a77dcac3f7b93522b1b119323292cc90274a8cf63ff6f0"), looks := true }, kinds := [], alts := [], laidByText := true, laidKinds := [.data, .sentinel, .sentinel, .sentinel, .sentinel, .sentinel, .sentinel, .sentinel, .sentinel, .sentinel, .sentinel, .sentinel, .sentinel, .sentinel, .sentinel, .sentinel, .sentinel, .sentinel, .sentinel, .sentinel, .sentinel], laidTests := true, laidLooks := .later }
def PolyTurnedUptoCardSaid : Prop := Claim7.holds Tryd.pinned (.plain (OpenSpec.upto polyTurnedSpec)) polyTurnedUptoCard

/-- THE SECOND FORM's CARD OF 'speakeasylaw05.FieldChains'. -/
def fieldChainsUptoCard : Claim7 := { stood := { row := fieldChainsUptoRow, standIns := [], harness := (true, "2035a523f8fbaf2421a77dcac3f7b93522b1b119323292cc90274a8cf63ff6f0"), looks := true }, kinds := [], alts := [], laidByText := true, laidKinds := [.data], laidTests := true, laidLooks := .later }
def FieldChainsUptoCardSaid : Prop := Claim7.holds Tryd.pinned (.plain (OpenSpec.upto fieldChainsSpec)) fieldChainsUptoCard

/-- THE SECOND FORM's CARD OF 'speakeasylaw12.PacketParts'. -/
def packetPartsUptoCard : Claim7 := { stood := { row := packetPartsUptoRow, standIns := [], harness := (true, "2035a523f8fbaf2421a77dcac3f7b93522b1b119323292cc90274a8cf63ff6f0"), looks := true }, kinds := [], alts := [], laidByText := true, laidKinds := [.data, .sentinel, .sentinel, .sentinel, .sentinel], laidTests := true, laidLooks := .later }
def PacketPartsUptoCardSaid : Prop := Claim7.holds Tryd.pinned (.plain (OpenSpec.upto packetPartsSpec)) packetPartsUptoCard

/-- THE SECOND FORM's CARD OF 'speakeasylaw12.PacketLong'. -/
def packetLongUptoCard : Claim7 := { stood := { row := packetLongUptoRow, standIns := [], harness := (true, "2035a523f8fbaf2421a77dcac3f7b93522b1b119323292cc90274a8cf63ff6f0"), looks := true }, kinds := [], alts := [], laidByText := true, laidKinds := [.data, .sentinel, .sentinel, .sentinel, .sentinel, .sentinel, .sentinel, .sentinel, .sentinel, .sentinel, .sentinel, .sentinel, .sentinel, .sentinel, .sentinel, .sentinel, .sentinel, .sentinel, .sentinel, .sentinel, .sentinel], laidTests := true, laidLooks := .later }
def PacketLongUptoCardSaid : Prop := Claim7.holds Tryd.pinned (.plain (OpenSpec.upto packetLongSpec)) packetLongUptoCard
end Rows
end Go.Proofs.YtgblhjmnenmlkaaDoor
