/-
  DERIVED. GIVEN WITH THE SEED: THE CARDS: each row of YtmnhifagkcmhjaaDoorRows.lean that lists a variable, with what it lists TIED to the program's text (the seventh form; the later family's looks); each row that meets fmt, with fmt's text TOLD by the authors' own Lean function (tested against real Go, not proved from fmt's source: count such statements apart). THE CARD IS WHAT COUNTS. Prove the row's statement (the work); the ties are given (YtmnhifagkcmhjaaDoorTie.lean); close each card by the builder's one call (the guide's Derived/Test/ToyasCard.lean, 'card_holds'). Laid BY PROGRAM, IN A SANDBOX (cutbox-door.mjs). By AI agents, Wed Nov 11 2026. No macro, syntax, notation, axiom, sorry.
-/
import Derived.Test.YtmnhifagkcmhjaaDoorRows
import GoSem.ClaimSeven
namespace Go.Proofs.YtmnhifagkcmhjaaDoor
namespace Rows

/-- THE TIED CARD OF 'speakeasylaw07.ScalarReduces'. -/
def scalarReducesCard : Claim7 := { stood := { row := scalarReducesRow, standIns := [], harness := (true, "b60984e92c847d245c758aa5d43280251360ac5956e5b70473e868ef08dbab16"), looks := true }, kinds := [], alts := [], laidByText := true, laidKinds := [.data], laidTests := true, laidLooks := .later }
def ScalarReducesCardSaid : Prop := Claim7.holds Tryd.pinned (.plain (OpenSpec.ofChange scalarReducesSpec)) scalarReducesCard

/-- THE TIED CARD OF 'speakeasylaw07.ScalarMulAdds'. -/
def scalarMulAddsCard : Claim7 := { stood := { row := scalarMulAddsRow, standIns := [], harness := (true, "b60984e92c847d245c758aa5d43280251360ac5956e5b70473e868ef08dbab16"), looks := true }, kinds := [], alts := [], laidByText := true, laidKinds := [.data], laidTests := true, laidLooks := .later }
def ScalarMulAddsCardSaid : Prop := Claim7.holds Tryd.pinned (.plain (OpenSpec.ofChange scalarMulAddsSpec)) scalarMulAddsCard

/-- THE TIED CARD OF 'speakeasylaw07.ScalarFits'. -/
def scalarFitsCard : Claim7 := { stood := { row := scalarFitsRow, standIns := [], harness := (true, "b60984e92c847d245c758aa5d43280251360ac5956e5b70473e868ef08dbab16"), looks := true }, kinds := [], alts := [], laidByText := true, laidKinds := [.data], laidTests := true, laidLooks := .later }
def ScalarFitsCardSaid : Prop := Claim7.holds Tryd.pinned (.plain (OpenSpec.ofChange scalarFitsSpec)) scalarFitsCard

/-- THE TIED CARD OF 'speakeasylaw07.ScalarRing'. -/
def scalarRingCard : Claim7 := { stood := { row := scalarRingRow, standIns := [], harness := (true, "b60984e92c847d245c758aa5d43280251360ac5956e5b70473e868ef08dbab16"), looks := true }, kinds := [], alts := [], laidByText := true, laidKinds := [.data], laidTests := true, laidLooks := .later }
def ScalarRingCardSaid : Prop := Claim7.holds Tryd.pinned (.plain (OpenSpec.ofChange scalarRingSpec)) scalarRingCard

/-- THE TIED CARD OF 'speakeasylaw08.SignHigh'. -/
def signHighCard : Claim7 := { stood := { row := signHighRow, standIns := [], harness := (true, "b60984e92c847d245c758aa5d43280251360ac5956e5b70473e868ef08dbab16"), looks := true }, kinds := [], alts := [], laidByText := true, laidKinds := [.data, .data, .data, .data], laidTests := true, laidLooks := .later }
def SignHighCardSaid : Prop := Claim7.holds Tryd.pinned (.plain (OpenSpec.ofChange signHighSpec)) signHighCard

/-- THE TIED CARD OF 'speakeasytop.SpeakMaps'. -/
def speakMapsCard : Claim7 := { stood := { row := speakMapsRow, standIns := [], harness := (true, "b60984e92c847d245c758aa5d43280251360ac5956e5b70473e868ef08dbab16"), looks := true }, kinds := [], alts := [], laidByText := true, laidKinds := [.data, .data, .data], laidTests := true, laidLooks := .later }
def SpeakMapsCardSaid : Prop := Claim7.holds Tryd.pinned (.plain (OpenSpec.ofChange speakMapsSpec)) speakMapsCard

/-- THE TIED CARD OF 'speakeasylaw04.PolyEdges'. -/
def polyEdgesCard : Claim7 := { stood := { row := polyEdgesRow, standIns := [], harness := (true, "b60984e92c847d245c758aa5d43280251360ac5956e5b70473e868ef08dbab16"), looks := true }, kinds := [], alts := [], laidByText := true, laidKinds := [.data, .sentinel, .sentinel], laidTests := true, laidLooks := .later }
def PolyEdgesCardSaid : Prop := Claim7.holds Tryd.pinned (.plain (OpenSpec.ofChange polyEdgesSpec)) polyEdgesCard

/-- THE TIED CARD OF 'speakeasylaw04.PolyOpens'. -/
def polyOpensCard : Claim7 := { stood := { row := polyOpensRow, standIns := [], harness := (true, "b60984e92c847d245c758aa5d43280251360ac5956e5b70473e868ef08dbab16"), looks := true }, kinds := [], alts := [], laidByText := true, laidKinds := [.data, .sentinel, .sentinel, .sentinel, .sentinel, .sentinel, .sentinel, .sentinel, .sentinel, .sentinel, .sentinel, .sentinel, .sentinel, .sentinel, .sentinel, .sentinel, .sentinel, .sentinel, .sentinel, .sentinel, .sentinel], laidTests := true, laidLooks := .later }
def PolyOpensCardSaid : Prop := Claim7.holds Tryd.pinned (.plain (OpenSpec.ofChange polyOpensSpec)) polyOpensCard

/-- THE TIED CARD OF 'speakeasylaw04.PolyTurned'. -/
def polyTurnedCard : Claim7 := { stood := { row := polyTurnedRow, standIns := [], harness := (true, "b60984e92c847d245c758aa5d43280251360ac5956e5b70473e868ef08dbab16"), looks := true }, kinds := [], alts := [], laidByText := true, laidKinds := [.data, .sentinel, .sentinel, .sentinel, .sentinel, .sentinel, .sentinel, .sentinel, .sentinel, .sentinel, .sentinel, .sentinel, .sentinel, .sentinel, .sentinel, .sentinel, .sentinel, .sentinel, .sentinel, .sentinel, .sentinel], laidTests := true, laidLooks := .later }
def PolyTurnedCardSaid : Prop := Claim7.holds Tryd.pinned (.plain (OpenSpec.ofChange polyTurnedSpec)) polyTurnedCard

/-- THE TIED CARD OF 'speakeasylaw05.FieldChains'. -/
def fieldChainsCard : Claim7 := { stood := { row := fieldChainsRow, standIns := [], harness := (true, "b60984e92c847d245c758aa5d43280251360ac5956e5b70473e868ef08dbab16"), looks := true }, kinds := [], alts := [], laidByText := true, laidKinds := [.data], laidTests := true, laidLooks := .later }
def FieldChainsCardSaid : Prop := Claim7.holds Tryd.pinned (.plain (OpenSpec.ofChange fieldChainsSpec)) fieldChainsCard

/-- THE TIED CARD OF 'speakeasylaw06.CurveTwo'. -/
def curveTwoCard : Claim7 := { stood := { row := curveTwoRow, standIns := [], harness := (true, "b60984e92c847d245c758aa5d43280251360ac5956e5b70473e868ef08dbab16"), looks := true }, kinds := [], alts := [], laidByText := true, laidKinds := [.data], laidTests := true, laidLooks := .later }
def CurveTwoCardSaid : Prop := Claim7.holds Tryd.pinned (.plain (OpenSpec.ofChange curveTwoSpec)) curveTwoCard

/-- THE TIED CARD OF 'speakeasylaw06.CurveClamps'. -/
def curveClampsCard : Claim7 := { stood := { row := curveClampsRow, standIns := [], harness := (true, "b60984e92c847d245c758aa5d43280251360ac5956e5b70473e868ef08dbab16"), looks := true }, kinds := [], alts := [], laidByText := true, laidKinds := [.data], laidTests := true, laidLooks := .later }
def CurveClampsCardSaid : Prop := Claim7.holds Tryd.pinned (.plain (OpenSpec.ofChange curveClampsSpec)) curveClampsCard

/-- THE TIED CARD OF 'speakeasylaw06.CurveThree'. -/
def curveThreeCard : Claim7 := { stood := { row := curveThreeRow, standIns := [], harness := (true, "b60984e92c847d245c758aa5d43280251360ac5956e5b70473e868ef08dbab16"), looks := true }, kinds := [], alts := [], laidByText := true, laidKinds := [.data], laidTests := true, laidLooks := .later }
def CurveThreeCardSaid : Prop := Claim7.holds Tryd.pinned (.plain (OpenSpec.ofChange curveThreeSpec)) curveThreeCard

/-- THE TIED CARD OF 'speakeasytop.SpeakSealed'. -/
def speakSealedCard : Claim7 := { stood := { row := speakSealedRow, standIns := [], harness := (true, "b60984e92c847d245c758aa5d43280251360ac5956e5b70473e868ef08dbab16"), looks := true }, kinds := [], alts := [], laidByText := true, laidKinds := [.data, .sentinel, .sentinel, .data], laidTests := true, laidLooks := .later }
def SpeakSealedCardSaid : Prop := Claim7.holds Tryd.pinned (.plain (OpenSpec.ofChange speakSealedSpec)) speakSealedCard

/-- THE SECOND FORM's CARD OF 'speakeasylaw07.ScalarReduces'. -/
def scalarReducesUptoCard : Claim7 := { stood := { row := scalarReducesUptoRow, standIns := [], harness := (true, "b60984e92c847d245c758aa5d43280251360ac5956e5b70473e868ef08dbab16"), looks := true }, kinds := [], alts := [], laidByText := true, laidKinds := [.data], laidTests := true, laidLooks := .later }
def ScalarReducesUptoCardSaid : Prop := Claim7.holds Tryd.pinned (.plain (OpenSpec.upto scalarReducesSpec)) scalarReducesUptoCard

/-- THE SECOND FORM's CARD OF 'speakeasylaw07.ScalarMulAdds'. -/
def scalarMulAddsUptoCard : Claim7 := { stood := { row := scalarMulAddsUptoRow, standIns := [], harness := (true, "b60984e92c847d245c758aa5d43280251360ac5956e5b70473e868ef08dbab16"), looks := true }, kinds := [], alts := [], laidByText := true, laidKinds := [.data], laidTests := true, laidLooks := .later }
def ScalarMulAddsUptoCardSaid : Prop := Claim7.holds Tryd.pinned (.plain (OpenSpec.upto scalarMulAddsSpec)) scalarMulAddsUptoCard

/-- THE SECOND FORM's CARD OF 'speakeasylaw07.ScalarFits'. -/
def scalarFitsUptoCard : Claim7 := { stood := { row := scalarFitsUptoRow, standIns := [], harness := (true, "b60984e92c847d245c758aa5d43280251360ac5956e5b70473e868ef08dbab16"), looks := true }, kinds := [], alts := [], laidByText := true, laidKinds := [.data], laidTests := true, laidLooks := .later }
def ScalarFitsUptoCardSaid : Prop := Claim7.holds Tryd.pinned (.plain (OpenSpec.upto scalarFitsSpec)) scalarFitsUptoCard

/-- THE SECOND FORM's CARD OF 'speakeasylaw07.ScalarRing'. -/
def scalarRingUptoCard : Claim7 := { stood := { row := scalarRingUptoRow, standIns := [], harness := (true, "b60984e92c847d245c758aa5d43280251360ac5956e5b70473e868ef08dbab16"), looks := true }, kinds := [], alts := [], laidByText := true, laidKinds := [.data], laidTests := true, laidLooks := .later }
def ScalarRingUptoCardSaid : Prop := Claim7.holds Tryd.pinned (.plain (OpenSpec.upto scalarRingSpec)) scalarRingUptoCard

/-- THE SECOND FORM's CARD OF 'speakeasylaw08.SignHigh'. -/
def signHighUptoCard : Claim7 := { stood := { row := signHighUptoRow, standIns := [], harness := (true, "b60984e92c847d245c758aa5d43280251360ac5956e5b70473e868ef08dbab16"), looks := true }, kinds := [], alts := [], laidByText := true, laidKinds := [.data, .data, .data, .data], laidTests := true, laidLooks := .later }
def SignHighUptoCardSaid : Prop := Claim7.holds Tryd.pinned (.plain (OpenSpec.upto signHighSpec)) signHighUptoCard

/-- THE SECOND FORM's CARD OF 'speakeasytop.SpeakMaps'. -/
def speakMapsUptoCard : Claim7 := { stood := { row := speakMapsUptoRow, standIns := [], harness := (true, "b60984e92c847d245c758aa5d43280251360ac5956e5b70473e868ef08dbab16"), looks := true }, kinds := [], alts := [], laidByText := true, laidKinds := [.data, .data, .data], laidTests := true, laidLooks := .later }
def SpeakMapsUptoCardSaid : Prop := Claim7.holds Tryd.pinned (.plain (OpenSpec.upto speakMapsSpec)) speakMapsUptoCard

/-- THE SECOND FORM's CARD OF 'speakeasylaw04.PolyEdges'. -/
def polyEdgesUptoCard : Claim7 := { stood := { row := polyEdgesUptoRow, standIns := [], harness := (true, "b60984e92c847d245c758aa5d43280251360ac5956e5b70473e868ef08dbab16"), looks := true }, kinds := [], alts := [], laidByText := true, laidKinds := [.data, .sentinel, .sentinel], laidTests := true, laidLooks := .later }
def PolyEdgesUptoCardSaid : Prop := Claim7.holds Tryd.pinned (.plain (OpenSpec.upto polyEdgesSpec)) polyEdgesUptoCard

/-- THE SECOND FORM's CARD OF 'speakeasylaw04.PolyOpens'. -/
def polyOpensUptoCard : Claim7 := { stood := { row := polyOpensUptoRow, standIns := [], harness := (true, "b60984e92c847d245c758aa5d43280251360ac5956e5b70473e868ef08dbab16"), looks := true }, kinds := [], alts := [], laidByText := true, laidKinds := [.data, .sentinel, .sentinel, .sentinel, .sentinel, .sentinel, .sentinel, .sentinel, .sentinel, .sentinel, .sentinel, .sentinel, .sentinel, .sentinel, .sentinel, .sentinel, .sentinel, .sentinel, .sentinel, .sentinel, .sentinel], laidTests := true, laidLooks := .later }
def PolyOpensUptoCardSaid : Prop := Claim7.holds Tryd.pinned (.plain (OpenSpec.upto polyOpensSpec)) polyOpensUptoCard

/-- THE SECOND FORM's CARD OF 'speakeasylaw04.PolyTurned'. -/
def polyTurnedUptoCard : Claim7 := { stood := { row := polyTurnedUptoRow, standIns := [], harness := (true, "b60984e92c847d245c758aa5d43280251360ac5956e5b70473e868ef08dbab16"), looks := true }, kinds := [], alts := [], laidByText := true, laidKinds := [.data, .sentinel, .sentinel, .sentinel, .sentinel, .sentinel, .sentinel, .sentinel, .sentinel, .sentinel, .sentinel, .sentinel, .sentinel, .sentinel, .sentinel, .sentinel, .sentinel, .sentinel, .sentinel, .sentinel, .sentinel], laidTests := true, laidLooks := .later }
def PolyTurnedUptoCardSaid : Prop := Claim7.holds Tryd.pinned (.plain (OpenSpec.upto polyTurnedSpec)) polyTurnedUptoCard

/-- THE SECOND FORM's CARD OF 'speakeasylaw05.FieldChains'. -/
def fieldChainsUptoCard : Claim7 := { stood := { row := fieldChainsUptoRow, standIns := [], harness := (true, "b60984e92c847d245c758aa5d43280251360ac5956e5b70473e868ef08dbab16"), looks := true }, kinds := [], alts := [], laidByText := true, laidKinds := [.data], laidTests := true, laidLooks := .later }
def FieldChainsUptoCardSaid : Prop := Claim7.holds Tryd.pinned (.plain (OpenSpec.upto fieldChainsSpec)) fieldChainsUptoCard

/-- THE SECOND FORM's CARD OF 'speakeasylaw06.CurveTwo'. -/
def curveTwoUptoCard : Claim7 := { stood := { row := curveTwoUptoRow, standIns := [], harness := (true, "b60984e92c847d245c758aa5d43280251360ac5956e5b70473e868ef08dbab16"), looks := true }, kinds := [], alts := [], laidByText := true, laidKinds := [.data], laidTests := true, laidLooks := .later }
def CurveTwoUptoCardSaid : Prop := Claim7.holds Tryd.pinned (.plain (OpenSpec.upto curveTwoSpec)) curveTwoUptoCard

/-- THE SECOND FORM's CARD OF 'speakeasylaw06.CurveClamps'. -/
def curveClampsUptoCard : Claim7 := { stood := { row := curveClampsUptoRow, standIns := [], harness := (true, "b60984e92c847d245c758aa5d43280251360ac5956e5b70473e868ef08dbab16"), looks := true }, kinds := [], alts := [], laidByText := true, laidKinds := [.data], laidTests := true, laidLooks := .later }
def CurveClampsUptoCardSaid : Prop := Claim7.holds Tryd.pinned (.plain (OpenSpec.upto curveClampsSpec)) curveClampsUptoCard

/-- THE SECOND FORM's CARD OF 'speakeasylaw06.CurveThree'. -/
def curveThreeUptoCard : Claim7 := { stood := { row := curveThreeUptoRow, standIns := [], harness := (true, "b60984e92c847d245c758aa5d43280251360ac5956e5b70473e868ef08dbab16"), looks := true }, kinds := [], alts := [], laidByText := true, laidKinds := [.data], laidTests := true, laidLooks := .later }
def CurveThreeUptoCardSaid : Prop := Claim7.holds Tryd.pinned (.plain (OpenSpec.upto curveThreeSpec)) curveThreeUptoCard

/-- THE SECOND FORM's CARD OF 'speakeasytop.SpeakSealed'. -/
def speakSealedUptoCard : Claim7 := { stood := { row := speakSealedUptoRow, standIns := [], harness := (true, "b60984e92c847d245c758aa5d43280251360ac5956e5b70473e868ef08dbab16"), looks := true }, kinds := [], alts := [], laidByText := true, laidKinds := [.data, .sentinel, .sentinel, .data], laidTests := true, laidLooks := .later }
def SpeakSealedUptoCardSaid : Prop := Claim7.holds Tryd.pinned (.plain (OpenSpec.upto speakSealedSpec)) speakSealedUptoCard
end Rows
end Go.Proofs.YtmnhifagkcmhjaaDoor
