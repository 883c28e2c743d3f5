/-
  DERIVED. GIVEN WITH THE SEED: THE CARDS: each row of YtjhpelajhkhlcaaDoorRows.lean that lists a variable, with what it lists TIED to the program's text (the seventh form; the later family's looks); each row that meets fmt, with fmt's text TOLD by the authors' own Lean function (tested against real Go, not proved from fmt's source: count such statements apart). THE CARD IS WHAT COUNTS. Prove the row's statement (the work); the ties are given (YtjhpelajhkhlcaaDoorTie.lean); close each card by the builder's one call (the guide's Derived/Test/ToyasCard.lean, 'card_holds'). Laid BY PROGRAM, IN A SANDBOX (cutbox-door.mjs). By AI agents, Wed Nov 11 2026. No macro, syntax, notation, axiom, sorry.
-/
import Derived.Test.YtjhpelajhkhlcaaDoorRows
import GoSem.ClaimSeven
namespace Go.Proofs.YtjhpelajhkhlcaaDoor
namespace Rows

/-- THE TIED CARD OF 'speakeasylaw04.PolySums'. -/
def polySumsCard : Claim7 := { stood := { row := polySumsRow, standIns := [], harness := (true, "a67098185fd7711a6a7c24692cf24ab7cdc719128601fceae478aa6fbcfa233e"), looks := true }, kinds := [], alts := [], laidByText := true, laidKinds := [.data, .sentinel, .sentinel], laidTests := true, laidLooks := .later }
def PolySumsCardSaid : Prop := Claim7.holds Tryd.pinned (.plain (OpenSpec.ofChange polySumsSpec)) polySumsCard

/-- THE TIED CARD OF 'speakeasylaw04.PolyEdges'. -/
def polyEdgesCard : Claim7 := { stood := { row := polyEdgesRow, standIns := [], harness := (true, "a67098185fd7711a6a7c24692cf24ab7cdc719128601fceae478aa6fbcfa233e"), looks := true }, kinds := [], alts := [], laidByText := true, laidKinds := [.data, .sentinel, .sentinel], laidTests := true, laidLooks := .later }
def PolyEdgesCardSaid : Prop := Claim7.holds Tryd.pinned (.plain (OpenSpec.ofChange polyEdgesSpec)) polyEdgesCard

/-- THE TIED CARD OF 'speakeasylaw04.PolySeals'. -/
def polySealsCard : Claim7 := { stood := { row := polySealsRow, standIns := [], harness := (true, "a67098185fd7711a6a7c24692cf24ab7cdc719128601fceae478aa6fbcfa233e"), looks := true }, kinds := [], alts := [], laidByText := true, laidKinds := [.data, .sentinel, .sentinel], laidTests := true, laidLooks := .later }
def PolySealsCardSaid : Prop := Claim7.holds Tryd.pinned (.plain (OpenSpec.ofChange polySealsSpec)) polySealsCard

/-- THE TIED CARD OF 'speakeasylaw04.PolyOpens'. -/
def polyOpensCard : Claim7 := { stood := { row := polyOpensRow, standIns := [], harness := (true, "a67098185fd7711a6a7c24692cf24ab7cdc719128601fceae478aa6fbcfa233e"), looks := true }, kinds := [], alts := [], laidByText := true, laidKinds := [.data, .sentinel, .sentinel, .sentinel, .sentinel, .sentinel, .sentinel, .sentinel, .sentinel, .sentinel, .sentinel, .sentinel, .sentinel, .sentinel, .sentinel, .sentinel, .sentinel, .sentinel, .sentinel, .sentinel, .sentinel], laidTests := true, laidLooks := .later }
def PolyOpensCardSaid : Prop := Claim7.holds Tryd.pinned (.plain (OpenSpec.ofChange polyOpensSpec)) polyOpensCard

/-- THE TIED CARD OF 'speakeasylaw04.PolyTurned'. -/
def polyTurnedCard : Claim7 := { stood := { row := polyTurnedRow, standIns := [], harness := (true, "a67098185fd7711a6a7c24692cf24ab7cdc719128601fceae478aa6fbcfa233e"), looks := true }, kinds := [], alts := [], laidByText := true, laidKinds := [.data, .sentinel, .sentinel, .sentinel, .sentinel, .sentinel, .sentinel, .sentinel, .sentinel, .sentinel, .sentinel, .sentinel, .sentinel, .sentinel, .sentinel, .sentinel, .sentinel, .sentinel, .sentinel, .sentinel, .sentinel], laidTests := true, laidLooks := .later }
def PolyTurnedCardSaid : Prop := Claim7.holds Tryd.pinned (.plain (OpenSpec.ofChange polyTurnedSpec)) polyTurnedCard

/-- THE TIED CARD OF 'speakeasylaw05.FieldSums'. -/
def fieldSumsCard : Claim7 := { stood := { row := fieldSumsRow, standIns := [], harness := (true, "a67098185fd7711a6a7c24692cf24ab7cdc719128601fceae478aa6fbcfa233e"), looks := true }, kinds := [], alts := [], laidByText := true, laidKinds := [.data], laidTests := true, laidLooks := .later }
def FieldSumsCardSaid : Prop := Claim7.holds Tryd.pinned (.plain (OpenSpec.ofChange fieldSumsSpec)) fieldSumsCard

/-- THE TIED CARD OF 'speakeasylaw05.FieldChains'. -/
def fieldChainsCard : Claim7 := { stood := { row := fieldChainsRow, standIns := [], harness := (true, "a67098185fd7711a6a7c24692cf24ab7cdc719128601fceae478aa6fbcfa233e"), looks := true }, kinds := [], alts := [], laidByText := true, laidKinds := [.data], laidTests := true, laidLooks := .later }
def FieldChainsCardSaid : Prop := Claim7.holds Tryd.pinned (.plain (OpenSpec.ofChange fieldChainsSpec)) fieldChainsCard

/-- THE TIED CARD OF 'speakeasylaw05.FieldRoots'. -/
def fieldRootsCard : Claim7 := { stood := { row := fieldRootsRow, standIns := [], harness := (true, "a67098185fd7711a6a7c24692cf24ab7cdc719128601fceae478aa6fbcfa233e"), looks := true }, kinds := [], alts := [], laidByText := true, laidKinds := [.data, .data], laidTests := true, laidLooks := .later }
def FieldRootsCardSaid : Prop := Claim7.holds Tryd.pinned (.plain (OpenSpec.ofChange fieldRootsSpec)) fieldRootsCard

/-- THE TIED CARD OF 'speakeasylaw05.FieldRing'. -/
def fieldRingCard : Claim7 := { stood := { row := fieldRingRow, standIns := [], harness := (true, "a67098185fd7711a6a7c24692cf24ab7cdc719128601fceae478aa6fbcfa233e"), looks := true }, kinds := [], alts := [], laidByText := true, laidKinds := [.data], laidTests := true, laidLooks := .later }
def FieldRingCardSaid : Prop := Claim7.holds Tryd.pinned (.plain (OpenSpec.ofChange fieldRingSpec)) fieldRingCard

/-- THE TIED CARD OF 'speakeasylaw06.CurveMults'. -/
def curveMultsCard : Claim7 := { stood := { row := curveMultsRow, standIns := [], harness := (true, "a67098185fd7711a6a7c24692cf24ab7cdc719128601fceae478aa6fbcfa233e"), looks := true }, kinds := [], alts := [], laidByText := true, laidKinds := [.data], laidTests := true, laidLooks := .later }
def CurveMultsCardSaid : Prop := Claim7.holds Tryd.pinned (.plain (OpenSpec.ofChange curveMultsSpec)) curveMultsCard

/-- THE TIED CARD OF 'speakeasylaw06.CurveTwo'. -/
def curveTwoCard : Claim7 := { stood := { row := curveTwoRow, standIns := [], harness := (true, "a67098185fd7711a6a7c24692cf24ab7cdc719128601fceae478aa6fbcfa233e"), looks := true }, kinds := [], alts := [], laidByText := true, laidKinds := [.data], laidTests := true, laidLooks := .later }
def CurveTwoCardSaid : Prop := Claim7.holds Tryd.pinned (.plain (OpenSpec.ofChange curveTwoSpec)) curveTwoCard

/-- THE TIED CARD OF 'speakeasylaw06.CurveClamps'. -/
def curveClampsCard : Claim7 := { stood := { row := curveClampsRow, standIns := [], harness := (true, "a67098185fd7711a6a7c24692cf24ab7cdc719128601fceae478aa6fbcfa233e"), looks := true }, kinds := [], alts := [], laidByText := true, laidKinds := [.data], laidTests := true, laidLooks := .later }
def CurveClampsCardSaid : Prop := Claim7.holds Tryd.pinned (.plain (OpenSpec.ofChange curveClampsSpec)) curveClampsCard

/-- THE TIED CARD OF 'speakeasylaw06.CurveThree'. -/
def curveThreeCard : Claim7 := { stood := { row := curveThreeRow, standIns := [], harness := (true, "a67098185fd7711a6a7c24692cf24ab7cdc719128601fceae478aa6fbcfa233e"), looks := true }, kinds := [], alts := [], laidByText := true, laidKinds := [.data], laidTests := true, laidLooks := .later }
def CurveThreeCardSaid : Prop := Claim7.holds Tryd.pinned (.plain (OpenSpec.ofChange curveThreeSpec)) curveThreeCard

/-- THE TIED CARD OF 'speakeasytop.SpeakSealed'. -/
def speakSealedCard : Claim7 := { stood := { row := speakSealedRow, standIns := [], harness := (true, "a67098185fd7711a6a7c24692cf24ab7cdc719128601fceae478aa6fbcfa233e"), looks := true }, kinds := [], alts := [], laidByText := true, laidKinds := [.data, .sentinel, .sentinel, .data], laidTests := true, laidLooks := .later }
def SpeakSealedCardSaid : Prop := Claim7.holds Tryd.pinned (.plain (OpenSpec.ofChange speakSealedSpec)) speakSealedCard

/-- THE SECOND FORM's CARD OF 'speakeasylaw04.PolySums'. -/
def polySumsUptoCard : Claim7 := { stood := { row := polySumsUptoRow, standIns := [], harness := (true, "a67098185fd7711a6a7c24692cf24ab7cdc719128601fceae478aa6fbcfa233e"), looks := true }, kinds := [], alts := [], laidByText := true, laidKinds := [.data, .sentinel, .sentinel], laidTests := true, laidLooks := .later }
def PolySumsUptoCardSaid : Prop := Claim7.holds Tryd.pinned (.plain (OpenSpec.upto polySumsSpec)) polySumsUptoCard

/-- THE SECOND FORM's CARD OF 'speakeasylaw04.PolyEdges'. -/
def polyEdgesUptoCard : Claim7 := { stood := { row := polyEdgesUptoRow, standIns := [], harness := (true, "a67098185fd7711a6a7c24692cf24ab7cdc719128601fceae478aa6fbcfa233e"), looks := true }, kinds := [], alts := [], laidByText := true, laidKinds := [.data, .sentinel, .sentinel], laidTests := true, laidLooks := .later }
def PolyEdgesUptoCardSaid : Prop := Claim7.holds Tryd.pinned (.plain (OpenSpec.upto polyEdgesSpec)) polyEdgesUptoCard

/-- THE SECOND FORM's CARD OF 'speakeasylaw04.PolySeals'. -/
def polySealsUptoCard : Claim7 := { stood := { row := polySealsUptoRow, standIns := [], harness := (true, "a67098185fd7711a6a7c24692cf24ab7cdc719128601fceae478aa6fbcfa233e"), looks := true }, kinds := [], alts := [], laidByText := true, laidKinds := [.data, .sentinel, .sentinel], laidTests := true, laidLooks := .later }
def PolySealsUptoCardSaid : Prop := Claim7.holds Tryd.pinned (.plain (OpenSpec.upto polySealsSpec)) polySealsUptoCard

/-- THE SECOND FORM's CARD OF 'speakeasylaw04.PolyOpens'. -/
def polyOpensUptoCard : Claim7 := { stood := { row := polyOpensUptoRow, standIns := [], harness := (true, "a67098185fd7711a6a7c24692cf24ab7cdc719128601fceae478aa6fbcfa233e"), looks := true }, kinds := [], alts := [], laidByText := true, laidKinds := [.data, .sentinel, .sentinel, .sentinel, .sentinel, .sentinel, .sentinel, .sentinel, .sentinel, .sentinel, .sentinel, .sentinel, .sentinel, .sentinel, .sentinel, .sentinel, .sentinel, .sentinel, .sentinel, .sentinel, .sentinel], laidTests := true, laidLooks := .later }
def PolyOpensUptoCardSaid : Prop := Claim7.holds Tryd.pinned (.plain (OpenSpec.upto polyOpensSpec)) polyOpensUptoCard

/-- THE SECOND FORM's CARD OF 'speakeasylaw04.PolyTurned'. -/
def polyTurnedUptoCard : Claim7 := { stood := { row := polyTurnedUptoRow, standIns := [], harness := (true, "a67098185fd7711a6a7c24692cf24ab7cdc719128601fceae478aa6fbcfa233e"), looks := true }, kinds := [], alts := [], laidByText := true, laidKinds := [.data, .sentinel, .sentinel, .sentinel, .sentinel, .sentinel, .sentinel, .sentinel, .sentinel, .sentinel, .sentinel, .sentinel, .sentinel, .sentinel, .sentinel, .sentinel, .sentinel, .sentinel, .sentinel, .sentinel, .sentinel], laidTests := true, laidLooks := .later }
def PolyTurnedUptoCardSaid : Prop := Claim7.holds Tryd.pinned (.plain (OpenSpec.upto polyTurnedSpec)) polyTurnedUptoCard

/-- THE SECOND FORM's CARD OF 'speakeasylaw05.FieldSums'. -/
def fieldSumsUptoCard : Claim7 := { stood := { row := fieldSumsUptoRow, standIns := [], harness := (true, "a67098185fd7711a6a7c24692cf24ab7cdc719128601fceae478aa6fbcfa233e"), looks := true }, kinds := [], alts := [], laidByText := true, laidKinds := [.data], laidTests := true, laidLooks := .later }
def FieldSumsUptoCardSaid : Prop := Claim7.holds Tryd.pinned (.plain (OpenSpec.upto fieldSumsSpec)) fieldSumsUptoCard

/-- THE SECOND FORM's CARD OF 'speakeasylaw05.FieldChains'. -/
def fieldChainsUptoCard : Claim7 := { stood := { row := fieldChainsUptoRow, standIns := [], harness := (true, "a67098185fd7711a6a7c24692cf24ab7cdc719128601fceae478aa6fbcfa233e"), looks := true }, kinds := [], alts := [], laidByText := true, laidKinds := [.data], laidTests := true, laidLooks := .later }
def FieldChainsUptoCardSaid : Prop := Claim7.holds Tryd.pinned (.plain (OpenSpec.upto fieldChainsSpec)) fieldChainsUptoCard

/-- THE SECOND FORM's CARD OF 'speakeasylaw05.FieldRoots'. -/
def fieldRootsUptoCard : Claim7 := { stood := { row := fieldRootsUptoRow, standIns := [], harness := (true, "a67098185fd7711a6a7c24692cf24ab7cdc719128601fceae478aa6fbcfa233e"), looks := true }, kinds := [], alts := [], laidByText := true, laidKinds := [.data, .data], laidTests := true, laidLooks := .later }
def FieldRootsUptoCardSaid : Prop := Claim7.holds Tryd.pinned (.plain (OpenSpec.upto fieldRootsSpec)) fieldRootsUptoCard

/-- THE SECOND FORM's CARD OF 'speakeasylaw05.FieldRing'. -/
def fieldRingUptoCard : Claim7 := { stood := { row := fieldRingUptoRow, standIns := [], harness := (true, "a67098185fd7711a6a7c24692cf24ab7cdc719128601fceae478aa6fbcfa233e"), looks := true }, kinds := [], alts := [], laidByText := true, laidKinds := [.data], laidTests := true, laidLooks := .later }
def FieldRingUptoCardSaid : Prop := Claim7.holds Tryd.pinned (.plain (OpenSpec.upto fieldRingSpec)) fieldRingUptoCard

/-- THE SECOND FORM's CARD OF 'speakeasylaw06.CurveMults'. -/
def curveMultsUptoCard : Claim7 := { stood := { row := curveMultsUptoRow, standIns := [], harness := (true, "a67098185fd7711a6a7c24692cf24ab7cdc719128601fceae478aa6fbcfa233e"), looks := true }, kinds := [], alts := [], laidByText := true, laidKinds := [.data], laidTests := true, laidLooks := .later }
def CurveMultsUptoCardSaid : Prop := Claim7.holds Tryd.pinned (.plain (OpenSpec.upto curveMultsSpec)) curveMultsUptoCard

/-- THE SECOND FORM's CARD OF 'speakeasylaw06.CurveTwo'. -/
def curveTwoUptoCard : Claim7 := { stood := { row := curveTwoUptoRow, standIns := [], harness := (true, "a67098185fd7711a6a7c24692cf24ab7cdc719128601fceae478aa6fbcfa233e"), looks := true }, kinds := [], alts := [], laidByText := true, laidKinds := [.data], laidTests := true, laidLooks := .later }
def CurveTwoUptoCardSaid : Prop := Claim7.holds Tryd.pinned (.plain (OpenSpec.upto curveTwoSpec)) curveTwoUptoCard

/-- THE SECOND FORM's CARD OF 'speakeasylaw06.CurveClamps'. -/
def curveClampsUptoCard : Claim7 := { stood := { row := curveClampsUptoRow, standIns := [], harness := (true, "a67098185fd7711a6a7c24692cf24ab7cdc719128601fceae478aa6fbcfa233e"), looks := true }, kinds := [], alts := [], laidByText := true, laidKinds := [.data], laidTests := true, laidLooks := .later }
def CurveClampsUptoCardSaid : Prop := Claim7.holds Tryd.pinned (.plain (OpenSpec.upto curveClampsSpec)) curveClampsUptoCard

/-- THE SECOND FORM's CARD OF 'speakeasylaw06.CurveThree'. -/
def curveThreeUptoCard : Claim7 := { stood := { row := curveThreeUptoRow, standIns := [], harness := (true, "a67098185fd7711a6a7c24692cf24ab7cdc719128601fceae478aa6fbcfa233e"), looks := true }, kinds := [], alts := [], laidByText := true, laidKinds := [.data], laidTests := true, laidLooks := .later }
def CurveThreeUptoCardSaid : Prop := Claim7.holds Tryd.pinned (.plain (OpenSpec.upto curveThreeSpec)) curveThreeUptoCard

/-- THE SECOND FORM's CARD OF 'speakeasytop.SpeakSealed'. -/
def speakSealedUptoCard : Claim7 := { stood := { row := speakSealedUptoRow, standIns := [], harness := (true, "a67098185fd7711a6a7c24692cf24ab7cdc719128601fceae478aa6fbcfa233e"), looks := true }, kinds := [], alts := [], laidByText := true, laidKinds := [.data, .sentinel, .sentinel, .data], laidTests := true, laidLooks := .later }
def SpeakSealedUptoCardSaid : Prop := Claim7.holds Tryd.pinned (.plain (OpenSpec.upto speakSealedSpec)) speakSealedUptoCard
end Rows
end Go.Proofs.YtjhpelajhkhlcaaDoor
