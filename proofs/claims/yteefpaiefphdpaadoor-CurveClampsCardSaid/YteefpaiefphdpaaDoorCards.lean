/-
  DERIVED. GIVEN WITH THE SEED: THE CARDS: each row of YteefpaiefphdpaaDoorRows.lean that lists a variable, with what it lists TIED to the program's text (the seventh form; the later family's looks); each row that meets fmt, with fmt's text TOLD by the authors' own Lean function (tested against real Go, not proved from fmt's source: count such statements apart). THE CARD IS WHAT COUNTS. Prove the row's statement (the work); the ties are given (YteefpaiefphdpaaDoorTie.lean); close each card by the builder's one call (the guide's Derived/Test/ToyasCard.lean, 'card_holds'). Laid BY PROGRAM, IN A SANDBOX (cutbox-door.mjs). By AI agents, Wed Nov 11 2026. No macro, syntax, notation, axiom, sorry.
-/
import Derived.Test.YteefpaiefphdpaaDoorRows
import GoSem.ClaimSeven
namespace Go.Proofs.YteefpaiefphdpaaDoor
namespace Rows

/-- THE TIED CARD OF 'speakeasylaw04.PolyOpens'. -/
def polyOpensCard : Claim7 := { stood := { row := polyOpensRow, standIns := [], harness := (true, "a51230cfbd6b53146427ca853bd26046f9fe964f191a00ca56d22db70bd805c8"), looks := true }, kinds := [], alts := [], laidByText := true, laidKinds := [.data, .sentinel, .sentinel, .sentinel, .sentinel, .sentinel, .sentinel, .sentinel, .sentinel, .sentinel, .sentinel, .sentinel, .sentinel, .sentinel, .sentinel, .sentinel, .sentinel, .sentinel, .sentinel, .sentinel, .sentinel], laidTests := true, laidLooks := .later }
def PolyOpensCardSaid : Prop := Claim7.holds Tryd.pinned (.plain (OpenSpec.ofChange polyOpensSpec)) polyOpensCard

/-- THE TIED CARD OF 'speakeasylaw04.PolyTurned'. -/
def polyTurnedCard : Claim7 := { stood := { row := polyTurnedRow, standIns := [], harness := (true, "a51230cfbd6b53146427ca853bd26046f9fe964f191a00ca56d22db70bd805c8"), looks := true }, kinds := [], alts := [], laidByText := true, laidKinds := [.data, .sentinel, .sentinel, .sentinel, .sentinel, .sentinel, .sentinel, .sentinel, .sentinel, .sentinel, .sentinel, .sentinel, .sentinel, .sentinel, .sentinel, .sentinel, .sentinel, .sentinel, .sentinel, .sentinel, .sentinel], laidTests := true, laidLooks := .later }
def PolyTurnedCardSaid : Prop := Claim7.holds Tryd.pinned (.plain (OpenSpec.ofChange polyTurnedSpec)) polyTurnedCard

/-- THE TIED CARD OF 'speakeasylaw06.CurveClamps'. -/
def curveClampsCard : Claim7 := { stood := { row := curveClampsRow, standIns := [], harness := (true, "a51230cfbd6b53146427ca853bd26046f9fe964f191a00ca56d22db70bd805c8"), looks := true }, kinds := [], alts := [], laidByText := true, laidKinds := [.data], laidTests := true, laidLooks := .later }
def CurveClampsCardSaid : Prop := Claim7.holds Tryd.pinned (.plain (OpenSpec.ofChange curveClampsSpec)) curveClampsCard

/-- THE TIED CARD OF 'speakeasylaw09.WireReads'. -/
def wireReadsCard : Claim7 := { stood := { row := wireReadsRow, standIns := [], harness := (true, "a51230cfbd6b53146427ca853bd26046f9fe964f191a00ca56d22db70bd805c8"), looks := true }, kinds := [], alts := [], laidByText := true, laidKinds := [.data, .sentinel, .sentinel, .sentinel, .sentinel, .sentinel, .sentinel, .sentinel, .sentinel, .sentinel, .sentinel, .sentinel, .sentinel, .sentinel, .sentinel, .sentinel, .sentinel, .sentinel, .sentinel, .sentinel, .sentinel, .pinned], laidTests := true, laidLooks := .later }
def WireReadsCardSaid : Prop := Claim7.holds Tryd.pinned (.plain (OpenSpec.ofChange wireReadsSpec)) wireReadsCard

/-- THE TIED CARD OF 'speakeasylaw11.HelloReads'. -/
def helloReadsCard : Claim7 := { stood := { row := helloReadsRow, standIns := [], harness := (true, "a51230cfbd6b53146427ca853bd26046f9fe964f191a00ca56d22db70bd805c8"), looks := true }, kinds := [], alts := [], laidByText := true, laidKinds := [.sentinel, .sentinel, .sentinel, .sentinel, .sentinel, .sentinel, .sentinel, .sentinel, .sentinel, .sentinel, .sentinel, .sentinel, .sentinel, .sentinel, .sentinel, .sentinel, .sentinel, .sentinel, .sentinel, .sentinel], laidTests := true, laidLooks := .later }
def HelloReadsCardSaid : Prop := Claim7.holds Tryd.pinned (.plain (OpenSpec.ofChange helloReadsSpec)) helloReadsCard

/-- THE TIED CARD OF 'speakeasylaw11.HelloLines'. -/
def helloLinesCard : Claim7 := { stood := { row := helloLinesRow, standIns := [], harness := (true, "a51230cfbd6b53146427ca853bd26046f9fe964f191a00ca56d22db70bd805c8"), looks := true }, kinds := [], alts := [], laidByText := true, laidKinds := [.sentinel, .sentinel, .sentinel, .sentinel, .sentinel, .sentinel, .sentinel, .sentinel, .sentinel, .sentinel, .sentinel, .sentinel, .sentinel, .sentinel, .sentinel, .sentinel, .sentinel, .sentinel, .sentinel, .sentinel], laidTests := true, laidLooks := .later }
def HelloLinesCardSaid : Prop := Claim7.holds Tryd.pinned (.plain (OpenSpec.ofChange helloLinesSpec)) helloLinesCard

/-- THE TIED CARD OF 'speakeasylaw11.HelloOthers'. -/
def helloOthersCard : Claim7 := { stood := { row := helloOthersRow, standIns := [], harness := (true, "a51230cfbd6b53146427ca853bd26046f9fe964f191a00ca56d22db70bd805c8"), looks := true }, kinds := [], alts := [], laidByText := true, laidKinds := [.sentinel, .sentinel, .sentinel, .sentinel], laidTests := true, laidLooks := .later }
def HelloOthersCardSaid : Prop := Claim7.holds Tryd.pinned (.plain (OpenSpec.ofChange helloOthersSpec)) helloOthersCard

/-- THE SECOND FORM's CARD OF 'speakeasylaw04.PolyOpens'. -/
def polyOpensUptoCard : Claim7 := { stood := { row := polyOpensUptoRow, standIns := [], harness := (true, "a51230cfbd6b53146427ca853bd26046f9fe964f191a00ca56d22db70bd805c8"), looks := true }, kinds := [], alts := [], laidByText := true, laidKinds := [.data, .sentinel, .sentinel, .sentinel, .sentinel, .sentinel, .sentinel, .sentinel, .sentinel, .sentinel, .sentinel, .sentinel, .sentinel, .sentinel, .sentinel, .sentinel, .sentinel, .sentinel, .sentinel, .sentinel, .sentinel], laidTests := true, laidLooks := .later }
def PolyOpensUptoCardSaid : Prop := Claim7.holds Tryd.pinned (.plain (OpenSpec.upto polyOpensSpec)) polyOpensUptoCard

/-- THE SECOND FORM's CARD OF 'speakeasylaw04.PolyTurned'. -/
def polyTurnedUptoCard : Claim7 := { stood := { row := polyTurnedUptoRow, standIns := [], harness := (true, "a51230cfbd6b53146427ca853bd26046f9fe964f191a00ca56d22db70bd805c8"), looks := true }, kinds := [], alts := [], laidByText := true, laidKinds := [.data, .sentinel, .sentinel, .sentinel, .sentinel, .sentinel, .sentinel, .sentinel, .sentinel, .sentinel, .sentinel, .sentinel, .sentinel, .sentinel, .sentinel, .sentinel, .sentinel, .sentinel, .sentinel, .sentinel, .sentinel], laidTests := true, laidLooks := .later }
def PolyTurnedUptoCardSaid : Prop := Claim7.holds Tryd.pinned (.plain (OpenSpec.upto polyTurnedSpec)) polyTurnedUptoCard

/-- THE SECOND FORM's CARD OF 'speakeasylaw06.CurveClamps'. -/
def curveClampsUptoCard : Claim7 := { stood := { row := curveClampsUptoRow, standIns := [], harness := (true, "a51230cfbd6b53146427ca853bd26046f9fe964f191a00ca56d22db70bd805c8"), looks := true }, kinds := [], alts := [], laidByText := true, laidKinds := [.data], laidTests := true, laidLooks := .later }
def CurveClampsUptoCardSaid : Prop := Claim7.holds Tryd.pinned (.plain (OpenSpec.upto curveClampsSpec)) curveClampsUptoCard

/-- THE SECOND FORM's CARD OF 'speakeasylaw09.WireReads'. -/
def wireReadsUptoCard : Claim7 := { stood := { row := wireReadsUptoRow, standIns := [], harness := (true, "a51230cfbd6b53146427ca853bd26046f9fe964f191a00ca56d22db70bd805c8"), looks := true }, kinds := [], alts := [], laidByText := true, laidKinds := [.data, .sentinel, .sentinel, .sentinel, .sentinel, .sentinel, .sentinel, .sentinel, .sentinel, .sentinel, .sentinel, .sentinel, .sentinel, .sentinel, .sentinel, .sentinel, .sentinel, .sentinel, .sentinel, .sentinel, .sentinel, .pinned], laidTests := true, laidLooks := .later }
def WireReadsUptoCardSaid : Prop := Claim7.holds Tryd.pinned (.plain (OpenSpec.upto wireReadsSpec)) wireReadsUptoCard

/-- THE SECOND FORM's CARD OF 'speakeasylaw11.HelloReads'. -/
def helloReadsUptoCard : Claim7 := { stood := { row := helloReadsUptoRow, standIns := [], harness := (true, "a51230cfbd6b53146427ca853bd26046f9fe964f191a00ca56d22db70bd805c8"), looks := true }, kinds := [], alts := [], laidByText := true, laidKinds := [.sentinel, .sentinel, .sentinel, .sentinel, .sentinel, .sentinel, .sentinel, .sentinel, .sentinel, .sentinel, .sentinel, .sentinel, .sentinel, .sentinel, .sentinel, .sentinel, .sentinel, .sentinel, .sentinel, .sentinel], laidTests := true, laidLooks := .later }
def HelloReadsUptoCardSaid : Prop := Claim7.holds Tryd.pinned (.plain (OpenSpec.upto helloReadsSpec)) helloReadsUptoCard

/-- THE SECOND FORM's CARD OF 'speakeasylaw11.HelloLines'. -/
def helloLinesUptoCard : Claim7 := { stood := { row := helloLinesUptoRow, standIns := [], harness := (true, "a51230cfbd6b53146427ca853bd26046f9fe964f191a00ca56d22db70bd805c8"), looks := true }, kinds := [], alts := [], laidByText := true, laidKinds := [.sentinel, .sentinel, .sentinel, .sentinel, .sentinel, .sentinel, .sentinel, .sentinel, .sentinel, .sentinel, .sentinel, .sentinel, .sentinel, .sentinel, .sentinel, .sentinel, .sentinel, .sentinel, .sentinel, .sentinel], laidTests := true, laidLooks := .later }
def HelloLinesUptoCardSaid : Prop := Claim7.holds Tryd.pinned (.plain (OpenSpec.upto helloLinesSpec)) helloLinesUptoCard

/-- THE SECOND FORM's CARD OF 'speakeasylaw11.HelloOthers'. -/
def helloOthersUptoCard : Claim7 := { stood := { row := helloOthersUptoRow, standIns := [], harness := (true, "a51230cfbd6b53146427ca853bd26046f9fe964f191a00ca56d22db70bd805c8"), looks := true }, kinds := [], alts := [], laidByText := true, laidKinds := [.sentinel, .sentinel, .sentinel, .sentinel], laidTests := true, laidLooks := .later }
def HelloOthersUptoCardSaid : Prop := Claim7.holds Tryd.pinned (.plain (OpenSpec.upto helloOthersSpec)) helloOthersUptoCard
end Rows
end Go.Proofs.YteefpaiefphdpaaDoor
