/-
  DERIVED. GIVEN WITH THE SEED: THE CARDS: each row of YtalhfkmkmmfkcaaDoorRows.lean that lists a variable, with what it lists TIED to the program's text (the seventh form; the later family's looks); each row that meets fmt, with fmt's text TOLD by the authors' own Lean function (tested against real Go, not proved from fmt's source: count such statements apart). THE CARD IS WHAT COUNTS. Prove the row's statement (the work); the ties are given (YtalhfkmkmmfkcaaDoorTie.lean); close each card by the builder's one call (the guide's Derived/Test/ToyasCard.lean, 'card_holds'). Laid BY PROGRAM, IN A SANDBOX (cutbox-door.mjs). By AI agents, Wed Nov 11 2026. No macro, syntax, notation, axiom, sorry.
-/
import Derived.Test.YtalhfkmkmmfkcaaDoorRows
import GoSem.ClaimSeven
namespace Go.Proofs.YtalhfkmkmmfkcaaDoor
namespace Rows

/-- THE TIED CARD OF 'speakeasylaw13.OfferChooses'. -/
def offerChoosesCard : Claim7 := { stood := { row := offerChoosesRow, standIns := [], harness := (true, "807e8fbfc203040fa3d4c58d7c60acb317e6aa8544943a6632db308fbe3dc9ae"), looks := true }, kinds := [], alts := [], laidByText := true, laidKinds := [.sentinel, .sentinel, .sentinel, .sentinel, .sentinel, .sentinel, .sentinel, .sentinel, .sentinel, .sentinel, .sentinel, .sentinel, .sentinel, .sentinel, .sentinel, .sentinel, .sentinel, .sentinel, .sentinel, .sentinel, .data, .data], laidTests := true, laidLooks := .later }
def OfferChoosesCardSaid : Prop := Claim7.holds Tryd.pinned (.plain (OpenSpec.ofChange offerChoosesSpec)) offerChoosesCard

/-- THE TIED CARD OF 'speakeasylaw13.OfferMakes'. -/
def offerMakesCard : Claim7 := { stood := { row := offerMakesRow, standIns := [], harness := (true, "807e8fbfc203040fa3d4c58d7c60acb317e6aa8544943a6632db308fbe3dc9ae"), looks := true }, kinds := [], alts := [], laidByText := true, laidKinds := [.sentinel, .sentinel, .sentinel, .sentinel, .data, .data], laidTests := true, laidLooks := .later }
def OfferMakesCardSaid : Prop := Claim7.holds Tryd.pinned (.plain (OpenSpec.ofChange offerMakesSpec)) offerMakesCard

/-- THE SECOND FORM's CARD OF 'speakeasylaw13.OfferChooses'. -/
def offerChoosesUptoCard : Claim7 := { stood := { row := offerChoosesUptoRow, standIns := [], harness := (true, "807e8fbfc203040fa3d4c58d7c60acb317e6aa8544943a6632db308fbe3dc9ae"), looks := true }, kinds := [], alts := [], laidByText := true, laidKinds := [.sentinel, .sentinel, .sentinel, .sentinel, .sentinel, .sentinel, .sentinel, .sentinel, .sentinel, .sentinel, .sentinel, .sentinel, .sentinel, .sentinel, .sentinel, .sentinel, .sentinel, .sentinel, .sentinel, .sentinel, .data, .data], laidTests := true, laidLooks := .later }
def OfferChoosesUptoCardSaid : Prop := Claim7.holds Tryd.pinned (.plain (OpenSpec.upto offerChoosesSpec)) offerChoosesUptoCard

/-- THE SECOND FORM's CARD OF 'speakeasylaw13.OfferMakes'. -/
def offerMakesUptoCard : Claim7 := { stood := { row := offerMakesUptoRow, standIns := [], harness := (true, "807e8fbfc203040fa3d4c58d7c60acb317e6aa8544943a6632db308fbe3dc9ae"), looks := true }, kinds := [], alts := [], laidByText := true, laidKinds := [.sentinel, .sentinel, .sentinel, .sentinel, .data, .data], laidTests := true, laidLooks := .later }
def OfferMakesUptoCardSaid : Prop := Claim7.holds Tryd.pinned (.plain (OpenSpec.upto offerMakesSpec)) offerMakesUptoCard
end Rows
end Go.Proofs.YtalhfkmkmmfkcaaDoor
