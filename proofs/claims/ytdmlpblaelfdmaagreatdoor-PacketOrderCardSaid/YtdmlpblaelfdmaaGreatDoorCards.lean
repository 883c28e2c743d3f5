/-
  DERIVED. GIVEN WITH THE SEED: THE CARDS: each row of YtdmlpblaelfdmaaGreatDoorRows.lean that lists a variable, with what it lists TIED to the program's text (the seventh form; the later family's looks); each row that meets fmt, with fmt's text TOLD by the authors' own Lean function (tested against real Go, not proved from fmt's source: count such statements apart). THE CARD IS WHAT COUNTS. Prove the row's statement (the work); the ties are given (YtdmlpblaelfdmaaGreatDoorTie.lean); close each card by the builder's one call (the guide's Derived/Test/ToyasCard.lean, 'card_holds'). Laid BY PROGRAM, IN A SANDBOX (cutbox-door.mjs). By AI agents, Wed Nov 11 2026. No macro, syntax, notation, axiom, sorry.
-/
import Derived.Test.YtdmlpblaelfdmaaGreatDoorRows
import GoSem.ClaimSeven
namespace Go.Proofs.YtdmlpblaelfdmaaGreatDoor
namespace Rows

/-- THE TIED CARD OF 'speakeasylaw12.PacketWrites'. -/
def packetWritesCard : Claim7 := { stood := { row := packetWritesRow, standIns := [], harness := (true, "1f51e7b61f7d4cf8ae34e3fc2360da9c721d629891f5077a826a58a81d9b0862"), looks := true }, kinds := [], alts := [], laidByText := true, laidKinds := [.data, .sentinel, .sentinel, .sentinel, .sentinel, .sentinel, .sentinel, .sentinel, .sentinel, .sentinel, .sentinel, .sentinel, .sentinel, .sentinel, .sentinel, .sentinel, .sentinel, .sentinel, .sentinel, .sentinel, .sentinel], laidTests := true, laidLooks := .later }
def PacketWritesCardSaid : Prop := Claim7.holds Tryz.pinned (.plain (OpenSpec.ofChange packetWritesSpec)) packetWritesCard

/-- THE TIED CARD OF 'speakeasylaw12.PacketReads'. -/
def packetReadsCard : Claim7 := { stood := { row := packetReadsRow, standIns := [], harness := (true, "1f51e7b61f7d4cf8ae34e3fc2360da9c721d629891f5077a826a58a81d9b0862"), looks := true }, kinds := [], alts := [], laidByText := true, laidKinds := [.data, .handle, .sentinel, .sentinel, .sentinel, .sentinel, .sentinel, .sentinel, .sentinel, .sentinel, .sentinel, .sentinel, .sentinel, .sentinel, .sentinel, .sentinel, .sentinel, .sentinel, .sentinel, .sentinel, .sentinel, .sentinel], laidTests := true, laidLooks := .later }
def PacketReadsCardSaid : Prop := Claim7.holds Tryz.pinned (.plain (OpenSpec.ofChange packetReadsSpec)) packetReadsCard

/-- THE TIED CARD OF 'speakeasylaw12.PacketTurned'. -/
def packetTurnedCard : Claim7 := { stood := { row := packetTurnedRow, standIns := [], harness := (true, "1f51e7b61f7d4cf8ae34e3fc2360da9c721d629891f5077a826a58a81d9b0862"), looks := true }, kinds := [], alts := [], laidByText := true, laidKinds := [.data, .sentinel, .sentinel, .sentinel, .sentinel, .sentinel, .sentinel, .sentinel, .sentinel, .sentinel, .sentinel, .sentinel, .sentinel, .sentinel, .sentinel, .sentinel, .sentinel, .sentinel, .sentinel, .sentinel, .sentinel], laidTests := true, laidLooks := .later }
def PacketTurnedCardSaid : Prop := Claim7.holds Tryz.pinned (.plain (OpenSpec.ofChange packetTurnedSpec)) packetTurnedCard

/-- THE TIED CARD OF 'speakeasylaw12.PacketOrder'. -/
def packetOrderCard : Claim7 := { stood := { row := packetOrderRow, standIns := [], harness := (true, "1f51e7b61f7d4cf8ae34e3fc2360da9c721d629891f5077a826a58a81d9b0862"), looks := true }, kinds := [], alts := [], laidByText := true, laidKinds := [.data, .sentinel, .sentinel, .sentinel, .sentinel, .sentinel, .sentinel, .sentinel, .sentinel, .sentinel, .sentinel, .sentinel, .sentinel, .sentinel, .sentinel, .sentinel, .sentinel, .sentinel, .sentinel, .sentinel, .sentinel], laidTests := true, laidLooks := .later }
def PacketOrderCardSaid : Prop := Claim7.holds Tryz.pinned (.plain (OpenSpec.ofChange packetOrderSpec)) packetOrderCard

/-- THE TIED CARD OF 'speakeasylaw14.KexHashes'. -/
def kexHashesCard : Claim7 := { stood := { row := kexHashesRow, standIns := [], harness := (true, "1f51e7b61f7d4cf8ae34e3fc2360da9c721d629891f5077a826a58a81d9b0862"), looks := true }, kinds := [], alts := [], laidByText := true, laidKinds := [.data, .handle, .sentinel, .sentinel, .sentinel, .sentinel, .sentinel, .sentinel, .sentinel, .sentinel, .sentinel, .sentinel, .sentinel, .sentinel, .sentinel, .sentinel, .sentinel, .sentinel, .sentinel, .sentinel, .sentinel, .sentinel, .data, .data, .pinned], laidTests := true, laidLooks := .later }
def KexHashesCardSaid : Prop := Claim7.holds Tryz.pinned (.plain (OpenSpec.ofChange kexHashesSpec)) kexHashesCard

/-- THE TIED CARD OF 'speakeasylaw14.KexDerives'. -/
def kexDerivesCard : Claim7 := { stood := { row := kexDerivesRow, standIns := [], harness := (true, "1f51e7b61f7d4cf8ae34e3fc2360da9c721d629891f5077a826a58a81d9b0862"), looks := true }, kinds := [], alts := [], laidByText := true, laidKinds := [.data, .handle, .sentinel, .sentinel, .sentinel, .sentinel, .sentinel, .sentinel, .sentinel, .sentinel, .sentinel, .sentinel, .sentinel, .sentinel, .sentinel, .sentinel, .sentinel, .sentinel, .sentinel, .sentinel, .sentinel, .sentinel, .data, .data, .pinned], laidTests := true, laidLooks := .later }
def KexDerivesCardSaid : Prop := Claim7.holds Tryz.pinned (.plain (OpenSpec.ofChange kexDerivesSpec)) kexDerivesCard

/-- THE TIED CARD OF 'speakeasylaw14.KexTwo'. -/
def kexTwoCard : Claim7 := { stood := { row := kexTwoRow, standIns := [], harness := (true, "1f51e7b61f7d4cf8ae34e3fc2360da9c721d629891f5077a826a58a81d9b0862"), looks := true }, kinds := [], alts := [], laidByText := true, laidKinds := [.data, .handle, .sentinel, .sentinel, .sentinel, .sentinel, .sentinel, .sentinel, .sentinel, .sentinel, .sentinel, .sentinel, .sentinel, .sentinel, .sentinel, .sentinel, .sentinel, .sentinel, .sentinel, .sentinel, .sentinel, .sentinel, .data, .data, .pinned], laidTests := true, laidLooks := .later }
def KexTwoCardSaid : Prop := Claim7.holds Tryz.pinned (.plain (OpenSpec.ofChange kexTwoSpec)) kexTwoCard

/-- THE TIED CARD OF 'speakeasylaw14.KexShares'. -/
def kexSharesCard : Claim7 := { stood := { row := kexSharesRow, standIns := [], harness := (true, "1f51e7b61f7d4cf8ae34e3fc2360da9c721d629891f5077a826a58a81d9b0862"), looks := true }, kinds := [], alts := [], laidByText := true, laidKinds := [.data, .handle, .sentinel, .sentinel, .sentinel, .sentinel, .sentinel, .sentinel, .sentinel, .sentinel, .sentinel, .sentinel, .sentinel, .sentinel, .sentinel, .sentinel, .sentinel, .sentinel, .sentinel, .sentinel, .sentinel, .sentinel, .data, .data, .pinned], laidTests := true, laidLooks := .later }
def KexSharesCardSaid : Prop := Claim7.holds Tryz.pinned (.plain (OpenSpec.ofChange kexSharesSpec)) kexSharesCard

/-- THE SECOND FORM's CARD OF 'speakeasylaw12.PacketWrites'. -/
def packetWritesUptoCard : Claim7 := { stood := { row := packetWritesUptoRow, standIns := [], harness := (true, "1f51e7b61f7d4cf8ae34e3fc2360da9c721d629891f5077a826a58a81d9b0862"), looks := true }, kinds := [], alts := [], laidByText := true, laidKinds := [.data, .sentinel, .sentinel, .sentinel, .sentinel, .sentinel, .sentinel, .sentinel, .sentinel, .sentinel, .sentinel, .sentinel, .sentinel, .sentinel, .sentinel, .sentinel, .sentinel, .sentinel, .sentinel, .sentinel, .sentinel], laidTests := true, laidLooks := .later }
def PacketWritesUptoCardSaid : Prop := Claim7.holds Tryz.pinned (.plain (OpenSpec.upto packetWritesSpec)) packetWritesUptoCard

/-- THE SECOND FORM's CARD OF 'speakeasylaw12.PacketReads'. -/
def packetReadsUptoCard : Claim7 := { stood := { row := packetReadsUptoRow, standIns := [], harness := (true, "1f51e7b61f7d4cf8ae34e3fc2360da9c721d629891f5077a826a58a81d9b0862"), looks := true }, kinds := [], alts := [], laidByText := true, laidKinds := [.data, .handle, .sentinel, .sentinel, .sentinel, .sentinel, .sentinel, .sentinel, .sentinel, .sentinel, .sentinel, .sentinel, .sentinel, .sentinel, .sentinel, .sentinel, .sentinel, .sentinel, .sentinel, .sentinel, .sentinel, .sentinel], laidTests := true, laidLooks := .later }
def PacketReadsUptoCardSaid : Prop := Claim7.holds Tryz.pinned (.plain (OpenSpec.upto packetReadsSpec)) packetReadsUptoCard

/-- THE SECOND FORM's CARD OF 'speakeasylaw12.PacketTurned'. -/
def packetTurnedUptoCard : Claim7 := { stood := { row := packetTurnedUptoRow, standIns := [], harness := (true, "1f51e7b61f7d4cf8ae34e3fc2360da9c721d629891f5077a826a58a81d9b0862"), looks := true }, kinds := [], alts := [], laidByText := true, laidKinds := [.data, .sentinel, .sentinel, .sentinel, .sentinel, .sentinel, .sentinel, .sentinel, .sentinel, .sentinel, .sentinel, .sentinel, .sentinel, .sentinel, .sentinel, .sentinel, .sentinel, .sentinel, .sentinel, .sentinel, .sentinel], laidTests := true, laidLooks := .later }
def PacketTurnedUptoCardSaid : Prop := Claim7.holds Tryz.pinned (.plain (OpenSpec.upto packetTurnedSpec)) packetTurnedUptoCard

/-- THE SECOND FORM's CARD OF 'speakeasylaw12.PacketOrder'. -/
def packetOrderUptoCard : Claim7 := { stood := { row := packetOrderUptoRow, standIns := [], harness := (true, "1f51e7b61f7d4cf8ae34e3fc2360da9c721d629891f5077a826a58a81d9b0862"), looks := true }, kinds := [], alts := [], laidByText := true, laidKinds := [.data, .sentinel, .sentinel, .sentinel, .sentinel, .sentinel, .sentinel, .sentinel, .sentinel, .sentinel, .sentinel, .sentinel, .sentinel, .sentinel, .sentinel, .sentinel, .sentinel, .sentinel, .sentinel, .sentinel, .sentinel], laidTests := true, laidLooks := .later }
def PacketOrderUptoCardSaid : Prop := Claim7.holds Tryz.pinned (.plain (OpenSpec.upto packetOrderSpec)) packetOrderUptoCard

/-- THE SECOND FORM's CARD OF 'speakeasylaw14.KexHashes'. -/
def kexHashesUptoCard : Claim7 := { stood := { row := kexHashesUptoRow, standIns := [], harness := (true, "1f51e7b61f7d4cf8ae34e3fc2360da9c721d629891f5077a826a58a81d9b0862"), looks := true }, kinds := [], alts := [], laidByText := true, laidKinds := [.data, .handle, .sentinel, .sentinel, .sentinel, .sentinel, .sentinel, .sentinel, .sentinel, .sentinel, .sentinel, .sentinel, .sentinel, .sentinel, .sentinel, .sentinel, .sentinel, .sentinel, .sentinel, .sentinel, .sentinel, .sentinel, .data, .data, .pinned], laidTests := true, laidLooks := .later }
def KexHashesUptoCardSaid : Prop := Claim7.holds Tryz.pinned (.plain (OpenSpec.upto kexHashesSpec)) kexHashesUptoCard

/-- THE SECOND FORM's CARD OF 'speakeasylaw14.KexDerives'. -/
def kexDerivesUptoCard : Claim7 := { stood := { row := kexDerivesUptoRow, standIns := [], harness := (true, "1f51e7b61f7d4cf8ae34e3fc2360da9c721d629891f5077a826a58a81d9b0862"), looks := true }, kinds := [], alts := [], laidByText := true, laidKinds := [.data, .handle, .sentinel, .sentinel, .sentinel, .sentinel, .sentinel, .sentinel, .sentinel, .sentinel, .sentinel, .sentinel, .sentinel, .sentinel, .sentinel, .sentinel, .sentinel, .sentinel, .sentinel, .sentinel, .sentinel, .sentinel, .data, .data, .pinned], laidTests := true, laidLooks := .later }
def KexDerivesUptoCardSaid : Prop := Claim7.holds Tryz.pinned (.plain (OpenSpec.upto kexDerivesSpec)) kexDerivesUptoCard

/-- THE SECOND FORM's CARD OF 'speakeasylaw14.KexTwo'. -/
def kexTwoUptoCard : Claim7 := { stood := { row := kexTwoUptoRow, standIns := [], harness := (true, "1f51e7b61f7d4cf8ae34e3fc2360da9c721d629891f5077a826a58a81d9b0862"), looks := true }, kinds := [], alts := [], laidByText := true, laidKinds := [.data, .handle, .sentinel, .sentinel, .sentinel, .sentinel, .sentinel, .sentinel, .sentinel, .sentinel, .sentinel, .sentinel, .sentinel, .sentinel, .sentinel, .sentinel, .sentinel, .sentinel, .sentinel, .sentinel, .sentinel, .sentinel, .data, .data, .pinned], laidTests := true, laidLooks := .later }
def KexTwoUptoCardSaid : Prop := Claim7.holds Tryz.pinned (.plain (OpenSpec.upto kexTwoSpec)) kexTwoUptoCard

/-- THE SECOND FORM's CARD OF 'speakeasylaw14.KexShares'. -/
def kexSharesUptoCard : Claim7 := { stood := { row := kexSharesUptoRow, standIns := [], harness := (true, "1f51e7b61f7d4cf8ae34e3fc2360da9c721d629891f5077a826a58a81d9b0862"), looks := true }, kinds := [], alts := [], laidByText := true, laidKinds := [.data, .handle, .sentinel, .sentinel, .sentinel, .sentinel, .sentinel, .sentinel, .sentinel, .sentinel, .sentinel, .sentinel, .sentinel, .sentinel, .sentinel, .sentinel, .sentinel, .sentinel, .sentinel, .sentinel, .sentinel, .sentinel, .data, .data, .pinned], laidTests := true, laidLooks := .later }
def KexSharesUptoCardSaid : Prop := Claim7.holds Tryz.pinned (.plain (OpenSpec.upto kexSharesSpec)) kexSharesUptoCard
end Rows
end Go.Proofs.YtdmlpblaelfdmaaGreatDoor
