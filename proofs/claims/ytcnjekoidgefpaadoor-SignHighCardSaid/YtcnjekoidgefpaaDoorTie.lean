/-
  DERIVED. GIVEN WITH THE SEED: THE PROGRAM's TIES (one call each: nine closed facts by the kernel) AND EACH ROW's TIE, after the 31st guide's Derived/Test/Toyas{Tie, Card}.lean. No idea stands in it: it is a product of the set-up. Laid BY PROGRAM, IN A SANDBOX (cutbox-door.mjs). By AI agents, Wed Nov 11 2026. No macro, syntax, notation, axiom, sorry.
-/
import Derived.Test.YtcnjekoidgefpaaDoorRows
import Derived.LaidByTextLater
import Derived.SevenTiedAt
import Derived.LaidSub
import Derived.LaidOnce
namespace Go.Proofs.YtcnjekoidgefpaaDoor
open Go
set_option maxRecDepth 100000
theorem seatTie1 : Tryd.prog.laidByTextLater [("speakeasy/chacha.quarters", Rows.laid_speakeasy_chacha_quarters), ("speakeasy/scalar.order", Rows.laid_speakeasy_scalar_order), ("speakeasy/api.ErrEnd", Rows.laid_speakeasy_api_ErrEnd), ("speakeasy/api.ErrForm", Rows.laid_speakeasy_api_ErrForm), ("speakeasy/api.ErrBig", Rows.laid_speakeasy_api_ErrBig), ("speakeasy/api.ErrMac", Rows.laid_speakeasy_api_ErrMac), ("speakeasy/field.prime", Rows.laid_speakeasy_field_prime), ("speakeasy/field.minus1Root", Rows.laid_speakeasy_field_minus1Root), ("speakeasy/sha2.k256", Rows.laid_speakeasy_sha2_k256), ("speakeasy/sha2.k512", Rows.laid_speakeasy_sha2_k512)] [.data, .data, .sentinel, .sentinel, .sentinel, .sentinel, .data, .data, .data, .data] true :=
  Program.laidByTextLater_by_one 123 8 81 (by kernel_rfl) (by kernel_rfl) (by kernel_rfl) (by kernel_rfl) (by kernel_rfl) (by kernel_rfl) (fun _ _ => by kernel_rfl)
theorem noOwnUnsafe : Tryd.pinned.checked.prog.headLifts.contains "ownunsafe" = false := by kernel_rfl
theorem tie : Tryd.prog.laidByTextLater [("speakeasy/scalar.order", Rows.laid_speakeasy_scalar_order), ("speakeasy/field.prime", Rows.laid_speakeasy_field_prime), ("speakeasy/field.minus1Root", Rows.laid_speakeasy_field_minus1Root), ("speakeasy/sha2.k512", Rows.laid_speakeasy_sha2_k512)] [.data, .data, .data, .data] true :=
  Program.laidByTextLater.sub seatTie1 ["speakeasy/scalar.order", "speakeasy/field.prime", "speakeasy/field.minus1Root", "speakeasy/sha2.k512"] (by kernel_rfl) (by kernel_rfl)
theorem signHigh_row_tie : Rows.signHighRow.laidByTextAt .later Tryd.pinned [.data, .data, .data, .data] true :=
  OpenClaim.laidByTextAt_later rfl rfl tie noOwnUnsafe
theorem tie2 : Tryd.prog.laidByTextLater [("speakeasy/chacha.quarters", Rows.laid_speakeasy_chacha_quarters), ("speakeasy/api.ErrEnd", Rows.laid_speakeasy_api_ErrEnd), ("speakeasy/api.ErrForm", Rows.laid_speakeasy_api_ErrForm), ("speakeasy/api.ErrBig", Rows.laid_speakeasy_api_ErrBig), ("speakeasy/api.ErrMac", Rows.laid_speakeasy_api_ErrMac)] [.data, .sentinel, .sentinel, .sentinel, .sentinel] true :=
  Program.laidByTextLater.sub seatTie1 ["speakeasy/chacha.quarters", "speakeasy/api.ErrEnd", "speakeasy/api.ErrForm", "speakeasy/api.ErrBig", "speakeasy/api.ErrMac"] (by kernel_rfl) (by kernel_rfl)
theorem packetParts_row_tie : Rows.packetPartsRow.laidByTextAt .later Tryd.pinned [.data, .sentinel, .sentinel, .sentinel, .sentinel] true :=
  OpenClaim.laidByTextAt_later rfl rfl tie2 noOwnUnsafe
theorem tie3 : Tryd.prog.laidByTextLater [("speakeasy/chacha.quarters", Rows.laid_speakeasy_chacha_quarters), ("speakeasy/api.ErrEnd", Rows.laid_speakeasy_api_ErrEnd), ("speakeasy/api.ErrMac", Rows.laid_speakeasy_api_ErrMac), ("speakeasy/sha2.k256", Rows.laid_speakeasy_sha2_k256)] [.data, .sentinel, .sentinel, .data] true :=
  Program.laidByTextLater.sub seatTie1 ["speakeasy/chacha.quarters", "speakeasy/api.ErrEnd", "speakeasy/api.ErrMac", "speakeasy/sha2.k256"] (by kernel_rfl) (by kernel_rfl)
theorem speakSealed_row_tie : Rows.speakSealedRow.laidByTextAt .later Tryd.pinned [.data, .sentinel, .sentinel, .data] true :=
  OpenClaim.laidByTextAt_later rfl rfl tie3 noOwnUnsafe
theorem tie4 : Tryd.prog.laidByTextLater [("speakeasy/field.prime", Rows.laid_speakeasy_field_prime), ("speakeasy/field.minus1Root", Rows.laid_speakeasy_field_minus1Root), ("speakeasy/sha2.k512", Rows.laid_speakeasy_sha2_k512)] [.data, .data, .data] true :=
  Program.laidByTextLater.sub seatTie1 ["speakeasy/field.prime", "speakeasy/field.minus1Root", "speakeasy/sha2.k512"] (by kernel_rfl) (by kernel_rfl)
theorem speakMaps_row_tie : Rows.speakMapsRow.laidByTextAt .later Tryd.pinned [.data, .data, .data] true :=
  OpenClaim.laidByTextAt_later rfl rfl tie4 noOwnUnsafe
theorem signHighUpto_row_tie : Rows.signHighUptoRow.laidByTextAt .later Tryd.pinned [.data, .data, .data, .data] true :=
  OpenClaim.laidByTextAt_later rfl rfl tie noOwnUnsafe
theorem packetPartsUpto_row_tie : Rows.packetPartsUptoRow.laidByTextAt .later Tryd.pinned [.data, .sentinel, .sentinel, .sentinel, .sentinel] true :=
  OpenClaim.laidByTextAt_later rfl rfl tie2 noOwnUnsafe
theorem speakSealedUpto_row_tie : Rows.speakSealedUptoRow.laidByTextAt .later Tryd.pinned [.data, .sentinel, .sentinel, .data] true :=
  OpenClaim.laidByTextAt_later rfl rfl tie3 noOwnUnsafe
theorem speakMapsUpto_row_tie : Rows.speakMapsUptoRow.laidByTextAt .later Tryd.pinned [.data, .data, .data] true :=
  OpenClaim.laidByTextAt_later rfl rfl tie4 noOwnUnsafe
end Go.Proofs.YtcnjekoidgefpaaDoor
