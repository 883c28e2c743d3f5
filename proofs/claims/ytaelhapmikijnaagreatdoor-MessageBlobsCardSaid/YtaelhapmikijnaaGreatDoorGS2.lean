/-
  Texts of this claim.
-/
import Derived.Test.YtaelhapmikijnaaGreatDoorGS1
import Derived.Test.YtaelhapmikijnaaGreatDoorGOU
import Derived.Test.YtaelhapmikijnaaGreatDoorGKE
namespace Go.Proofs.YtaelhapmikijnaaGreatDoor
open Go.ChangeShapes Go.WideShapes Go.ChangeAt Go.RowKit
set_option maxHeartbeats 1000000 in
theorem messageBlobs_all (key : List UInt8) (s : ByteArray) (flip : Int) (W : World) (hk : key.length = 32) (hs : s.size ≤ maxLen) (h : laidMetH Tryz.prog Rows.messageBlobsRow.laid W) :
    Calls Tryz.prog 3 #[.agg (key.map U8).toArray, .string s, .int .i64 flip] W fun e W' => e = .returned (.bool true) ∧ Below W.heap.size W W' := by
  have h' : laidMetH Tryz.prog [("unicode/utf8.acceptRanges", Rows.laid_unicode_utf8_acceptRanges), ("errors.errorType", Rows.laid_errors_errorType), ("speakeasy/api.ErrArg", Rows.laid_speakeasy_api_ErrArg), ("speakeasy/api.ErrEnd", Rows.laid_speakeasy_api_ErrEnd), ("speakeasy/api.ErrForm", Rows.laid_speakeasy_api_ErrForm), ("speakeasy/api.ErrBig", Rows.laid_speakeasy_api_ErrBig), ("speakeasy/api.ErrMac", Rows.laid_speakeasy_api_ErrMac), ("speakeasy/api.ErrState", Rows.laid_speakeasy_api_ErrState), ("speakeasy/api.ErrFull", Rows.laid_speakeasy_api_ErrFull), ("speakeasy/api.ErrNone", Rows.laid_speakeasy_api_ErrNone), ("speakeasy/api.ErrHave", Rows.laid_speakeasy_api_ErrHave), ("speakeasy/api.ErrKey", Rows.laid_speakeasy_api_ErrKey), ("speakeasy/api.ErrSign", Rows.laid_speakeasy_api_ErrSign), ("speakeasy/api.ErrVersion", Rows.laid_speakeasy_api_ErrVersion), ("speakeasy/api.ErrAlgo", Rows.laid_speakeasy_api_ErrAlgo), ("speakeasy/api.ErrHost", Rows.laid_speakeasy_api_ErrHost), ("speakeasy/api.ErrAuth", Rows.laid_speakeasy_api_ErrAuth), ("speakeasy/api.ErrQuota", Rows.laid_speakeasy_api_ErrQuota), ("speakeasy/api.ErrName", Rows.laid_speakeasy_api_ErrName), ("speakeasy/api.ErrGone", Rows.laid_speakeasy_api_ErrGone), ("speakeasy/api.ErrWindow", Rows.laid_speakeasy_api_ErrWindow), ("speakeasy/api.ErrKind", Rows.laid_speakeasy_api_ErrKind), ("speakeasy/message.kinds", Rows.laid_speakeasy_message_kinds), ("unicode/utf8.first", Rows.laid_unicode_utf8_first)] W := h
  obtain ⟨hl, hh⟩ := laidMetH_two h'
  have h0 := laidMet_tail (show laidMet Tryz.prog (_ :: _) W from hl)
  have h1 := laidMet_tail h0
  have h2 := laidMet_tail h1
  have h3 := laidMet_tail h2
  have h4 := laidMet_tail h3
  have h5 := laidMet_tail h4
  have h6 := laidMet_tail h5
  have h7 := laidMet_tail h6
  have h8 := laidMet_tail h7
  have h9 := laidMet_tail h8
  have h10 := laidMet_tail h9
  have h11 := laidMet_tail h10
  have h12 := laidMet_tail h11
  have h13 := laidMet_tail h12
  have h14 := laidMet_tail h13
  have h15 := laidMet_tail h14
  have h16 := laidMet_tail h15
  have h17 := laidMet_tail h16
  have h18 := laidMet_tail h17
  have h19 := laidMet_tail h18
  have h20 := laidMet_tail h19
  obtain ⟨eo, hd, hkn⟩ := laid_errs h0
  refine walk_of_meets_at (errE W eo) (errE_glob _ _) (errE_top _ _) (messageBlobs_ev eo hd anyT key hk s.data.toList hs flip) rfl (fun i x y hx hy => ?_) (known.spec (known_app hkn ⟨known_kinds h20, ⟨rfl, 21, sizeAt W 21, by simp [errE], bat_handle (show handlesMet Tryz.prog (_ :: _) W from hh)⟩, trivial⟩))
  match i, hx, hy with
  | 0, hx, hy => injection hx with hx; injection hy with hy; subst hx; subst hy; exact rel_bytes _ _
  | 1, hx, hy => injection hx with hx; injection hy with hy; subst hx; subst hy; exact .str _
  | 2, hx, hy => injection hx with hx; injection hy with hy; subst hx; subst hy; exact .i64 _
  | i + 3, hx, _ => simp at hx
end Go.Proofs.YtaelhapmikijnaaGreatDoor
