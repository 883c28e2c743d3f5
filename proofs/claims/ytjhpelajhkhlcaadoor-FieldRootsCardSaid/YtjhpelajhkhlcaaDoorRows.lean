/-
  NARROWER THAN 'FOR EVERY INPUT', by the rows' own cells (each row's printed sentence says how): PolySums: laid · PolyEdges: laid · PolySeals: laid · PolyOpens: laid · PolyTurned: laid · FieldSums: laid · FieldChains: laid · FieldRoots: laid · FieldRing: laid · CurveMults: laid · CurveTwo: laid · CurveClamps: laid · CurveThree: laid · SpeakSealed: laid.
  DERIVED. THE GIVEN ROWS OF THIS SEAT. 14 by the template 'for every input the law returns true; each argument reads behind the call as it read before'; 0 by the template 'total and deterministic' (their statements: YtjhpelajhkhlcaaDoorTotals.lean).
  GIVEN WITH THE SEED: the statements are not yours to turn. If you find one false, say at which input.
  Laid BY PROGRAM, IN A SANDBOX (cutbox-rows.mjs): the forced cells as the released guide's own fill.sh prints them over the translation 8097bc9b44e87d9e… (all of the seat's roots in one cut). By AI agents, Wed Nov 11 2026. No macro, syntax, notation, axiom, sorry.
-/
import Derived.Test.YtjhpelajhkhlcaaDoorChecked
import GoSem.Claim
import GoSem.ClaimJoined
import GoSem.ClaimMapViews
import Derived.JoinedTies
import Derived.KernelRfl
namespace Go.Proofs.YtjhpelajhkhlcaaDoor
/- THE CELL 'sum', in the pinned program and in every row, IS THE sha256 OF THE DUMP (.gsa) THAT YtjhpelajhkhlcaaDoorProg.lean LOADS. Nothing in Lean hashes anything: it is a label: what it is worth is what the hold of that sum in a sandbox is worth. -/
noncomputable def Tryd.pinned : Pinned := { name := "ytjhpelajhkhlcaadoor", sum := "8097bc9b44e87d9edba05645160104ca5a7facecbbd4c153262c318e387c6507", checked := Tryd.checked }
namespace Rows
def none {H : Type} : Left H := { results := [], args := [] }

/- WHAT THE LISTED PACKAGE-LEVEL VARIABLES READ AS WHEN THE CALL BEGINS. Each datum BY PROGRAM (the guide's laid-datum.mjs) off the statement by which the dump's own 'gosem.cut.vars' lays the variable. In a bare row this is a premise. The card (YtjhpelajhkhlcaaDoorCards.lean) ties it to the program's text. -/
def laid_speakeasy_chacha_quarters {H : Type} : DataW H := .agg [.agg [.lit (.int .i64 0), .lit (.int .i64 4), .lit (.int .i64 8), .lit (.int .i64 12)], .agg [.lit (.int .i64 1), .lit (.int .i64 5), .lit (.int .i64 9), .lit (.int .i64 13)], .agg [.lit (.int .i64 2), .lit (.int .i64 6), .lit (.int .i64 10), .lit (.int .i64 14)], .agg [.lit (.int .i64 3), .lit (.int .i64 7), .lit (.int .i64 11), .lit (.int .i64 15)], .agg [.lit (.int .i64 0), .lit (.int .i64 5), .lit (.int .i64 10), .lit (.int .i64 15)], .agg [.lit (.int .i64 1), .lit (.int .i64 6), .lit (.int .i64 11), .lit (.int .i64 12)], .agg [.lit (.int .i64 2), .lit (.int .i64 7), .lit (.int .i64 8), .lit (.int .i64 13)], .agg [.lit (.int .i64 3), .lit (.int .i64 4), .lit (.int .i64 9), .lit (.int .i64 14)]]
def laid_speakeasy_api_ErrEnd {H : Type} : DataW H := .iface "*errors.errorString" (.ptr (.agg [.lit (.string [98, 121, 116, 101, 115, 32, 97, 114, 101, 32, 119, 97, 110, 116, 105, 110, 103])]))
def laid_speakeasy_api_ErrMac {H : Type} : DataW H := .iface "*errors.errorString" (.ptr (.agg [.lit (.string [97, 32, 115, 117, 109, 32, 116, 104, 97, 116, 32, 100, 111, 101, 115, 110, 39, 116, 32, 102, 105, 116])]))
def laid_speakeasy_api_ErrArg {H : Type} : DataW H := .iface "*errors.errorString" (.ptr (.agg [.lit (.string [97, 110, 32, 97, 114, 103, 117, 109, 101, 110, 116, 32, 116, 104, 97, 116, 32, 109, 97, 121, 32, 110, 111, 116, 32, 98, 101])]))
def laid_speakeasy_api_ErrForm {H : Type} : DataW H := .iface "*errors.errorString" (.ptr (.agg [.lit (.string [98, 121, 116, 101, 115, 32, 116, 104, 97, 116, 32, 115, 97, 121, 32, 110, 111, 116, 104, 105, 110, 103])]))
def laid_speakeasy_api_ErrBig {H : Type} : DataW H := .iface "*errors.errorString" (.ptr (.agg [.lit (.string [109, 111, 114, 101, 32, 116, 104, 97, 110, 32, 116, 104, 101, 114, 101, 32, 109, 97, 121, 32, 98, 101])]))
def laid_speakeasy_api_ErrState {H : Type} : DataW H := .iface "*errors.errorString" (.ptr (.agg [.lit (.string [110, 111, 116, 32, 110, 111, 119])]))
def laid_speakeasy_api_ErrFull {H : Type} : DataW H := .iface "*errors.errorString" (.ptr (.agg [.lit (.string [116, 104, 101, 114, 101, 32, 105, 115, 32, 110, 111, 32, 114, 111, 111, 109])]))
def laid_speakeasy_api_ErrNone {H : Type} : DataW H := .iface "*errors.errorString" (.ptr (.agg [.lit (.string [116, 104, 101, 114, 101, 32, 105, 115, 32, 110, 111, 110, 101])]))
def laid_speakeasy_api_ErrHave {H : Type} : DataW H := .iface "*errors.errorString" (.ptr (.agg [.lit (.string [105, 116, 32, 105, 115, 32, 116, 104, 101, 114, 101, 32, 97, 108, 114, 101, 97, 100, 121])]))
def laid_speakeasy_api_ErrKey {H : Type} : DataW H := .iface "*errors.errorString" (.ptr (.agg [.lit (.string [97, 32, 107, 101, 121, 32, 116, 104, 97, 116, 32, 109, 97, 121, 32, 110, 111, 116, 32, 98, 101])]))
def laid_speakeasy_api_ErrSign {H : Type} : DataW H := .iface "*errors.errorString" (.ptr (.agg [.lit (.string [97, 32, 115, 105, 103, 110, 97, 116, 117, 114, 101, 32, 116, 104, 97, 116, 32, 100, 111, 101, 115, 110, 39, 116, 32, 102, 105, 116])]))
def laid_speakeasy_api_ErrVersion {H : Type} : DataW H := .iface "*errors.errorString" (.ptr (.agg [.lit (.string [97, 110, 111, 116, 104, 101, 114, 32, 118, 101, 114, 115, 105, 111, 110])]))
def laid_speakeasy_api_ErrAlgo {H : Type} : DataW H := .iface "*errors.errorString" (.ptr (.agg [.lit (.string [110, 111, 116, 104, 105, 110, 103, 32, 105, 110, 32, 99, 111, 109, 109, 111, 110])]))
def laid_speakeasy_api_ErrHost {H : Type} : DataW H := .iface "*errors.errorString" (.ptr (.agg [.lit (.string [97, 110, 111, 116, 104, 101, 114, 32, 104, 111, 115, 116, 39, 115, 32, 107, 101, 121])]))
def laid_speakeasy_api_ErrAuth {H : Type} : DataW H := .iface "*errors.errorString" (.ptr (.agg [.lit (.string [105, 116, 32, 109, 97, 121, 32, 110, 111, 116, 32, 99, 111, 109, 101, 32, 105, 110])]))
def laid_speakeasy_api_ErrQuota {H : Type} : DataW H := .iface "*errors.errorString" (.ptr (.agg [.lit (.string [109, 111, 114, 101, 32, 116, 104, 97, 110, 32, 105, 116, 115, 32, 115, 104, 97, 114, 101])]))
def laid_speakeasy_api_ErrName {H : Type} : DataW H := .iface "*errors.errorString" (.ptr (.agg [.lit (.string [97, 32, 110, 97, 109, 101, 32, 116, 104, 97, 116, 32, 109, 97, 121, 32, 110, 111, 116, 32, 98, 101])]))
def laid_speakeasy_api_ErrGone {H : Type} : DataW H := .iface "*errors.errorString" (.ptr (.agg [.lit (.string [105, 116, 32, 105, 115, 32, 103, 111, 110, 101])]))
def laid_speakeasy_api_ErrWindow {H : Type} : DataW H := .iface "*errors.errorString" (.ptr (.agg [.lit (.string [98, 101, 121, 111, 110, 100, 32, 116, 104, 101, 32, 119, 105, 110, 100, 111, 119])]))
def laid_speakeasy_api_ErrKind {H : Type} : DataW H := .iface "*errors.errorString" (.ptr (.agg [.lit (.string [116, 104, 101, 114, 101, 32, 105, 115, 32, 110, 111, 32, 115, 117, 99, 104, 32, 107, 105, 110, 100])]))
def laid_speakeasy_field_prime {H : Type} : DataW H := .agg [.lit (.int .u64 18446744073709551597), .lit (.int .u64 18446744073709551615), .lit (.int .u64 18446744073709551615), .lit (.int .u64 9223372036854775807)]
def laid_speakeasy_field_minus1Root {H : Type} : DataW H := .agg [.lit (.int .u64 14190309331451158704), .lit (.int .u64 3405592160176694392), .lit (.int .u64 3120150775007532967), .lit (.int .u64 3135389899092516619)]
def laid_speakeasy_sha2_k256 {H : Type} : DataW H := .agg [.lit (.int .u32 1116352408), .lit (.int .u32 1899447441), .lit (.int .u32 3049323471), .lit (.int .u32 3921009573), .lit (.int .u32 961987163), .lit (.int .u32 1508970993), .lit (.int .u32 2453635748), .lit (.int .u32 2870763221), .lit (.int .u32 3624381080), .lit (.int .u32 310598401), .lit (.int .u32 607225278), .lit (.int .u32 1426881987), .lit (.int .u32 1925078388), .lit (.int .u32 2162078206), .lit (.int .u32 2614888103), .lit (.int .u32 3248222580), .lit (.int .u32 3835390401), .lit (.int .u32 4022224774), .lit (.int .u32 264347078), .lit (.int .u32 604807628), .lit (.int .u32 770255983), .lit (.int .u32 1249150122), .lit (.int .u32 1555081692), .lit (.int .u32 1996064986), .lit (.int .u32 2554220882), .lit (.int .u32 2821834349), .lit (.int .u32 2952996808), .lit (.int .u32 3210313671), .lit (.int .u32 3336571891), .lit (.int .u32 3584528711), .lit (.int .u32 113926993), .lit (.int .u32 338241895), .lit (.int .u32 666307205), .lit (.int .u32 773529912), .lit (.int .u32 1294757372), .lit (.int .u32 1396182291), .lit (.int .u32 1695183700), .lit (.int .u32 1986661051), .lit (.int .u32 2177026350), .lit (.int .u32 2456956037), .lit (.int .u32 2730485921), .lit (.int .u32 2820302411), .lit (.int .u32 3259730800), .lit (.int .u32 3345764771), .lit (.int .u32 3516065817), .lit (.int .u32 3600352804), .lit (.int .u32 4094571909), .lit (.int .u32 275423344), .lit (.int .u32 430227734), .lit (.int .u32 506948616), .lit (.int .u32 659060556), .lit (.int .u32 883997877), .lit (.int .u32 958139571), .lit (.int .u32 1322822218), .lit (.int .u32 1537002063), .lit (.int .u32 1747873779), .lit (.int .u32 1955562222), .lit (.int .u32 2024104815), .lit (.int .u32 2227730452), .lit (.int .u32 2361852424), .lit (.int .u32 2428436474), .lit (.int .u32 2756734187), .lit (.int .u32 3204031479), .lit (.int .u32 3329325298)]

/-- 'speakeasylaw04.PolySums': WHATEVER THE INPUT: true; the input reads as it did. -/
def polySumsSpec : ChangeSpec := { name := "polySums", fn := fun _ => fun
  | [d1, d2] => { results := [.lit (.bool true)], args := [d1, d2] }
  | _ => none }
def polySumsRow : OpenClaim := { program := "ytjhpelajhkhlcaadoor", sum := "8097bc9b44e87d9edba05645160104ca5a7facecbbd4c153262c318e387c6507", func := "speakeasy/speakeasylaw04.PolySums", spec := "polySums", inPlace := ["math/bits.Add64"], named := ["speakeasy/chacha.quarters", "speakeasy/api.ErrEnd", "speakeasy/api.ErrMac"], apart := false, laid := [("speakeasy/chacha.quarters", laid_speakeasy_chacha_quarters), ("speakeasy/api.ErrEnd", laid_speakeasy_api_ErrEnd), ("speakeasy/api.ErrMac", laid_speakeasy_api_ErrMac)] }
def PolySumsSaid : Prop := polySumsRow.holds Tryd.pinned (OpenSpec.ofChange polySumsSpec)

/-- ITS FALSE NEIGHBOUR: 'it returns false'. Refute it at one input. -/
def polySumsWrong : ChangeSpec := { name := "polySums", fn := fun _ => fun
  | [d1, d2] => { results := [.lit (.bool false)], args := [d1, d2] }
  | _ => none }
def PolySumsWrongFalsely : Prop := polySumsRow.holds Tryd.pinned (OpenSpec.ofChange polySumsWrong)

/-- 'speakeasylaw04.PolyEdges': WHATEVER THE INPUT: true; the input reads as it did. -/
def polyEdgesSpec : ChangeSpec := { name := "polyEdges", fn := fun _ => fun
  | [d1, d2] => { results := [.lit (.bool true)], args := [d1, d2] }
  | _ => none }
def polyEdgesRow : OpenClaim := { program := "ytjhpelajhkhlcaadoor", sum := "8097bc9b44e87d9edba05645160104ca5a7facecbbd4c153262c318e387c6507", func := "speakeasy/speakeasylaw04.PolyEdges", spec := "polyEdges", inPlace := ["math/bits.Add64"], named := ["speakeasy/chacha.quarters", "speakeasy/api.ErrEnd", "speakeasy/api.ErrMac"], apart := false, laid := [("speakeasy/chacha.quarters", laid_speakeasy_chacha_quarters), ("speakeasy/api.ErrEnd", laid_speakeasy_api_ErrEnd), ("speakeasy/api.ErrMac", laid_speakeasy_api_ErrMac)] }
def PolyEdgesSaid : Prop := polyEdgesRow.holds Tryd.pinned (OpenSpec.ofChange polyEdgesSpec)

/-- ITS FALSE NEIGHBOUR: 'it returns false'. Refute it at one input. -/
def polyEdgesWrong : ChangeSpec := { name := "polyEdges", fn := fun _ => fun
  | [d1, d2] => { results := [.lit (.bool false)], args := [d1, d2] }
  | _ => none }
def PolyEdgesWrongFalsely : Prop := polyEdgesRow.holds Tryd.pinned (OpenSpec.ofChange polyEdgesWrong)

/-- 'speakeasylaw04.PolySeals': WHATEVER THE INPUT: true; the input reads as it did. -/
def polySealsSpec : ChangeSpec := { name := "polySeals", fn := fun _ => fun
  | [d1, d2, d3] => { results := [.lit (.bool true)], args := [d1, d2, d3] }
  | _ => none }
def polySealsRow : OpenClaim := { program := "ytjhpelajhkhlcaadoor", sum := "8097bc9b44e87d9edba05645160104ca5a7facecbbd4c153262c318e387c6507", func := "speakeasy/speakeasylaw04.PolySeals", spec := "polySeals", inPlace := ["math/bits.Add64"], named := ["speakeasy/chacha.quarters", "speakeasy/api.ErrEnd", "speakeasy/api.ErrMac"], apart := false, laid := [("speakeasy/chacha.quarters", laid_speakeasy_chacha_quarters), ("speakeasy/api.ErrEnd", laid_speakeasy_api_ErrEnd), ("speakeasy/api.ErrMac", laid_speakeasy_api_ErrMac)] }
def PolySealsSaid : Prop := polySealsRow.holds Tryd.pinned (OpenSpec.ofChange polySealsSpec)

/-- ITS FALSE NEIGHBOUR: 'it returns false'. Refute it at one input. -/
def polySealsWrong : ChangeSpec := { name := "polySeals", fn := fun _ => fun
  | [d1, d2, d3] => { results := [.lit (.bool false)], args := [d1, d2, d3] }
  | _ => none }
def PolySealsWrongFalsely : Prop := polySealsRow.holds Tryd.pinned (OpenSpec.ofChange polySealsWrong)

/-- 'speakeasylaw04.PolyOpens': WHATEVER THE INPUT: true; the input reads as it did. -/
def polyOpensSpec : ChangeSpec := { name := "polyOpens", fn := fun _ => fun
  | [d1, d2, d3] => { results := [.lit (.bool true)], args := [d1, d2, d3] }
  | _ => none }
def polyOpensRow : OpenClaim := { program := "ytjhpelajhkhlcaadoor", sum := "8097bc9b44e87d9edba05645160104ca5a7facecbbd4c153262c318e387c6507", func := "speakeasy/speakeasylaw04.PolyOpens", spec := "polyOpens", inPlace := ["math/bits.Add64", "internal/reflectlite.TypeOf"], unfollowed := true, recurses := true, named := ["speakeasy/chacha.quarters", "speakeasy/api.ErrEnd", "speakeasy/api.ErrMac", "speakeasy/api.ErrArg", "speakeasy/api.ErrForm", "speakeasy/api.ErrBig", "speakeasy/api.ErrState", "speakeasy/api.ErrFull", "speakeasy/api.ErrNone", "speakeasy/api.ErrHave", "speakeasy/api.ErrKey", "speakeasy/api.ErrSign", "speakeasy/api.ErrVersion", "speakeasy/api.ErrAlgo", "speakeasy/api.ErrHost", "speakeasy/api.ErrAuth", "speakeasy/api.ErrQuota", "speakeasy/api.ErrName", "speakeasy/api.ErrGone", "speakeasy/api.ErrWindow", "speakeasy/api.ErrKind"], apart := false, laid := [("speakeasy/chacha.quarters", laid_speakeasy_chacha_quarters), ("speakeasy/api.ErrArg", laid_speakeasy_api_ErrArg), ("speakeasy/api.ErrEnd", laid_speakeasy_api_ErrEnd), ("speakeasy/api.ErrForm", laid_speakeasy_api_ErrForm), ("speakeasy/api.ErrBig", laid_speakeasy_api_ErrBig), ("speakeasy/api.ErrMac", laid_speakeasy_api_ErrMac), ("speakeasy/api.ErrState", laid_speakeasy_api_ErrState), ("speakeasy/api.ErrFull", laid_speakeasy_api_ErrFull), ("speakeasy/api.ErrNone", laid_speakeasy_api_ErrNone), ("speakeasy/api.ErrHave", laid_speakeasy_api_ErrHave), ("speakeasy/api.ErrKey", laid_speakeasy_api_ErrKey), ("speakeasy/api.ErrSign", laid_speakeasy_api_ErrSign), ("speakeasy/api.ErrVersion", laid_speakeasy_api_ErrVersion), ("speakeasy/api.ErrAlgo", laid_speakeasy_api_ErrAlgo), ("speakeasy/api.ErrHost", laid_speakeasy_api_ErrHost), ("speakeasy/api.ErrAuth", laid_speakeasy_api_ErrAuth), ("speakeasy/api.ErrQuota", laid_speakeasy_api_ErrQuota), ("speakeasy/api.ErrName", laid_speakeasy_api_ErrName), ("speakeasy/api.ErrGone", laid_speakeasy_api_ErrGone), ("speakeasy/api.ErrWindow", laid_speakeasy_api_ErrWindow), ("speakeasy/api.ErrKind", laid_speakeasy_api_ErrKind)] }
def PolyOpensSaid : Prop := polyOpensRow.holds Tryd.pinned (OpenSpec.ofChange polyOpensSpec)

/-- ITS FALSE NEIGHBOUR: 'it returns false'. Refute it at one input. -/
def polyOpensWrong : ChangeSpec := { name := "polyOpens", fn := fun _ => fun
  | [d1, d2, d3] => { results := [.lit (.bool false)], args := [d1, d2, d3] }
  | _ => none }
def PolyOpensWrongFalsely : Prop := polyOpensRow.holds Tryd.pinned (OpenSpec.ofChange polyOpensWrong)

/-- 'speakeasylaw04.PolyTurned': WHATEVER THE INPUT: true; the input reads as it did. -/
def polyTurnedSpec : ChangeSpec := { name := "polyTurned", fn := fun _ => fun
  | [d] => { results := [.lit (.bool true)], args := [d] }
  | _ => none }
def polyTurnedRow : OpenClaim := { program := "ytjhpelajhkhlcaadoor", sum := "8097bc9b44e87d9edba05645160104ca5a7facecbbd4c153262c318e387c6507", func := "speakeasy/speakeasylaw04.PolyTurned", spec := "polyTurned", inPlace := ["math/bits.Add64", "internal/reflectlite.TypeOf"], unfollowed := true, recurses := true, named := ["speakeasy/chacha.quarters", "speakeasy/api.ErrEnd", "speakeasy/api.ErrMac", "speakeasy/api.ErrArg", "speakeasy/api.ErrForm", "speakeasy/api.ErrBig", "speakeasy/api.ErrState", "speakeasy/api.ErrFull", "speakeasy/api.ErrNone", "speakeasy/api.ErrHave", "speakeasy/api.ErrKey", "speakeasy/api.ErrSign", "speakeasy/api.ErrVersion", "speakeasy/api.ErrAlgo", "speakeasy/api.ErrHost", "speakeasy/api.ErrAuth", "speakeasy/api.ErrQuota", "speakeasy/api.ErrName", "speakeasy/api.ErrGone", "speakeasy/api.ErrWindow", "speakeasy/api.ErrKind"], apart := false, laid := [("speakeasy/chacha.quarters", laid_speakeasy_chacha_quarters), ("speakeasy/api.ErrArg", laid_speakeasy_api_ErrArg), ("speakeasy/api.ErrEnd", laid_speakeasy_api_ErrEnd), ("speakeasy/api.ErrForm", laid_speakeasy_api_ErrForm), ("speakeasy/api.ErrBig", laid_speakeasy_api_ErrBig), ("speakeasy/api.ErrMac", laid_speakeasy_api_ErrMac), ("speakeasy/api.ErrState", laid_speakeasy_api_ErrState), ("speakeasy/api.ErrFull", laid_speakeasy_api_ErrFull), ("speakeasy/api.ErrNone", laid_speakeasy_api_ErrNone), ("speakeasy/api.ErrHave", laid_speakeasy_api_ErrHave), ("speakeasy/api.ErrKey", laid_speakeasy_api_ErrKey), ("speakeasy/api.ErrSign", laid_speakeasy_api_ErrSign), ("speakeasy/api.ErrVersion", laid_speakeasy_api_ErrVersion), ("speakeasy/api.ErrAlgo", laid_speakeasy_api_ErrAlgo), ("speakeasy/api.ErrHost", laid_speakeasy_api_ErrHost), ("speakeasy/api.ErrAuth", laid_speakeasy_api_ErrAuth), ("speakeasy/api.ErrQuota", laid_speakeasy_api_ErrQuota), ("speakeasy/api.ErrName", laid_speakeasy_api_ErrName), ("speakeasy/api.ErrGone", laid_speakeasy_api_ErrGone), ("speakeasy/api.ErrWindow", laid_speakeasy_api_ErrWindow), ("speakeasy/api.ErrKind", laid_speakeasy_api_ErrKind)] }
def PolyTurnedSaid : Prop := polyTurnedRow.holds Tryd.pinned (OpenSpec.ofChange polyTurnedSpec)

/-- ITS FALSE NEIGHBOUR: 'it returns false'. Refute it at one input. -/
def polyTurnedWrong : ChangeSpec := { name := "polyTurned", fn := fun _ => fun
  | [d] => { results := [.lit (.bool false)], args := [d] }
  | _ => none }
def PolyTurnedWrongFalsely : Prop := polyTurnedRow.holds Tryd.pinned (OpenSpec.ofChange polyTurnedWrong)

/-- 'speakeasylaw05.FieldSums': WHATEVER THE INPUT: true; the input reads as it did. -/
def fieldSumsSpec : ChangeSpec := { name := "fieldSums", fn := fun _ => fun
  | [d1, d2] => { results := [.lit (.bool true)], args := [d1, d2] }
  | _ => none }
def fieldSumsRow : OpenClaim := { program := "ytjhpelajhkhlcaadoor", sum := "8097bc9b44e87d9edba05645160104ca5a7facecbbd4c153262c318e387c6507", func := "speakeasy/speakeasylaw05.FieldSums", spec := "fieldSums", inPlace := ["math/bits.Add64", "math/bits.Sub64"], named := ["speakeasy/field.prime"], apart := false, laid := [("speakeasy/field.prime", laid_speakeasy_field_prime)] }
def FieldSumsSaid : Prop := fieldSumsRow.holds Tryd.pinned (OpenSpec.ofChange fieldSumsSpec)

/-- ITS FALSE NEIGHBOUR: 'it returns false'. Refute it at one input. -/
def fieldSumsWrong : ChangeSpec := { name := "fieldSums", fn := fun _ => fun
  | [d1, d2] => { results := [.lit (.bool false)], args := [d1, d2] }
  | _ => none }
def FieldSumsWrongFalsely : Prop := fieldSumsRow.holds Tryd.pinned (OpenSpec.ofChange fieldSumsWrong)

/-- 'speakeasylaw05.FieldChains': WHATEVER THE INPUT: true; the input reads as it did. -/
def fieldChainsSpec : ChangeSpec := { name := "fieldChains", fn := fun _ => fun
  | [d1, d2] => { results := [.lit (.bool true)], args := [d1, d2] }
  | _ => none }
def fieldChainsRow : OpenClaim := { program := "ytjhpelajhkhlcaadoor", sum := "8097bc9b44e87d9edba05645160104ca5a7facecbbd4c153262c318e387c6507", func := "speakeasy/speakeasylaw05.FieldChains", spec := "fieldChains", inPlace := ["math/bits.Add64", "math/bits.Sub64"], named := ["speakeasy/field.prime"], apart := false, laid := [("speakeasy/field.prime", laid_speakeasy_field_prime)] }
def FieldChainsSaid : Prop := fieldChainsRow.holds Tryd.pinned (OpenSpec.ofChange fieldChainsSpec)

/-- ITS FALSE NEIGHBOUR: 'it returns false'. Refute it at one input. -/
def fieldChainsWrong : ChangeSpec := { name := "fieldChains", fn := fun _ => fun
  | [d1, d2] => { results := [.lit (.bool false)], args := [d1, d2] }
  | _ => none }
def FieldChainsWrongFalsely : Prop := fieldChainsRow.holds Tryd.pinned (OpenSpec.ofChange fieldChainsWrong)

/-- 'speakeasylaw05.FieldRoots': WHATEVER THE INPUT: true; the input reads as it did. -/
def fieldRootsSpec : ChangeSpec := { name := "fieldRoots", fn := fun _ => fun
  | [d1, d2] => { results := [.lit (.bool true)], args := [d1, d2] }
  | _ => none }
def fieldRootsRow : OpenClaim := { program := "ytjhpelajhkhlcaadoor", sum := "8097bc9b44e87d9edba05645160104ca5a7facecbbd4c153262c318e387c6507", func := "speakeasy/speakeasylaw05.FieldRoots", spec := "fieldRoots", inPlace := ["math/bits.Add64", "math/bits.Sub64"], recurses := true, named := ["speakeasy/field.prime", "speakeasy/field.minus1Root"], apart := false, laid := [("speakeasy/field.prime", laid_speakeasy_field_prime), ("speakeasy/field.minus1Root", laid_speakeasy_field_minus1Root)] }
def FieldRootsSaid : Prop := fieldRootsRow.holds Tryd.pinned (OpenSpec.ofChange fieldRootsSpec)

/-- ITS FALSE NEIGHBOUR: 'it returns false'. Refute it at one input. -/
def fieldRootsWrong : ChangeSpec := { name := "fieldRoots", fn := fun _ => fun
  | [d1, d2] => { results := [.lit (.bool false)], args := [d1, d2] }
  | _ => none }
def FieldRootsWrongFalsely : Prop := fieldRootsRow.holds Tryd.pinned (OpenSpec.ofChange fieldRootsWrong)

/-- 'speakeasylaw05.FieldRing': WHATEVER THE INPUT: true; the input reads as it did. -/
def fieldRingSpec : ChangeSpec := { name := "fieldRing", fn := fun _ => fun
  | [d1, d2, d3] => { results := [.lit (.bool true)], args := [d1, d2, d3] }
  | _ => none }
def fieldRingRow : OpenClaim := { program := "ytjhpelajhkhlcaadoor", sum := "8097bc9b44e87d9edba05645160104ca5a7facecbbd4c153262c318e387c6507", func := "speakeasy/speakeasylaw05.FieldRing", spec := "fieldRing", inPlace := ["math/bits.Add64", "math/bits.Sub64"], named := ["speakeasy/field.prime"], apart := false, laid := [("speakeasy/field.prime", laid_speakeasy_field_prime)] }
def FieldRingSaid : Prop := fieldRingRow.holds Tryd.pinned (OpenSpec.ofChange fieldRingSpec)

/-- ITS FALSE NEIGHBOUR: 'it returns false'. Refute it at one input. -/
def fieldRingWrong : ChangeSpec := { name := "fieldRing", fn := fun _ => fun
  | [d1, d2, d3] => { results := [.lit (.bool false)], args := [d1, d2, d3] }
  | _ => none }
def FieldRingWrongFalsely : Prop := fieldRingRow.holds Tryd.pinned (OpenSpec.ofChange fieldRingWrong)

/-- 'speakeasylaw06.CurveMults': WHATEVER THE INPUT: true; the input reads as it did. -/
def curveMultsSpec : ChangeSpec := { name := "curveMults", fn := fun _ => fun
  | [d1, d2] => { results := [.lit (.bool true)], args := [d1, d2] }
  | _ => none }
def curveMultsRow : OpenClaim := { program := "ytjhpelajhkhlcaadoor", sum := "8097bc9b44e87d9edba05645160104ca5a7facecbbd4c153262c318e387c6507", func := "speakeasy/speakeasylaw06.CurveMults", spec := "curveMults", inPlace := ["math/bits.Add64", "math/bits.Sub64"], recurses := true, named := ["speakeasy/field.prime"], apart := false, laid := [("speakeasy/field.prime", laid_speakeasy_field_prime)] }
def CurveMultsSaid : Prop := curveMultsRow.holds Tryd.pinned (OpenSpec.ofChange curveMultsSpec)

/-- ITS FALSE NEIGHBOUR: 'it returns false'. Refute it at one input. -/
def curveMultsWrong : ChangeSpec := { name := "curveMults", fn := fun _ => fun
  | [d1, d2] => { results := [.lit (.bool false)], args := [d1, d2] }
  | _ => none }
def CurveMultsWrongFalsely : Prop := curveMultsRow.holds Tryd.pinned (OpenSpec.ofChange curveMultsWrong)

/-- 'speakeasylaw06.CurveTwo': WHATEVER THE INPUT: true; the input reads as it did. -/
def curveTwoSpec : ChangeSpec := { name := "curveTwo", fn := fun _ => fun
  | [d1, d2] => { results := [.lit (.bool true)], args := [d1, d2] }
  | _ => none }
def curveTwoRow : OpenClaim := { program := "ytjhpelajhkhlcaadoor", sum := "8097bc9b44e87d9edba05645160104ca5a7facecbbd4c153262c318e387c6507", func := "speakeasy/speakeasylaw06.CurveTwo", spec := "curveTwo", inPlace := ["math/bits.Add64", "math/bits.Sub64"], recurses := true, named := ["speakeasy/field.prime"], apart := false, laid := [("speakeasy/field.prime", laid_speakeasy_field_prime)] }
def CurveTwoSaid : Prop := curveTwoRow.holds Tryd.pinned (OpenSpec.ofChange curveTwoSpec)

/-- ITS FALSE NEIGHBOUR: 'it returns false'. Refute it at one input. -/
def curveTwoWrong : ChangeSpec := { name := "curveTwo", fn := fun _ => fun
  | [d1, d2] => { results := [.lit (.bool false)], args := [d1, d2] }
  | _ => none }
def CurveTwoWrongFalsely : Prop := curveTwoRow.holds Tryd.pinned (OpenSpec.ofChange curveTwoWrong)

/-- 'speakeasylaw06.CurveClamps': WHATEVER THE INPUT: true; the input reads as it did. -/
def curveClampsSpec : ChangeSpec := { name := "curveClamps", fn := fun _ => fun
  | [d1, d2, d3] => { results := [.lit (.bool true)], args := [d1, d2, d3] }
  | _ => none }
def curveClampsRow : OpenClaim := { program := "ytjhpelajhkhlcaadoor", sum := "8097bc9b44e87d9edba05645160104ca5a7facecbbd4c153262c318e387c6507", func := "speakeasy/speakeasylaw06.CurveClamps", spec := "curveClamps", inPlace := ["math/bits.Add64", "math/bits.Sub64"], recurses := true, named := ["speakeasy/field.prime"], apart := false, laid := [("speakeasy/field.prime", laid_speakeasy_field_prime)] }
def CurveClampsSaid : Prop := curveClampsRow.holds Tryd.pinned (OpenSpec.ofChange curveClampsSpec)

/-- ITS FALSE NEIGHBOUR: 'it returns false'. Refute it at one input. -/
def curveClampsWrong : ChangeSpec := { name := "curveClamps", fn := fun _ => fun
  | [d1, d2, d3] => { results := [.lit (.bool false)], args := [d1, d2, d3] }
  | _ => none }
def CurveClampsWrongFalsely : Prop := curveClampsRow.holds Tryd.pinned (OpenSpec.ofChange curveClampsWrong)

/-- 'speakeasylaw06.CurveThree': WHATEVER THE INPUT: true; the input reads as it did. -/
def curveThreeSpec : ChangeSpec := { name := "curveThree", fn := fun _ => fun
  | [d1, d2, d3] => { results := [.lit (.bool true)], args := [d1, d2, d3] }
  | _ => none }
def curveThreeRow : OpenClaim := { program := "ytjhpelajhkhlcaadoor", sum := "8097bc9b44e87d9edba05645160104ca5a7facecbbd4c153262c318e387c6507", func := "speakeasy/speakeasylaw06.CurveThree", spec := "curveThree", inPlace := ["math/bits.Add64", "math/bits.Sub64"], recurses := true, named := ["speakeasy/field.prime"], apart := false, laid := [("speakeasy/field.prime", laid_speakeasy_field_prime)] }
def CurveThreeSaid : Prop := curveThreeRow.holds Tryd.pinned (OpenSpec.ofChange curveThreeSpec)

/-- ITS FALSE NEIGHBOUR: 'it returns false'. Refute it at one input. -/
def curveThreeWrong : ChangeSpec := { name := "curveThree", fn := fun _ => fun
  | [d1, d2, d3] => { results := [.lit (.bool false)], args := [d1, d2, d3] }
  | _ => none }
def CurveThreeWrongFalsely : Prop := curveThreeRow.holds Tryd.pinned (OpenSpec.ofChange curveThreeWrong)

/-- 'speakeasytop.SpeakSealed': WHATEVER THE INPUT: true; the input reads as it did. -/
def speakSealedSpec : ChangeSpec := { name := "speakSealed", fn := fun _ => fun
  | [d1, d2, d3] => { results := [.lit (.bool true)], args := [d1, d2, d3] }
  | _ => none }
def speakSealedRow : OpenClaim := { program := "ytjhpelajhkhlcaadoor", sum := "8097bc9b44e87d9edba05645160104ca5a7facecbbd4c153262c318e387c6507", func := "speakeasy/speakeasytop.SpeakSealed", spec := "speakSealed", inPlace := ["math/bits.Add64"], unfollowed := true, recurses := true, named := ["speakeasy/sha2.k256", "speakeasy/chacha.quarters", "speakeasy/api.ErrEnd", "speakeasy/api.ErrMac"], apart := false, laid := [("speakeasy/chacha.quarters", laid_speakeasy_chacha_quarters), ("speakeasy/api.ErrEnd", laid_speakeasy_api_ErrEnd), ("speakeasy/api.ErrMac", laid_speakeasy_api_ErrMac), ("speakeasy/sha2.k256", laid_speakeasy_sha2_k256)] }
def SpeakSealedSaid : Prop := speakSealedRow.holds Tryd.pinned (OpenSpec.ofChange speakSealedSpec)

/-- ITS FALSE NEIGHBOUR: 'it returns false'. Refute it at one input. -/
def speakSealedWrong : ChangeSpec := { name := "speakSealed", fn := fun _ => fun
  | [d1, d2, d3] => { results := [.lit (.bool false)], args := [d1, d2, d3] }
  | _ => none }
def SpeakSealedWrongFalsely : Prop := speakSealedRow.holds Tryd.pinned (OpenSpec.ofChange speakSealedWrong)

/- THE SECOND FORM. 'bulk': how many values and letters a reading holds, each counted each time it is reached (what is shared counts as often as it is met; a slice's spare places count too). A statement '..UptoSaid' is the law's where the arguments, and the package variables that the reading takes, are together of bulk at most 1048576: NARROWER than '..Said'. Prove '..Said' where nothing that the law and all that it calls make is longer than what came in: it says more and counts as full. Else prove '..UptoSaid'. A law counts once. -/
mutual
def uptoBulk {H : Type} : DataW H → Nat
  | .lit (.string bytes) => bytes.length + 1
  | .lit _ => 1
  | .nil => 1
  | .ptr d => uptoBulk d + 1
  | .slice elems spare => uptoBulkAll elems + uptoBulkAll spare + 1
  | .agg parts => uptoBulkAll parts + 1
  | .iface _ d => uptoBulk d + 1
  | .map entries => uptoBulkEntries entries + 1
  | .held _ => 1
def uptoBulkAll {H : Type} : List (DataW H) → Nat
  | [] => 0
  | d :: r => uptoBulk d + uptoBulkAll r
def uptoBulkEntries {H : Type} : List (Lit × DataW H) → Nat
  | [] => 0
  | x :: r => uptoBulkEntry x + uptoBulkEntries r
def uptoBulkEntry {H : Type} : Lit × DataW H → Nat
  | (.string bytes, d) => bytes.length + uptoBulk d + 1
  | (_, d) => uptoBulk d + 1
 end
def uptoSmall : (H : Type) → List (DataW H) → Bool := fun _ ds => decide (uptoBulkAll ds ≤ 1048576)
def OpenSpec.upto (s : _root_.Go.ChangeSpec) : _root_.Go.OpenSpec := { _root_.Go.OpenSpec.ofChange s with cond := some uptoSmall }

/-- 'speakeasylaw04.PolySums', WHERE WHAT IT READS IS OF BULK AT MOST 1048576: true; the input reads as it did. -/
def polySumsUptoRow : OpenClaim := { program := "ytjhpelajhkhlcaadoor", sum := "8097bc9b44e87d9edba05645160104ca5a7facecbbd4c153262c318e387c6507", func := "speakeasy/speakeasylaw04.PolySums", spec := "polySums", inPlace := ["math/bits.Add64"], named := ["speakeasy/chacha.quarters", "speakeasy/api.ErrEnd", "speakeasy/api.ErrMac"], apart := false, laid := [("speakeasy/chacha.quarters", laid_speakeasy_chacha_quarters), ("speakeasy/api.ErrEnd", laid_speakeasy_api_ErrEnd), ("speakeasy/api.ErrMac", laid_speakeasy_api_ErrMac)], narrowed := true }
def PolySumsUptoSaid : Prop := polySumsUptoRow.holds Tryd.pinned (OpenSpec.upto polySumsSpec)

/-- 'speakeasylaw04.PolyEdges', WHERE WHAT IT READS IS OF BULK AT MOST 1048576: true; the input reads as it did. -/
def polyEdgesUptoRow : OpenClaim := { program := "ytjhpelajhkhlcaadoor", sum := "8097bc9b44e87d9edba05645160104ca5a7facecbbd4c153262c318e387c6507", func := "speakeasy/speakeasylaw04.PolyEdges", spec := "polyEdges", inPlace := ["math/bits.Add64"], named := ["speakeasy/chacha.quarters", "speakeasy/api.ErrEnd", "speakeasy/api.ErrMac"], apart := false, laid := [("speakeasy/chacha.quarters", laid_speakeasy_chacha_quarters), ("speakeasy/api.ErrEnd", laid_speakeasy_api_ErrEnd), ("speakeasy/api.ErrMac", laid_speakeasy_api_ErrMac)], narrowed := true }
def PolyEdgesUptoSaid : Prop := polyEdgesUptoRow.holds Tryd.pinned (OpenSpec.upto polyEdgesSpec)

/-- 'speakeasylaw04.PolySeals', WHERE WHAT IT READS IS OF BULK AT MOST 1048576: true; the input reads as it did. -/
def polySealsUptoRow : OpenClaim := { program := "ytjhpelajhkhlcaadoor", sum := "8097bc9b44e87d9edba05645160104ca5a7facecbbd4c153262c318e387c6507", func := "speakeasy/speakeasylaw04.PolySeals", spec := "polySeals", inPlace := ["math/bits.Add64"], named := ["speakeasy/chacha.quarters", "speakeasy/api.ErrEnd", "speakeasy/api.ErrMac"], apart := false, laid := [("speakeasy/chacha.quarters", laid_speakeasy_chacha_quarters), ("speakeasy/api.ErrEnd", laid_speakeasy_api_ErrEnd), ("speakeasy/api.ErrMac", laid_speakeasy_api_ErrMac)], narrowed := true }
def PolySealsUptoSaid : Prop := polySealsUptoRow.holds Tryd.pinned (OpenSpec.upto polySealsSpec)

/-- 'speakeasylaw04.PolyOpens', WHERE WHAT IT READS IS OF BULK AT MOST 1048576: true; the input reads as it did. -/
def polyOpensUptoRow : OpenClaim := { program := "ytjhpelajhkhlcaadoor", sum := "8097bc9b44e87d9edba05645160104ca5a7facecbbd4c153262c318e387c6507", func := "speakeasy/speakeasylaw04.PolyOpens", spec := "polyOpens", inPlace := ["math/bits.Add64", "internal/reflectlite.TypeOf"], unfollowed := true, recurses := true, named := ["speakeasy/chacha.quarters", "speakeasy/api.ErrEnd", "speakeasy/api.ErrMac", "speakeasy/api.ErrArg", "speakeasy/api.ErrForm", "speakeasy/api.ErrBig", "speakeasy/api.ErrState", "speakeasy/api.ErrFull", "speakeasy/api.ErrNone", "speakeasy/api.ErrHave", "speakeasy/api.ErrKey", "speakeasy/api.ErrSign", "speakeasy/api.ErrVersion", "speakeasy/api.ErrAlgo", "speakeasy/api.ErrHost", "speakeasy/api.ErrAuth", "speakeasy/api.ErrQuota", "speakeasy/api.ErrName", "speakeasy/api.ErrGone", "speakeasy/api.ErrWindow", "speakeasy/api.ErrKind"], apart := false, laid := [("speakeasy/chacha.quarters", laid_speakeasy_chacha_quarters), ("speakeasy/api.ErrArg", laid_speakeasy_api_ErrArg), ("speakeasy/api.ErrEnd", laid_speakeasy_api_ErrEnd), ("speakeasy/api.ErrForm", laid_speakeasy_api_ErrForm), ("speakeasy/api.ErrBig", laid_speakeasy_api_ErrBig), ("speakeasy/api.ErrMac", laid_speakeasy_api_ErrMac), ("speakeasy/api.ErrState", laid_speakeasy_api_ErrState), ("speakeasy/api.ErrFull", laid_speakeasy_api_ErrFull), ("speakeasy/api.ErrNone", laid_speakeasy_api_ErrNone), ("speakeasy/api.ErrHave", laid_speakeasy_api_ErrHave), ("speakeasy/api.ErrKey", laid_speakeasy_api_ErrKey), ("speakeasy/api.ErrSign", laid_speakeasy_api_ErrSign), ("speakeasy/api.ErrVersion", laid_speakeasy_api_ErrVersion), ("speakeasy/api.ErrAlgo", laid_speakeasy_api_ErrAlgo), ("speakeasy/api.ErrHost", laid_speakeasy_api_ErrHost), ("speakeasy/api.ErrAuth", laid_speakeasy_api_ErrAuth), ("speakeasy/api.ErrQuota", laid_speakeasy_api_ErrQuota), ("speakeasy/api.ErrName", laid_speakeasy_api_ErrName), ("speakeasy/api.ErrGone", laid_speakeasy_api_ErrGone), ("speakeasy/api.ErrWindow", laid_speakeasy_api_ErrWindow), ("speakeasy/api.ErrKind", laid_speakeasy_api_ErrKind)], narrowed := true }
def PolyOpensUptoSaid : Prop := polyOpensUptoRow.holds Tryd.pinned (OpenSpec.upto polyOpensSpec)

/-- 'speakeasylaw04.PolyTurned', WHERE WHAT IT READS IS OF BULK AT MOST 1048576: true; the input reads as it did. -/
def polyTurnedUptoRow : OpenClaim := { program := "ytjhpelajhkhlcaadoor", sum := "8097bc9b44e87d9edba05645160104ca5a7facecbbd4c153262c318e387c6507", func := "speakeasy/speakeasylaw04.PolyTurned", spec := "polyTurned", inPlace := ["math/bits.Add64", "internal/reflectlite.TypeOf"], unfollowed := true, recurses := true, named := ["speakeasy/chacha.quarters", "speakeasy/api.ErrEnd", "speakeasy/api.ErrMac", "speakeasy/api.ErrArg", "speakeasy/api.ErrForm", "speakeasy/api.ErrBig", "speakeasy/api.ErrState", "speakeasy/api.ErrFull", "speakeasy/api.ErrNone", "speakeasy/api.ErrHave", "speakeasy/api.ErrKey", "speakeasy/api.ErrSign", "speakeasy/api.ErrVersion", "speakeasy/api.ErrAlgo", "speakeasy/api.ErrHost", "speakeasy/api.ErrAuth", "speakeasy/api.ErrQuota", "speakeasy/api.ErrName", "speakeasy/api.ErrGone", "speakeasy/api.ErrWindow", "speakeasy/api.ErrKind"], apart := false, laid := [("speakeasy/chacha.quarters", laid_speakeasy_chacha_quarters), ("speakeasy/api.ErrArg", laid_speakeasy_api_ErrArg), ("speakeasy/api.ErrEnd", laid_speakeasy_api_ErrEnd), ("speakeasy/api.ErrForm", laid_speakeasy_api_ErrForm), ("speakeasy/api.ErrBig", laid_speakeasy_api_ErrBig), ("speakeasy/api.ErrMac", laid_speakeasy_api_ErrMac), ("speakeasy/api.ErrState", laid_speakeasy_api_ErrState), ("speakeasy/api.ErrFull", laid_speakeasy_api_ErrFull), ("speakeasy/api.ErrNone", laid_speakeasy_api_ErrNone), ("speakeasy/api.ErrHave", laid_speakeasy_api_ErrHave), ("speakeasy/api.ErrKey", laid_speakeasy_api_ErrKey), ("speakeasy/api.ErrSign", laid_speakeasy_api_ErrSign), ("speakeasy/api.ErrVersion", laid_speakeasy_api_ErrVersion), ("speakeasy/api.ErrAlgo", laid_speakeasy_api_ErrAlgo), ("speakeasy/api.ErrHost", laid_speakeasy_api_ErrHost), ("speakeasy/api.ErrAuth", laid_speakeasy_api_ErrAuth), ("speakeasy/api.ErrQuota", laid_speakeasy_api_ErrQuota), ("speakeasy/api.ErrName", laid_speakeasy_api_ErrName), ("speakeasy/api.ErrGone", laid_speakeasy_api_ErrGone), ("speakeasy/api.ErrWindow", laid_speakeasy_api_ErrWindow), ("speakeasy/api.ErrKind", laid_speakeasy_api_ErrKind)], narrowed := true }
def PolyTurnedUptoSaid : Prop := polyTurnedUptoRow.holds Tryd.pinned (OpenSpec.upto polyTurnedSpec)

/-- 'speakeasylaw05.FieldSums', WHERE WHAT IT READS IS OF BULK AT MOST 1048576: true; the input reads as it did. -/
def fieldSumsUptoRow : OpenClaim := { program := "ytjhpelajhkhlcaadoor", sum := "8097bc9b44e87d9edba05645160104ca5a7facecbbd4c153262c318e387c6507", func := "speakeasy/speakeasylaw05.FieldSums", spec := "fieldSums", inPlace := ["math/bits.Add64", "math/bits.Sub64"], named := ["speakeasy/field.prime"], apart := false, laid := [("speakeasy/field.prime", laid_speakeasy_field_prime)], narrowed := true }
def FieldSumsUptoSaid : Prop := fieldSumsUptoRow.holds Tryd.pinned (OpenSpec.upto fieldSumsSpec)

/-- 'speakeasylaw05.FieldChains', WHERE WHAT IT READS IS OF BULK AT MOST 1048576: true; the input reads as it did. -/
def fieldChainsUptoRow : OpenClaim := { program := "ytjhpelajhkhlcaadoor", sum := "8097bc9b44e87d9edba05645160104ca5a7facecbbd4c153262c318e387c6507", func := "speakeasy/speakeasylaw05.FieldChains", spec := "fieldChains", inPlace := ["math/bits.Add64", "math/bits.Sub64"], named := ["speakeasy/field.prime"], apart := false, laid := [("speakeasy/field.prime", laid_speakeasy_field_prime)], narrowed := true }
def FieldChainsUptoSaid : Prop := fieldChainsUptoRow.holds Tryd.pinned (OpenSpec.upto fieldChainsSpec)

/-- 'speakeasylaw05.FieldRoots', WHERE WHAT IT READS IS OF BULK AT MOST 1048576: true; the input reads as it did. -/
def fieldRootsUptoRow : OpenClaim := { program := "ytjhpelajhkhlcaadoor", sum := "8097bc9b44e87d9edba05645160104ca5a7facecbbd4c153262c318e387c6507", func := "speakeasy/speakeasylaw05.FieldRoots", spec := "fieldRoots", inPlace := ["math/bits.Add64", "math/bits.Sub64"], recurses := true, named := ["speakeasy/field.prime", "speakeasy/field.minus1Root"], apart := false, laid := [("speakeasy/field.prime", laid_speakeasy_field_prime), ("speakeasy/field.minus1Root", laid_speakeasy_field_minus1Root)], narrowed := true }
def FieldRootsUptoSaid : Prop := fieldRootsUptoRow.holds Tryd.pinned (OpenSpec.upto fieldRootsSpec)

/-- 'speakeasylaw05.FieldRing', WHERE WHAT IT READS IS OF BULK AT MOST 1048576: true; the input reads as it did. -/
def fieldRingUptoRow : OpenClaim := { program := "ytjhpelajhkhlcaadoor", sum := "8097bc9b44e87d9edba05645160104ca5a7facecbbd4c153262c318e387c6507", func := "speakeasy/speakeasylaw05.FieldRing", spec := "fieldRing", inPlace := ["math/bits.Add64", "math/bits.Sub64"], named := ["speakeasy/field.prime"], apart := false, laid := [("speakeasy/field.prime", laid_speakeasy_field_prime)], narrowed := true }
def FieldRingUptoSaid : Prop := fieldRingUptoRow.holds Tryd.pinned (OpenSpec.upto fieldRingSpec)

/-- 'speakeasylaw06.CurveMults', WHERE WHAT IT READS IS OF BULK AT MOST 1048576: true; the input reads as it did. -/
def curveMultsUptoRow : OpenClaim := { program := "ytjhpelajhkhlcaadoor", sum := "8097bc9b44e87d9edba05645160104ca5a7facecbbd4c153262c318e387c6507", func := "speakeasy/speakeasylaw06.CurveMults", spec := "curveMults", inPlace := ["math/bits.Add64", "math/bits.Sub64"], recurses := true, named := ["speakeasy/field.prime"], apart := false, laid := [("speakeasy/field.prime", laid_speakeasy_field_prime)], narrowed := true }
def CurveMultsUptoSaid : Prop := curveMultsUptoRow.holds Tryd.pinned (OpenSpec.upto curveMultsSpec)

/-- 'speakeasylaw06.CurveTwo', WHERE WHAT IT READS IS OF BULK AT MOST 1048576: true; the input reads as it did. -/
def curveTwoUptoRow : OpenClaim := { program := "ytjhpelajhkhlcaadoor", sum := "8097bc9b44e87d9edba05645160104ca5a7facecbbd4c153262c318e387c6507", func := "speakeasy/speakeasylaw06.CurveTwo", spec := "curveTwo", inPlace := ["math/bits.Add64", "math/bits.Sub64"], recurses := true, named := ["speakeasy/field.prime"], apart := false, laid := [("speakeasy/field.prime", laid_speakeasy_field_prime)], narrowed := true }
def CurveTwoUptoSaid : Prop := curveTwoUptoRow.holds Tryd.pinned (OpenSpec.upto curveTwoSpec)

/-- 'speakeasylaw06.CurveClamps', WHERE WHAT IT READS IS OF BULK AT MOST 1048576: true; the input reads as it did. -/
def curveClampsUptoRow : OpenClaim := { program := "ytjhpelajhkhlcaadoor", sum := "8097bc9b44e87d9edba05645160104ca5a7facecbbd4c153262c318e387c6507", func := "speakeasy/speakeasylaw06.CurveClamps", spec := "curveClamps", inPlace := ["math/bits.Add64", "math/bits.Sub64"], recurses := true, named := ["speakeasy/field.prime"], apart := false, laid := [("speakeasy/field.prime", laid_speakeasy_field_prime)], narrowed := true }
def CurveClampsUptoSaid : Prop := curveClampsUptoRow.holds Tryd.pinned (OpenSpec.upto curveClampsSpec)

/-- 'speakeasylaw06.CurveThree', WHERE WHAT IT READS IS OF BULK AT MOST 1048576: true; the input reads as it did. -/
def curveThreeUptoRow : OpenClaim := { program := "ytjhpelajhkhlcaadoor", sum := "8097bc9b44e87d9edba05645160104ca5a7facecbbd4c153262c318e387c6507", func := "speakeasy/speakeasylaw06.CurveThree", spec := "curveThree", inPlace := ["math/bits.Add64", "math/bits.Sub64"], recurses := true, named := ["speakeasy/field.prime"], apart := false, laid := [("speakeasy/field.prime", laid_speakeasy_field_prime)], narrowed := true }
def CurveThreeUptoSaid : Prop := curveThreeUptoRow.holds Tryd.pinned (OpenSpec.upto curveThreeSpec)

/-- 'speakeasytop.SpeakSealed', WHERE WHAT IT READS IS OF BULK AT MOST 1048576: true; the input reads as it did. -/
def speakSealedUptoRow : OpenClaim := { program := "ytjhpelajhkhlcaadoor", sum := "8097bc9b44e87d9edba05645160104ca5a7facecbbd4c153262c318e387c6507", func := "speakeasy/speakeasytop.SpeakSealed", spec := "speakSealed", inPlace := ["math/bits.Add64"], unfollowed := true, recurses := true, named := ["speakeasy/sha2.k256", "speakeasy/chacha.quarters", "speakeasy/api.ErrEnd", "speakeasy/api.ErrMac"], apart := false, laid := [("speakeasy/chacha.quarters", laid_speakeasy_chacha_quarters), ("speakeasy/api.ErrEnd", laid_speakeasy_api_ErrEnd), ("speakeasy/api.ErrMac", laid_speakeasy_api_ErrMac), ("speakeasy/sha2.k256", laid_speakeasy_sha2_k256)], narrowed := true }
def SpeakSealedUptoSaid : Prop := speakSealedUptoRow.holds Tryd.pinned (OpenSpec.upto speakSealedSpec)

end Rows
end Go.Proofs.YtjhpelajhkhlcaaDoor
