/-
  NARROWER THAN 'FOR EVERY INPUT', by the rows' own cells (each row's printed sentence says how): ScalarReduces: laid · ScalarMulAdds: laid · ScalarFits: laid · ScalarRing: laid · SignHigh: laid · SpeakMaps: laid · PolyEdges: laid · PolyOpens: laid · PolyTurned: laid · FieldChains: laid · CurveTwo: laid · CurveClamps: laid · CurveThree: laid · SpeakSealed: laid.
  DERIVED. THE GIVEN ROWS OF THIS SEAT. 14 by the template 'for every input the law returns true; each argument reads behind the call as it read before'; 0 by the template 'total and deterministic' (their statements: YtmnhifagkcmhjaaDoorTotals.lean).
  GIVEN WITH THE SEED: the statements are not yours to turn. If you find one false, say at which input.
  Laid BY PROGRAM, IN A SANDBOX (cutbox-rows.mjs): the forced cells as the released guide's own fill.sh prints them over the translation bd9aaa3ce94f1f24… (all of the seat's roots in one cut). By AI agents, Wed Nov 11 2026. No macro, syntax, notation, axiom, sorry.
-/
import Derived.Test.YtmnhifagkcmhjaaDoorChecked
import GoSem.Claim
import GoSem.ClaimJoined
import GoSem.ClaimMapViews
import Derived.JoinedTies
import Derived.KernelRfl
namespace Go.Proofs.YtmnhifagkcmhjaaDoor
/- THE CELL 'sum', in the pinned program and in every row, IS THE sha256 OF THE DUMP (.gsa) THAT YtmnhifagkcmhjaaDoorProg.lean LOADS. Nothing in Lean hashes anything: it is a label: what it is worth is what the hold of that sum in a sandbox is worth. -/
noncomputable def Tryd.pinned : Pinned := { name := "ytmnhifagkcmhjaadoor", sum := "bd9aaa3ce94f1f245445edbb4fcf589dfc1cf99ee870fcad824190f82b8d5898", checked := Tryd.checked }
namespace Rows
def none {H : Type} : Left H := { results := [], args := [] }

/- WHAT THE LISTED PACKAGE-LEVEL VARIABLES READ AS WHEN THE CALL BEGINS. Each datum BY PROGRAM (the guide's laid-datum.mjs) off the statement by which the dump's own 'gosem.cut.vars' lays the variable. In a bare row this is a premise. The card (YtmnhifagkcmhjaaDoorCards.lean) ties it to the program's text. -/
def laid_speakeasy_scalar_order {H : Type} : DataW H := .agg [.lit (.int .u64 6346243789798364141), .lit (.int .u64 1503914060200516822), .lit (.int .u64 0), .lit (.int .u64 1152921504606846976)]
def laid_speakeasy_field_prime {H : Type} : DataW H := .agg [.lit (.int .u64 18446744073709551597), .lit (.int .u64 18446744073709551615), .lit (.int .u64 18446744073709551615), .lit (.int .u64 9223372036854775807)]
def laid_speakeasy_field_minus1Root {H : Type} : DataW H := .agg [.lit (.int .u64 14190309331451158704), .lit (.int .u64 3405592160176694392), .lit (.int .u64 3120150775007532967), .lit (.int .u64 3135389899092516619)]
def laid_speakeasy_sha2_k512 {H : Type} : DataW H := .agg [.lit (.int .u64 4794697086780616226), .lit (.int .u64 8158064640168781261), .lit (.int .u64 13096744586834688815), .lit (.int .u64 16840607885511220156), .lit (.int .u64 4131703408338449720), .lit (.int .u64 6480981068601479193), .lit (.int .u64 10538285296894168987), .lit (.int .u64 12329834152419229976), .lit (.int .u64 15566598209576043074), .lit (.int .u64 1334009975649890238), .lit (.int .u64 2608012711638119052), .lit (.int .u64 6128411473006802146), .lit (.int .u64 8268148722764581231), .lit (.int .u64 9286055187155687089), .lit (.int .u64 11230858885718282805), .lit (.int .u64 13951009754708518548), .lit (.int .u64 16472876342353939154), .lit (.int .u64 17275323862435702243), .lit (.int .u64 1135362057144423861), .lit (.int .u64 2597628984639134821), .lit (.int .u64 3308224258029322869), .lit (.int .u64 5365058923640841347), .lit (.int .u64 6679025012923562964), .lit (.int .u64 8573033837759648693), .lit (.int .u64 10970295158949994411), .lit (.int .u64 12119686244451234320), .lit (.int .u64 12683024718118986047), .lit (.int .u64 13788192230050041572), .lit (.int .u64 14330467153632333762), .lit (.int .u64 15395433587784984357), .lit (.int .u64 489312712824947311), .lit (.int .u64 1452737877330783856), .lit (.int .u64 2861767655752347644), .lit (.int .u64 3322285676063803686), .lit (.int .u64 5560940570517711597), .lit (.int .u64 5996557281743188959), .lit (.int .u64 7280758554555802590), .lit (.int .u64 8532644243296465576), .lit (.int .u64 9350256976987008742), .lit (.int .u64 10552545826968843579), .lit (.int .u64 11727347734174303076), .lit (.int .u64 12113106623233404929), .lit (.int .u64 14000437183269869457), .lit (.int .u64 14369950271660146224), .lit (.int .u64 15101387698204529176), .lit (.int .u64 15463397548674623760), .lit (.int .u64 17586052441742319658), .lit (.int .u64 1182934255886127544), .lit (.int .u64 1847814050463011016), .lit (.int .u64 2177327727835720531), .lit (.int .u64 2830643537854262169), .lit (.int .u64 3796741975233480872), .lit (.int .u64 4115178125766777443), .lit (.int .u64 5681478168544905931), .lit (.int .u64 6601373596472566643), .lit (.int .u64 7507060721942968483), .lit (.int .u64 8399075790359081724), .lit (.int .u64 8693463985226723168), .lit (.int .u64 9568029438360202098), .lit (.int .u64 10144078919501101548), .lit (.int .u64 10430055236837252648), .lit (.int .u64 11840083180663258601), .lit (.int .u64 13761210420658862357), .lit (.int .u64 14299343276471374635), .lit (.int .u64 14566680578165727644), .lit (.int .u64 15097957966210449927), .lit (.int .u64 16922976911328602910), .lit (.int .u64 17689382322260857208), .lit (.int .u64 500013540394364858), .lit (.int .u64 748580250866718886), .lit (.int .u64 1242879168328830382), .lit (.int .u64 1977374033974150939), .lit (.int .u64 2944078676154940804), .lit (.int .u64 3659926193048069267), .lit (.int .u64 4368137639120453308), .lit (.int .u64 4836135668995329356), .lit (.int .u64 5532061633213252278), .lit (.int .u64 6448918945643986474), .lit (.int .u64 6902733635092675308), .lit (.int .u64 7801388544844847127)]
def laid_speakeasy_chacha_quarters {H : Type} : DataW H := .agg [.agg [.lit (.int .i64 0), .lit (.int .i64 4), .lit (.int .i64 8), .lit (.int .i64 12)], .agg [.lit (.int .i64 1), .lit (.int .i64 5), .lit (.int .i64 9), .lit (.int .i64 13)], .agg [.lit (.int .i64 2), .lit (.int .i64 6), .lit (.int .i64 10), .lit (.int .i64 14)], .agg [.lit (.int .i64 3), .lit (.int .i64 7), .lit (.int .i64 11), .lit (.int .i64 15)], .agg [.lit (.int .i64 0), .lit (.int .i64 5), .lit (.int .i64 10), .lit (.int .i64 15)], .agg [.lit (.int .i64 1), .lit (.int .i64 6), .lit (.int .i64 11), .lit (.int .i64 12)], .agg [.lit (.int .i64 2), .lit (.int .i64 7), .lit (.int .i64 8), .lit (.int .i64 13)], .agg [.lit (.int .i64 3), .lit (.int .i64 4), .lit (.int .i64 9), .lit (.int .i64 14)]]
def laid_speakeasy_api_ErrEnd {H : Type} : DataW H := .iface "*errors.errorString" (.ptr (.agg [.lit (.string [98, 121, 116, 101, 115, 32, 97, 114, 101, 32, 119, 97, 110, 116, 105, 110, 103])]))
def laid_speakeasy_api_ErrMac {H : Type} : DataW H := .iface "*errors.errorString" (.ptr (.agg [.lit (.string [97, 32, 115, 117, 109, 32, 116, 104, 97, 116, 32, 100, 111, 101, 115, 110, 39, 116, 32, 102, 105, 116])]))
def laid_speakeasy_api_ErrArg {H : Type} : DataW H := .iface "*errors.errorString" (.ptr (.agg [.lit (.string [97, 110, 32, 97, 114, 103, 117, 109, 101, 110, 116, 32, 116, 104, 97, 116, 32, 109, 97, 121, 32, 110, 111, 116, 32, 98, 101])]))
def laid_speakeasy_api_ErrForm {H : Type} : DataW H := .iface "*errors.errorString" (.ptr (.agg [.lit (.string [98, 121, 116, 101, 115, 32, 116, 104, 97, 116, 32, 115, 97, 121, 32, 110, 111, 116, 104, 105, 110, 103])]))
def laid_speakeasy_api_ErrBig {H : Type} : DataW H := .iface "*errors.errorString" (.ptr (.agg [.lit (.string [109, 111, 114, 101, 32, 116, 104, 97, 110, 32, 116, 104, 101, 114, 101, 32, 109, 97, 121, 32, 98, 101])]))
def laid_speakeasy_api_ErrState {H : Type} : DataW H := .iface "*errors.errorString" (.ptr (.agg [.lit (.string [110, 111, 116, 32, 110, 111, 119])]))
def laid_speakeasy_api_ErrFull {H : Type} : DataW H := .iface "*errors.errorString" (.ptr (.agg [.lit (.string [116, 104, 101, 114, 101, 32, 105, 115, 32, 110, 111, 32, 114, 111, 111, 109])]))
def laid_speakeasy_api_ErrNone {H : Type} : DataW H := .iface "*errors.errorString" (.ptr (.agg [.lit (.string [116, 104, 101, 114, 101, 32, 105, 115, 32, 110, 111, 110, 101])]))
def laid_speakeasy_api_ErrHave {H : Type} : DataW H := .iface "*errors.errorString" (.ptr (.agg [.lit (.string [105, 116, 32, 105, 115, 32, 116, 104, 101, 114, 101, 32, 97, 108, 114, 101, 97, 100, 121])]))
def laid_speakeasy_api_ErrKey {H : Type} : DataW H := .iface "*errors.errorString" (.ptr (.agg [.lit (.string [97, 32, 107, 101, 121, 32, 116, 104, 97, 116, 32, 109, 97, 121, 32, 110, 111, 116, 32, 98, 101])]))
def laid_speakeasy_api_ErrSign {H : Type} : DataW H := .iface "*errors.errorString" (.ptr (.agg [.lit (.string [97, 32, 115, 105, 103, 110, 97, 116, 117, 114, 101, 32, 116, 104, 97, 116, 32, 100, 111, 101, 115, 110, 39, 116, 32, 102, 105, 116])]))
def laid_speakeasy_api_ErrVersion {H : Type} : DataW H := .iface "*errors.errorString" (.ptr (.agg [.lit (.string [97, 110, 111, 116, 104, 101, 114, 32, 118, 101, 114, 115, 105, 111, 110])]))
def laid_speakeasy_api_ErrAlgo {H : Type} : DataW H := .iface "*errors.errorString" (.ptr (.agg [.lit (.string [110, 111, 116, 104, 105, 110, 103, 32, 105, 110, 32, 99, 111, 109, 109, 111, 110])]))
def laid_speakeasy_api_ErrHost {H : Type} : DataW H := .iface "*errors.errorString" (.ptr (.agg [.lit (.string [97, 110, 111, 116, 104, 101, 114, 32, 104, 111, 115, 116, 39, 115, 32, 107, 101, 121])]))
def laid_speakeasy_api_ErrAuth {H : Type} : DataW H := .iface "*errors.errorString" (.ptr (.agg [.lit (.string [105, 116, 32, 109, 97, 121, 32, 110, 111, 116, 32, 99, 111, 109, 101, 32, 105, 110])]))
def laid_speakeasy_api_ErrQuota {H : Type} : DataW H := .iface "*errors.errorString" (.ptr (.agg [.lit (.string [109, 111, 114, 101, 32, 116, 104, 97, 110, 32, 105, 116, 115, 32, 115, 104, 97, 114, 101])]))
def laid_speakeasy_api_ErrName {H : Type} : DataW H := .iface "*errors.errorString" (.ptr (.agg [.lit (.string [97, 32, 110, 97, 109, 101, 32, 116, 104, 97, 116, 32, 109, 97, 121, 32, 110, 111, 116, 32, 98, 101])]))
def laid_speakeasy_api_ErrGone {H : Type} : DataW H := .iface "*errors.errorString" (.ptr (.agg [.lit (.string [105, 116, 32, 105, 115, 32, 103, 111, 110, 101])]))
def laid_speakeasy_api_ErrWindow {H : Type} : DataW H := .iface "*errors.errorString" (.ptr (.agg [.lit (.string [98, 101, 121, 111, 110, 100, 32, 116, 104, 101, 32, 119, 105, 110, 100, 111, 119])]))
def laid_speakeasy_api_ErrKind {H : Type} : DataW H := .iface "*errors.errorString" (.ptr (.agg [.lit (.string [116, 104, 101, 114, 101, 32, 105, 115, 32, 110, 111, 32, 115, 117, 99, 104, 32, 107, 105, 110, 100])]))
def laid_speakeasy_sha2_k256 {H : Type} : DataW H := .agg [.lit (.int .u32 1116352408), .lit (.int .u32 1899447441), .lit (.int .u32 3049323471), .lit (.int .u32 3921009573), .lit (.int .u32 961987163), .lit (.int .u32 1508970993), .lit (.int .u32 2453635748), .lit (.int .u32 2870763221), .lit (.int .u32 3624381080), .lit (.int .u32 310598401), .lit (.int .u32 607225278), .lit (.int .u32 1426881987), .lit (.int .u32 1925078388), .lit (.int .u32 2162078206), .lit (.int .u32 2614888103), .lit (.int .u32 3248222580), .lit (.int .u32 3835390401), .lit (.int .u32 4022224774), .lit (.int .u32 264347078), .lit (.int .u32 604807628), .lit (.int .u32 770255983), .lit (.int .u32 1249150122), .lit (.int .u32 1555081692), .lit (.int .u32 1996064986), .lit (.int .u32 2554220882), .lit (.int .u32 2821834349), .lit (.int .u32 2952996808), .lit (.int .u32 3210313671), .lit (.int .u32 3336571891), .lit (.int .u32 3584528711), .lit (.int .u32 113926993), .lit (.int .u32 338241895), .lit (.int .u32 666307205), .lit (.int .u32 773529912), .lit (.int .u32 1294757372), .lit (.int .u32 1396182291), .lit (.int .u32 1695183700), .lit (.int .u32 1986661051), .lit (.int .u32 2177026350), .lit (.int .u32 2456956037), .lit (.int .u32 2730485921), .lit (.int .u32 2820302411), .lit (.int .u32 3259730800), .lit (.int .u32 3345764771), .lit (.int .u32 3516065817), .lit (.int .u32 3600352804), .lit (.int .u32 4094571909), .lit (.int .u32 275423344), .lit (.int .u32 430227734), .lit (.int .u32 506948616), .lit (.int .u32 659060556), .lit (.int .u32 883997877), .lit (.int .u32 958139571), .lit (.int .u32 1322822218), .lit (.int .u32 1537002063), .lit (.int .u32 1747873779), .lit (.int .u32 1955562222), .lit (.int .u32 2024104815), .lit (.int .u32 2227730452), .lit (.int .u32 2361852424), .lit (.int .u32 2428436474), .lit (.int .u32 2756734187), .lit (.int .u32 3204031479), .lit (.int .u32 3329325298)]

/-- 'speakeasylaw07.ScalarReduces': WHATEVER THE INPUT: true; the input reads as it did. -/
def scalarReducesSpec : ChangeSpec := { name := "scalarReduces", fn := fun _ => fun
  | [d] => { results := [.lit (.bool true)], args := [d] }
  | _ => none }
def scalarReducesRow : OpenClaim := { program := "ytmnhifagkcmhjaadoor", sum := "bd9aaa3ce94f1f245445edbb4fcf589dfc1cf99ee870fcad824190f82b8d5898", func := "speakeasy/speakeasylaw07.ScalarReduces", spec := "scalarReduces", inPlace := ["math/bits.Sub64", "math/bits.Add64"], named := ["speakeasy/scalar.order"], apart := false, laid := [("speakeasy/scalar.order", laid_speakeasy_scalar_order)] }
def ScalarReducesSaid : Prop := scalarReducesRow.holds Tryd.pinned (OpenSpec.ofChange scalarReducesSpec)

/-- ITS FALSE NEIGHBOUR: 'it returns false'. Refute it at one input. -/
def scalarReducesWrong : ChangeSpec := { name := "scalarReduces", fn := fun _ => fun
  | [d] => { results := [.lit (.bool false)], args := [d] }
  | _ => none }
def ScalarReducesWrongFalsely : Prop := scalarReducesRow.holds Tryd.pinned (OpenSpec.ofChange scalarReducesWrong)

/-- 'speakeasylaw07.ScalarMulAdds': WHATEVER THE INPUT: true; the input reads as it did. -/
def scalarMulAddsSpec : ChangeSpec := { name := "scalarMulAdds", fn := fun _ => fun
  | [d1, d2, d3] => { results := [.lit (.bool true)], args := [d1, d2, d3] }
  | _ => none }
def scalarMulAddsRow : OpenClaim := { program := "ytmnhifagkcmhjaadoor", sum := "bd9aaa3ce94f1f245445edbb4fcf589dfc1cf99ee870fcad824190f82b8d5898", func := "speakeasy/speakeasylaw07.ScalarMulAdds", spec := "scalarMulAdds", inPlace := ["math/bits.Sub64", "math/bits.Add64"], named := ["speakeasy/scalar.order"], apart := false, laid := [("speakeasy/scalar.order", laid_speakeasy_scalar_order)] }
def ScalarMulAddsSaid : Prop := scalarMulAddsRow.holds Tryd.pinned (OpenSpec.ofChange scalarMulAddsSpec)

/-- ITS FALSE NEIGHBOUR: 'it returns false'. Refute it at one input. -/
def scalarMulAddsWrong : ChangeSpec := { name := "scalarMulAdds", fn := fun _ => fun
  | [d1, d2, d3] => { results := [.lit (.bool false)], args := [d1, d2, d3] }
  | _ => none }
def ScalarMulAddsWrongFalsely : Prop := scalarMulAddsRow.holds Tryd.pinned (OpenSpec.ofChange scalarMulAddsWrong)

/-- 'speakeasylaw07.ScalarFits': WHATEVER THE INPUT: true; the input reads as it did. -/
def scalarFitsSpec : ChangeSpec := { name := "scalarFits", fn := fun _ => fun
  | [d] => { results := [.lit (.bool true)], args := [d] }
  | _ => none }
def scalarFitsRow : OpenClaim := { program := "ytmnhifagkcmhjaadoor", sum := "bd9aaa3ce94f1f245445edbb4fcf589dfc1cf99ee870fcad824190f82b8d5898", func := "speakeasy/speakeasylaw07.ScalarFits", spec := "scalarFits", inPlace := ["math/bits.Sub64", "math/bits.Add64"], named := ["speakeasy/scalar.order"], apart := false, laid := [("speakeasy/scalar.order", laid_speakeasy_scalar_order)] }
def ScalarFitsSaid : Prop := scalarFitsRow.holds Tryd.pinned (OpenSpec.ofChange scalarFitsSpec)

/-- ITS FALSE NEIGHBOUR: 'it returns false'. Refute it at one input. -/
def scalarFitsWrong : ChangeSpec := { name := "scalarFits", fn := fun _ => fun
  | [d] => { results := [.lit (.bool false)], args := [d] }
  | _ => none }
def ScalarFitsWrongFalsely : Prop := scalarFitsRow.holds Tryd.pinned (OpenSpec.ofChange scalarFitsWrong)

/-- 'speakeasylaw07.ScalarRing': WHATEVER THE INPUT: true; the input reads as it did. -/
def scalarRingSpec : ChangeSpec := { name := "scalarRing", fn := fun _ => fun
  | [d1, d2, d3] => { results := [.lit (.bool true)], args := [d1, d2, d3] }
  | _ => none }
def scalarRingRow : OpenClaim := { program := "ytmnhifagkcmhjaadoor", sum := "bd9aaa3ce94f1f245445edbb4fcf589dfc1cf99ee870fcad824190f82b8d5898", func := "speakeasy/speakeasylaw07.ScalarRing", spec := "scalarRing", inPlace := ["math/bits.Sub64", "math/bits.Add64"], named := ["speakeasy/scalar.order"], apart := false, laid := [("speakeasy/scalar.order", laid_speakeasy_scalar_order)] }
def ScalarRingSaid : Prop := scalarRingRow.holds Tryd.pinned (OpenSpec.ofChange scalarRingSpec)

/-- ITS FALSE NEIGHBOUR: 'it returns false'. Refute it at one input. -/
def scalarRingWrong : ChangeSpec := { name := "scalarRing", fn := fun _ => fun
  | [d1, d2, d3] => { results := [.lit (.bool false)], args := [d1, d2, d3] }
  | _ => none }
def ScalarRingWrongFalsely : Prop := scalarRingRow.holds Tryd.pinned (OpenSpec.ofChange scalarRingWrong)

/-- 'speakeasylaw08.SignHigh': WHATEVER THE INPUT: true; the input reads as it did. -/
def signHighSpec : ChangeSpec := { name := "signHigh", fn := fun _ => fun
  | [d1, d2] => { results := [.lit (.bool true)], args := [d1, d2] }
  | _ => none }
def signHighRow : OpenClaim := { program := "ytmnhifagkcmhjaadoor", sum := "bd9aaa3ce94f1f245445edbb4fcf589dfc1cf99ee870fcad824190f82b8d5898", func := "speakeasy/speakeasylaw08.SignHigh", spec := "signHigh", inPlace := ["math/bits.Add64", "math/bits.Sub64"], unfollowed := true, recurses := true, named := ["speakeasy/sha2.k512", "speakeasy/field.prime", "speakeasy/field.minus1Root", "speakeasy/scalar.order"], apart := false, laid := [("speakeasy/scalar.order", laid_speakeasy_scalar_order), ("speakeasy/field.prime", laid_speakeasy_field_prime), ("speakeasy/field.minus1Root", laid_speakeasy_field_minus1Root), ("speakeasy/sha2.k512", laid_speakeasy_sha2_k512)] }
def SignHighSaid : Prop := signHighRow.holds Tryd.pinned (OpenSpec.ofChange signHighSpec)

/-- ITS FALSE NEIGHBOUR: 'it returns false'. Refute it at one input. -/
def signHighWrong : ChangeSpec := { name := "signHigh", fn := fun _ => fun
  | [d1, d2] => { results := [.lit (.bool false)], args := [d1, d2] }
  | _ => none }
def SignHighWrongFalsely : Prop := signHighRow.holds Tryd.pinned (OpenSpec.ofChange signHighWrong)

/-- 'speakeasytop.SpeakMaps': WHATEVER THE INPUT: true; the input reads as it did. -/
def speakMapsSpec : ChangeSpec := { name := "speakMaps", fn := fun _ => fun
  | [d] => { results := [.lit (.bool true)], args := [d] }
  | _ => none }
def speakMapsRow : OpenClaim := { program := "ytmnhifagkcmhjaadoor", sum := "bd9aaa3ce94f1f245445edbb4fcf589dfc1cf99ee870fcad824190f82b8d5898", func := "speakeasy/speakeasytop.SpeakMaps", spec := "speakMaps", inPlace := ["math/bits.Add64", "math/bits.Sub64"], unfollowed := true, recurses := true, named := ["speakeasy/sha2.k512", "speakeasy/field.prime", "speakeasy/field.minus1Root"], apart := false, laid := [("speakeasy/field.prime", laid_speakeasy_field_prime), ("speakeasy/field.minus1Root", laid_speakeasy_field_minus1Root), ("speakeasy/sha2.k512", laid_speakeasy_sha2_k512)] }
def SpeakMapsSaid : Prop := speakMapsRow.holds Tryd.pinned (OpenSpec.ofChange speakMapsSpec)

/-- ITS FALSE NEIGHBOUR: 'it returns false'. Refute it at one input. -/
def speakMapsWrong : ChangeSpec := { name := "speakMaps", fn := fun _ => fun
  | [d] => { results := [.lit (.bool false)], args := [d] }
  | _ => none }
def SpeakMapsWrongFalsely : Prop := speakMapsRow.holds Tryd.pinned (OpenSpec.ofChange speakMapsWrong)

/-- 'speakeasylaw04.PolyEdges': WHATEVER THE INPUT: true; the input reads as it did. -/
def polyEdgesSpec : ChangeSpec := { name := "polyEdges", fn := fun _ => fun
  | [d1, d2] => { results := [.lit (.bool true)], args := [d1, d2] }
  | _ => none }
def polyEdgesRow : OpenClaim := { program := "ytmnhifagkcmhjaadoor", sum := "bd9aaa3ce94f1f245445edbb4fcf589dfc1cf99ee870fcad824190f82b8d5898", func := "speakeasy/speakeasylaw04.PolyEdges", spec := "polyEdges", inPlace := ["math/bits.Add64"], named := ["speakeasy/chacha.quarters", "speakeasy/api.ErrEnd", "speakeasy/api.ErrMac"], apart := false, laid := [("speakeasy/chacha.quarters", laid_speakeasy_chacha_quarters), ("speakeasy/api.ErrEnd", laid_speakeasy_api_ErrEnd), ("speakeasy/api.ErrMac", laid_speakeasy_api_ErrMac)] }
def PolyEdgesSaid : Prop := polyEdgesRow.holds Tryd.pinned (OpenSpec.ofChange polyEdgesSpec)

/-- ITS FALSE NEIGHBOUR: 'it returns false'. Refute it at one input. -/
def polyEdgesWrong : ChangeSpec := { name := "polyEdges", fn := fun _ => fun
  | [d1, d2] => { results := [.lit (.bool false)], args := [d1, d2] }
  | _ => none }
def PolyEdgesWrongFalsely : Prop := polyEdgesRow.holds Tryd.pinned (OpenSpec.ofChange polyEdgesWrong)

/-- 'speakeasylaw04.PolyOpens': WHATEVER THE INPUT: true; the input reads as it did. -/
def polyOpensSpec : ChangeSpec := { name := "polyOpens", fn := fun _ => fun
  | [d1, d2, d3] => { results := [.lit (.bool true)], args := [d1, d2, d3] }
  | _ => none }
def polyOpensRow : OpenClaim := { program := "ytmnhifagkcmhjaadoor", sum := "bd9aaa3ce94f1f245445edbb4fcf589dfc1cf99ee870fcad824190f82b8d5898", func := "speakeasy/speakeasylaw04.PolyOpens", spec := "polyOpens", inPlace := ["math/bits.Add64", "internal/reflectlite.TypeOf"], unfollowed := true, recurses := true, named := ["speakeasy/chacha.quarters", "speakeasy/api.ErrEnd", "speakeasy/api.ErrMac", "speakeasy/api.ErrArg", "speakeasy/api.ErrForm", "speakeasy/api.ErrBig", "speakeasy/api.ErrState", "speakeasy/api.ErrFull", "speakeasy/api.ErrNone", "speakeasy/api.ErrHave", "speakeasy/api.ErrKey", "speakeasy/api.ErrSign", "speakeasy/api.ErrVersion", "speakeasy/api.ErrAlgo", "speakeasy/api.ErrHost", "speakeasy/api.ErrAuth", "speakeasy/api.ErrQuota", "speakeasy/api.ErrName", "speakeasy/api.ErrGone", "speakeasy/api.ErrWindow", "speakeasy/api.ErrKind"], apart := false, laid := [("speakeasy/chacha.quarters", laid_speakeasy_chacha_quarters), ("speakeasy/api.ErrArg", laid_speakeasy_api_ErrArg), ("speakeasy/api.ErrEnd", laid_speakeasy_api_ErrEnd), ("speakeasy/api.ErrForm", laid_speakeasy_api_ErrForm), ("speakeasy/api.ErrBig", laid_speakeasy_api_ErrBig), ("speakeasy/api.ErrMac", laid_speakeasy_api_ErrMac), ("speakeasy/api.ErrState", laid_speakeasy_api_ErrState), ("speakeasy/api.ErrFull", laid_speakeasy_api_ErrFull), ("speakeasy/api.ErrNone", laid_speakeasy_api_ErrNone), ("speakeasy/api.ErrHave", laid_speakeasy_api_ErrHave), ("speakeasy/api.ErrKey", laid_speakeasy_api_ErrKey), ("speakeasy/api.ErrSign", laid_speakeasy_api_ErrSign), ("speakeasy/api.ErrVersion", laid_speakeasy_api_ErrVersion), ("speakeasy/api.ErrAlgo", laid_speakeasy_api_ErrAlgo), ("speakeasy/api.ErrHost", laid_speakeasy_api_ErrHost), ("speakeasy/api.ErrAuth", laid_speakeasy_api_ErrAuth), ("speakeasy/api.ErrQuota", laid_speakeasy_api_ErrQuota), ("speakeasy/api.ErrName", laid_speakeasy_api_ErrName), ("speakeasy/api.ErrGone", laid_speakeasy_api_ErrGone), ("speakeasy/api.ErrWindow", laid_speakeasy_api_ErrWindow), ("speakeasy/api.ErrKind", laid_speakeasy_api_ErrKind)] }
def PolyOpensSaid : Prop := polyOpensRow.holds Tryd.pinned (OpenSpec.ofChange polyOpensSpec)

/-- ITS FALSE NEIGHBOUR: 'it returns false'. Refute it at one input. -/
def polyOpensWrong : ChangeSpec := { name := "polyOpens", fn := fun _ => fun
  | [d1, d2, d3] => { results := [.lit (.bool false)], args := [d1, d2, d3] }
  | _ => none }
def PolyOpensWrongFalsely : Prop := polyOpensRow.holds Tryd.pinned (OpenSpec.ofChange polyOpensWrong)

/-- 'speakeasylaw04.PolyTurned': WHATEVER THE INPUT: true; the input reads as it did. -/
def polyTurnedSpec : ChangeSpec := { name := "polyTurned", fn := fun _ => fun
  | [d] => { results := [.lit (.bool true)], args := [d] }
  | _ => none }
def polyTurnedRow : OpenClaim := { program := "ytmnhifagkcmhjaadoor", sum := "bd9aaa3ce94f1f245445edbb4fcf589dfc1cf99ee870fcad824190f82b8d5898", func := "speakeasy/speakeasylaw04.PolyTurned", spec := "polyTurned", inPlace := ["math/bits.Add64", "internal/reflectlite.TypeOf"], unfollowed := true, recurses := true, named := ["speakeasy/chacha.quarters", "speakeasy/api.ErrEnd", "speakeasy/api.ErrMac", "speakeasy/api.ErrArg", "speakeasy/api.ErrForm", "speakeasy/api.ErrBig", "speakeasy/api.ErrState", "speakeasy/api.ErrFull", "speakeasy/api.ErrNone", "speakeasy/api.ErrHave", "speakeasy/api.ErrKey", "speakeasy/api.ErrSign", "speakeasy/api.ErrVersion", "speakeasy/api.ErrAlgo", "speakeasy/api.ErrHost", "speakeasy/api.ErrAuth", "speakeasy/api.ErrQuota", "speakeasy/api.ErrName", "speakeasy/api.ErrGone", "speakeasy/api.ErrWindow", "speakeasy/api.ErrKind"], apart := false, laid := [("speakeasy/chacha.quarters", laid_speakeasy_chacha_quarters), ("speakeasy/api.ErrArg", laid_speakeasy_api_ErrArg), ("speakeasy/api.ErrEnd", laid_speakeasy_api_ErrEnd), ("speakeasy/api.ErrForm", laid_speakeasy_api_ErrForm), ("speakeasy/api.ErrBig", laid_speakeasy_api_ErrBig), ("speakeasy/api.ErrMac", laid_speakeasy_api_ErrMac), ("speakeasy/api.ErrState", laid_speakeasy_api_ErrState), ("speakeasy/api.ErrFull", laid_speakeasy_api_ErrFull), ("speakeasy/api.ErrNone", laid_speakeasy_api_ErrNone), ("speakeasy/api.ErrHave", laid_speakeasy_api_ErrHave), ("speakeasy/api.ErrKey", laid_speakeasy_api_ErrKey), ("speakeasy/api.ErrSign", laid_speakeasy_api_ErrSign), ("speakeasy/api.ErrVersion", laid_speakeasy_api_ErrVersion), ("speakeasy/api.ErrAlgo", laid_speakeasy_api_ErrAlgo), ("speakeasy/api.ErrHost", laid_speakeasy_api_ErrHost), ("speakeasy/api.ErrAuth", laid_speakeasy_api_ErrAuth), ("speakeasy/api.ErrQuota", laid_speakeasy_api_ErrQuota), ("speakeasy/api.ErrName", laid_speakeasy_api_ErrName), ("speakeasy/api.ErrGone", laid_speakeasy_api_ErrGone), ("speakeasy/api.ErrWindow", laid_speakeasy_api_ErrWindow), ("speakeasy/api.ErrKind", laid_speakeasy_api_ErrKind)] }
def PolyTurnedSaid : Prop := polyTurnedRow.holds Tryd.pinned (OpenSpec.ofChange polyTurnedSpec)

/-- ITS FALSE NEIGHBOUR: 'it returns false'. Refute it at one input. -/
def polyTurnedWrong : ChangeSpec := { name := "polyTurned", fn := fun _ => fun
  | [d] => { results := [.lit (.bool false)], args := [d] }
  | _ => none }
def PolyTurnedWrongFalsely : Prop := polyTurnedRow.holds Tryd.pinned (OpenSpec.ofChange polyTurnedWrong)

/-- 'speakeasylaw05.FieldChains': WHATEVER THE INPUT: true; the input reads as it did. -/
def fieldChainsSpec : ChangeSpec := { name := "fieldChains", fn := fun _ => fun
  | [d1, d2] => { results := [.lit (.bool true)], args := [d1, d2] }
  | _ => none }
def fieldChainsRow : OpenClaim := { program := "ytmnhifagkcmhjaadoor", sum := "bd9aaa3ce94f1f245445edbb4fcf589dfc1cf99ee870fcad824190f82b8d5898", func := "speakeasy/speakeasylaw05.FieldChains", spec := "fieldChains", inPlace := ["math/bits.Add64", "math/bits.Sub64"], named := ["speakeasy/field.prime"], apart := false, laid := [("speakeasy/field.prime", laid_speakeasy_field_prime)] }
def FieldChainsSaid : Prop := fieldChainsRow.holds Tryd.pinned (OpenSpec.ofChange fieldChainsSpec)

/-- ITS FALSE NEIGHBOUR: 'it returns false'. Refute it at one input. -/
def fieldChainsWrong : ChangeSpec := { name := "fieldChains", fn := fun _ => fun
  | [d1, d2] => { results := [.lit (.bool false)], args := [d1, d2] }
  | _ => none }
def FieldChainsWrongFalsely : Prop := fieldChainsRow.holds Tryd.pinned (OpenSpec.ofChange fieldChainsWrong)

/-- 'speakeasylaw06.CurveTwo': WHATEVER THE INPUT: true; the input reads as it did. -/
def curveTwoSpec : ChangeSpec := { name := "curveTwo", fn := fun _ => fun
  | [d1, d2] => { results := [.lit (.bool true)], args := [d1, d2] }
  | _ => none }
def curveTwoRow : OpenClaim := { program := "ytmnhifagkcmhjaadoor", sum := "bd9aaa3ce94f1f245445edbb4fcf589dfc1cf99ee870fcad824190f82b8d5898", func := "speakeasy/speakeasylaw06.CurveTwo", spec := "curveTwo", inPlace := ["math/bits.Add64", "math/bits.Sub64"], recurses := true, named := ["speakeasy/field.prime"], apart := false, laid := [("speakeasy/field.prime", laid_speakeasy_field_prime)] }
def CurveTwoSaid : Prop := curveTwoRow.holds Tryd.pinned (OpenSpec.ofChange curveTwoSpec)

/-- ITS FALSE NEIGHBOUR: 'it returns false'. Refute it at one input. -/
def curveTwoWrong : ChangeSpec := { name := "curveTwo", fn := fun _ => fun
  | [d1, d2] => { results := [.lit (.bool false)], args := [d1, d2] }
  | _ => none }
def CurveTwoWrongFalsely : Prop := curveTwoRow.holds Tryd.pinned (OpenSpec.ofChange curveTwoWrong)

/-- 'speakeasylaw06.CurveClamps': WHATEVER THE INPUT: true; the input reads as it did. -/
def curveClampsSpec : ChangeSpec := { name := "curveClamps", fn := fun _ => fun
  | [d1, d2, d3] => { results := [.lit (.bool true)], args := [d1, d2, d3] }
  | _ => none }
def curveClampsRow : OpenClaim := { program := "ytmnhifagkcmhjaadoor", sum := "bd9aaa3ce94f1f245445edbb4fcf589dfc1cf99ee870fcad824190f82b8d5898", func := "speakeasy/speakeasylaw06.CurveClamps", spec := "curveClamps", inPlace := ["math/bits.Add64", "math/bits.Sub64"], recurses := true, named := ["speakeasy/field.prime"], apart := false, laid := [("speakeasy/field.prime", laid_speakeasy_field_prime)] }
def CurveClampsSaid : Prop := curveClampsRow.holds Tryd.pinned (OpenSpec.ofChange curveClampsSpec)

/-- ITS FALSE NEIGHBOUR: 'it returns false'. Refute it at one input. -/
def curveClampsWrong : ChangeSpec := { name := "curveClamps", fn := fun _ => fun
  | [d1, d2, d3] => { results := [.lit (.bool false)], args := [d1, d2, d3] }
  | _ => none }
def CurveClampsWrongFalsely : Prop := curveClampsRow.holds Tryd.pinned (OpenSpec.ofChange curveClampsWrong)

/-- 'speakeasylaw06.CurveThree': WHATEVER THE INPUT: true; the input reads as it did. -/
def curveThreeSpec : ChangeSpec := { name := "curveThree", fn := fun _ => fun
  | [d1, d2, d3] => { results := [.lit (.bool true)], args := [d1, d2, d3] }
  | _ => none }
def curveThreeRow : OpenClaim := { program := "ytmnhifagkcmhjaadoor", sum := "bd9aaa3ce94f1f245445edbb4fcf589dfc1cf99ee870fcad824190f82b8d5898", func := "speakeasy/speakeasylaw06.CurveThree", spec := "curveThree", inPlace := ["math/bits.Add64", "math/bits.Sub64"], recurses := true, named := ["speakeasy/field.prime"], apart := false, laid := [("speakeasy/field.prime", laid_speakeasy_field_prime)] }
def CurveThreeSaid : Prop := curveThreeRow.holds Tryd.pinned (OpenSpec.ofChange curveThreeSpec)

/-- ITS FALSE NEIGHBOUR: 'it returns false'. Refute it at one input. -/
def curveThreeWrong : ChangeSpec := { name := "curveThree", fn := fun _ => fun
  | [d1, d2, d3] => { results := [.lit (.bool false)], args := [d1, d2, d3] }
  | _ => none }
def CurveThreeWrongFalsely : Prop := curveThreeRow.holds Tryd.pinned (OpenSpec.ofChange curveThreeWrong)

/-- 'speakeasytop.SpeakSealed': WHATEVER THE INPUT: true; the input reads as it did. -/
def speakSealedSpec : ChangeSpec := { name := "speakSealed", fn := fun _ => fun
  | [d1, d2, d3] => { results := [.lit (.bool true)], args := [d1, d2, d3] }
  | _ => none }
def speakSealedRow : OpenClaim := { program := "ytmnhifagkcmhjaadoor", sum := "bd9aaa3ce94f1f245445edbb4fcf589dfc1cf99ee870fcad824190f82b8d5898", func := "speakeasy/speakeasytop.SpeakSealed", spec := "speakSealed", inPlace := ["math/bits.Add64"], unfollowed := true, recurses := true, named := ["speakeasy/sha2.k256", "speakeasy/chacha.quarters", "speakeasy/api.ErrEnd", "speakeasy/api.ErrMac"], apart := false, laid := [("speakeasy/chacha.quarters", laid_speakeasy_chacha_quarters), ("speakeasy/api.ErrEnd", laid_speakeasy_api_ErrEnd), ("speakeasy/api.ErrMac", laid_speakeasy_api_ErrMac), ("speakeasy/sha2.k256", laid_speakeasy_sha2_k256)] }
def SpeakSealedSaid : Prop := speakSealedRow.holds Tryd.pinned (OpenSpec.ofChange speakSealedSpec)

/-- ITS FALSE NEIGHBOUR: 'it returns false'. Refute it at one input. -/
def speakSealedWrong : ChangeSpec := { name := "speakSealed", fn := fun _ => fun
  | [d1, d2, d3] => { results := [.lit (.bool false)], args := [d1, d2, d3] }
  | _ => none }
def SpeakSealedWrongFalsely : Prop := speakSealedRow.holds Tryd.pinned (OpenSpec.ofChange speakSealedWrong)

/- THE SECOND FORM. 'bulk': how many values and letters a reading holds, each counted each time it is reached (what is shared counts as often as it is met; a slice's spare places count too). A statement '..UptoSaid' is the law's where the arguments, and the package variables that the reading takes, are together of bulk at most 1048576: NARROWER than '..Said'. Prove '..Said' where nothing that the law and all that it calls make is longer than what came in: it says more and counts as full. Else prove '..UptoSaid'. A law counts once. -/
mutual
def uptoBulk {H : Type} : DataW H → Nat
  | .lit (.string bytes) => bytes.length + 1
  | .lit _ => 1
  | .nil => 1
  | .ptr d => uptoBulk d + 1
  | .slice elems spare => uptoBulkAll elems + uptoBulkAll spare + 1
  | .agg parts => uptoBulkAll parts + 1
  | .iface _ d => uptoBulk d + 1
  | .map entries => uptoBulkEntries entries + 1
  | .held _ => 1
def uptoBulkAll {H : Type} : List (DataW H) → Nat
  | [] => 0
  | d :: r => uptoBulk d + uptoBulkAll r
def uptoBulkEntries {H : Type} : List (Lit × DataW H) → Nat
  | [] => 0
  | x :: r => uptoBulkEntry x + uptoBulkEntries r
def uptoBulkEntry {H : Type} : Lit × DataW H → Nat
  | (.string bytes, d) => bytes.length + uptoBulk d + 1
  | (_, d) => uptoBulk d + 1
 end
def uptoSmall : (H : Type) → List (DataW H) → Bool := fun _ ds => decide (uptoBulkAll ds ≤ 1048576)
def OpenSpec.upto (s : _root_.Go.ChangeSpec) : _root_.Go.OpenSpec := { _root_.Go.OpenSpec.ofChange s with cond := some uptoSmall }

/-- 'speakeasylaw07.ScalarReduces', WHERE WHAT IT READS IS OF BULK AT MOST 1048576: true; the input reads as it did. -/
def scalarReducesUptoRow : OpenClaim := { program := "ytmnhifagkcmhjaadoor", sum := "bd9aaa3ce94f1f245445edbb4fcf589dfc1cf99ee870fcad824190f82b8d5898", func := "speakeasy/speakeasylaw07.ScalarReduces", spec := "scalarReduces", inPlace := ["math/bits.Sub64", "math/bits.Add64"], named := ["speakeasy/scalar.order"], apart := false, laid := [("speakeasy/scalar.order", laid_speakeasy_scalar_order)], narrowed := true }
def ScalarReducesUptoSaid : Prop := scalarReducesUptoRow.holds Tryd.pinned (OpenSpec.upto scalarReducesSpec)

/-- 'speakeasylaw07.ScalarMulAdds', WHERE WHAT IT READS IS OF BULK AT MOST 1048576: true; the input reads as it did. -/
def scalarMulAddsUptoRow : OpenClaim := { program := "ytmnhifagkcmhjaadoor", sum := "bd9aaa3ce94f1f245445edbb4fcf589dfc1cf99ee870fcad824190f82b8d5898", func := "speakeasy/speakeasylaw07.ScalarMulAdds", spec := "scalarMulAdds", inPlace := ["math/bits.Sub64", "math/bits.Add64"], named := ["speakeasy/scalar.order"], apart := false, laid := [("speakeasy/scalar.order", laid_speakeasy_scalar_order)], narrowed := true }
def ScalarMulAddsUptoSaid : Prop := scalarMulAddsUptoRow.holds Tryd.pinned (OpenSpec.upto scalarMulAddsSpec)

/-- 'speakeasylaw07.ScalarFits', WHERE WHAT IT READS IS OF BULK AT MOST 1048576: true; the input reads as it did. -/
def scalarFitsUptoRow : OpenClaim := { program := "ytmnhifagkcmhjaadoor", sum := "bd9aaa3ce94f1f245445edbb4fcf589dfc1cf99ee870fcad824190f82b8d5898", func := "speakeasy/speakeasylaw07.ScalarFits", spec := "scalarFits", inPlace := ["math/bits.Sub64", "math/bits.Add64"], named := ["speakeasy/scalar.order"], apart := false, laid := [("speakeasy/scalar.order", laid_speakeasy_scalar_order)], narrowed := true }
def ScalarFitsUptoSaid : Prop := scalarFitsUptoRow.holds Tryd.pinned (OpenSpec.upto scalarFitsSpec)

/-- 'speakeasylaw07.ScalarRing', WHERE WHAT IT READS IS OF BULK AT MOST 1048576: true; the input reads as it did. -/
def scalarRingUptoRow : OpenClaim := { program := "ytmnhifagkcmhjaadoor", sum := "bd9aaa3ce94f1f245445edbb4fcf589dfc1cf99ee870fcad824190f82b8d5898", func := "speakeasy/speakeasylaw07.ScalarRing", spec := "scalarRing", inPlace := ["math/bits.Sub64", "math/bits.Add64"], named := ["speakeasy/scalar.order"], apart := false, laid := [("speakeasy/scalar.order", laid_speakeasy_scalar_order)], narrowed := true }
def ScalarRingUptoSaid : Prop := scalarRingUptoRow.holds Tryd.pinned (OpenSpec.upto scalarRingSpec)

/-- 'speakeasylaw08.SignHigh', WHERE WHAT IT READS IS OF BULK AT MOST 1048576: true; the input reads as it did. -/
def signHighUptoRow : OpenClaim := { program := "ytmnhifagkcmhjaadoor", sum := "bd9aaa3ce94f1f245445edbb4fcf589dfc1cf99ee870fcad824190f82b8d5898", func := "speakeasy/speakeasylaw08.SignHigh", spec := "signHigh", inPlace := ["math/bits.Add64", "math/bits.Sub64"], unfollowed := true, recurses := true, named := ["speakeasy/sha2.k512", "speakeasy/field.prime", "speakeasy/field.minus1Root", "speakeasy/scalar.order"], apart := false, laid := [("speakeasy/scalar.order", laid_speakeasy_scalar_order), ("speakeasy/field.prime", laid_speakeasy_field_prime), ("speakeasy/field.minus1Root", laid_speakeasy_field_minus1Root), ("speakeasy/sha2.k512", laid_speakeasy_sha2_k512)], narrowed := true }
def SignHighUptoSaid : Prop := signHighUptoRow.holds Tryd.pinned (OpenSpec.upto signHighSpec)

/-- 'speakeasytop.SpeakMaps', WHERE WHAT IT READS IS OF BULK AT MOST 1048576: true; the input reads as it did. -/
def speakMapsUptoRow : OpenClaim := { program := "ytmnhifagkcmhjaadoor", sum := "bd9aaa3ce94f1f245445edbb4fcf589dfc1cf99ee870fcad824190f82b8d5898", func := "speakeasy/speakeasytop.SpeakMaps", spec := "speakMaps", inPlace := ["math/bits.Add64", "math/bits.Sub64"], unfollowed := true, recurses := true, named := ["speakeasy/sha2.k512", "speakeasy/field.prime", "speakeasy/field.minus1Root"], apart := false, laid := [("speakeasy/field.prime", laid_speakeasy_field_prime), ("speakeasy/field.minus1Root", laid_speakeasy_field_minus1Root), ("speakeasy/sha2.k512", laid_speakeasy_sha2_k512)], narrowed := true }
def SpeakMapsUptoSaid : Prop := speakMapsUptoRow.holds Tryd.pinned (OpenSpec.upto speakMapsSpec)

/-- 'speakeasylaw04.PolyEdges', WHERE WHAT IT READS IS OF BULK AT MOST 1048576: true; the input reads as it did. -/
def polyEdgesUptoRow : OpenClaim := { program := "ytmnhifagkcmhjaadoor", sum := "bd9aaa3ce94f1f245445edbb4fcf589dfc1cf99ee870fcad824190f82b8d5898", func := "speakeasy/speakeasylaw04.PolyEdges", spec := "polyEdges", inPlace := ["math/bits.Add64"], named := ["speakeasy/chacha.quarters", "speakeasy/api.ErrEnd", "speakeasy/api.ErrMac"], apart := false, laid := [("speakeasy/chacha.quarters", laid_speakeasy_chacha_quarters), ("speakeasy/api.ErrEnd", laid_speakeasy_api_ErrEnd), ("speakeasy/api.ErrMac", laid_speakeasy_api_ErrMac)], narrowed := true }
def PolyEdgesUptoSaid : Prop := polyEdgesUptoRow.holds Tryd.pinned (OpenSpec.upto polyEdgesSpec)

/-- 'speakeasylaw04.PolyOpens', WHERE WHAT IT READS IS OF BULK AT MOST 1048576: true; the input reads as it did. -/
def polyOpensUptoRow : OpenClaim := { program := "ytmnhifagkcmhjaadoor", sum := "bd9aaa3ce94f1f245445edbb4fcf589dfc1cf99ee870fcad824190f82b8d5898", func := "speakeasy/speakeasylaw04.PolyOpens", spec := "polyOpens", inPlace := ["math/bits.Add64", "internal/reflectlite.TypeOf"], unfollowed := true, recurses := true, named := ["speakeasy/chacha.quarters", "speakeasy/api.ErrEnd", "speakeasy/api.ErrMac", "speakeasy/api.ErrArg", "speakeasy/api.ErrForm", "speakeasy/api.ErrBig", "speakeasy/api.ErrState", "speakeasy/api.ErrFull", "speakeasy/api.ErrNone", "speakeasy/api.ErrHave", "speakeasy/api.ErrKey", "speakeasy/api.ErrSign", "speakeasy/api.ErrVersion", "speakeasy/api.ErrAlgo", "speakeasy/api.ErrHost", "speakeasy/api.ErrAuth", "speakeasy/api.ErrQuota", "speakeasy/api.ErrName", "speakeasy/api.ErrGone", "speakeasy/api.ErrWindow", "speakeasy/api.ErrKind"], apart := false, laid := [("speakeasy/chacha.quarters", laid_speakeasy_chacha_quarters), ("speakeasy/api.ErrArg", laid_speakeasy_api_ErrArg), ("speakeasy/api.ErrEnd", laid_speakeasy_api_ErrEnd), ("speakeasy/api.ErrForm", laid_speakeasy_api_ErrForm), ("speakeasy/api.ErrBig", laid_speakeasy_api_ErrBig), ("speakeasy/api.ErrMac", laid_speakeasy_api_ErrMac), ("speakeasy/api.ErrState", laid_speakeasy_api_ErrState), ("speakeasy/api.ErrFull", laid_speakeasy_api_ErrFull), ("speakeasy/api.ErrNone", laid_speakeasy_api_ErrNone), ("speakeasy/api.ErrHave", laid_speakeasy_api_ErrHave), ("speakeasy/api.ErrKey", laid_speakeasy_api_ErrKey), ("speakeasy/api.ErrSign", laid_speakeasy_api_ErrSign), ("speakeasy/api.ErrVersion", laid_speakeasy_api_ErrVersion), ("speakeasy/api.ErrAlgo", laid_speakeasy_api_ErrAlgo), ("speakeasy/api.ErrHost", laid_speakeasy_api_ErrHost), ("speakeasy/api.ErrAuth", laid_speakeasy_api_ErrAuth), ("speakeasy/api.ErrQuota", laid_speakeasy_api_ErrQuota), ("speakeasy/api.ErrName", laid_speakeasy_api_ErrName), ("speakeasy/api.ErrGone", laid_speakeasy_api_ErrGone), ("speakeasy/api.ErrWindow", laid_speakeasy_api_ErrWindow), ("speakeasy/api.ErrKind", laid_speakeasy_api_ErrKind)], narrowed := true }
def PolyOpensUptoSaid : Prop := polyOpensUptoRow.holds Tryd.pinned (OpenSpec.upto polyOpensSpec)

/-- 'speakeasylaw04.PolyTurned', WHERE WHAT IT READS IS OF BULK AT MOST 1048576: true; the input reads as it did. -/
def polyTurnedUptoRow : OpenClaim := { program := "ytmnhifagkcmhjaadoor", sum := "bd9aaa3ce94f1f245445edbb4fcf589dfc1cf99ee870fcad824190f82b8d5898", func := "speakeasy/speakeasylaw04.PolyTurned", spec := "polyTurned", inPlace := ["math/bits.Add64", "internal/reflectlite.TypeOf"], unfollowed := true, recurses := true, named := ["speakeasy/chacha.quarters", "speakeasy/api.ErrEnd", "speakeasy/api.ErrMac", "speakeasy/api.ErrArg", "speakeasy/api.ErrForm", "speakeasy/api.ErrBig", "speakeasy/api.ErrState", "speakeasy/api.ErrFull", "speakeasy/api.ErrNone", "speakeasy/api.ErrHave", "speakeasy/api.ErrKey", "speakeasy/api.ErrSign", "speakeasy/api.ErrVersion", "speakeasy/api.ErrAlgo", "speakeasy/api.ErrHost", "speakeasy/api.ErrAuth", "speakeasy/api.ErrQuota", "speakeasy/api.ErrName", "speakeasy/api.ErrGone", "speakeasy/api.ErrWindow", "speakeasy/api.ErrKind"], apart := false, laid := [("speakeasy/chacha.quarters", laid_speakeasy_chacha_quarters), ("speakeasy/api.ErrArg", laid_speakeasy_api_ErrArg), ("speakeasy/api.ErrEnd", laid_speakeasy_api_ErrEnd), ("speakeasy/api.ErrForm", laid_speakeasy_api_ErrForm), ("speakeasy/api.ErrBig", laid_speakeasy_api_ErrBig), ("speakeasy/api.ErrMac", laid_speakeasy_api_ErrMac), ("speakeasy/api.ErrState", laid_speakeasy_api_ErrState), ("speakeasy/api.ErrFull", laid_speakeasy_api_ErrFull), ("speakeasy/api.ErrNone", laid_speakeasy_api_ErrNone), ("speakeasy/api.ErrHave", laid_speakeasy_api_ErrHave), ("speakeasy/api.ErrKey", laid_speakeasy_api_ErrKey), ("speakeasy/api.ErrSign", laid_speakeasy_api_ErrSign), ("speakeasy/api.ErrVersion", laid_speakeasy_api_ErrVersion), ("speakeasy/api.ErrAlgo", laid_speakeasy_api_ErrAlgo), ("speakeasy/api.ErrHost", laid_speakeasy_api_ErrHost), ("speakeasy/api.ErrAuth", laid_speakeasy_api_ErrAuth), ("speakeasy/api.ErrQuota", laid_speakeasy_api_ErrQuota), ("speakeasy/api.ErrName", laid_speakeasy_api_ErrName), ("speakeasy/api.ErrGone", laid_speakeasy_api_ErrGone), ("speakeasy/api.ErrWindow", laid_speakeasy_api_ErrWindow), ("speakeasy/api.ErrKind", laid_speakeasy_api_ErrKind)], narrowed := true }
def PolyTurnedUptoSaid : Prop := polyTurnedUptoRow.holds Tryd.pinned (OpenSpec.upto polyTurnedSpec)

/-- 'speakeasylaw05.FieldChains', WHERE WHAT IT READS IS OF BULK AT MOST 1048576: true; the input reads as it did. -/
def fieldChainsUptoRow : OpenClaim := { program := "ytmnhifagkcmhjaadoor", sum := "bd9aaa3ce94f1f245445edbb4fcf589dfc1cf99ee870fcad824190f82b8d5898", func := "speakeasy/speakeasylaw05.FieldChains", spec := "fieldChains", inPlace := ["math/bits.Add64", "math/bits.Sub64"], named := ["speakeasy/field.prime"], apart := false, laid := [("speakeasy/field.prime", laid_speakeasy_field_prime)], narrowed := true }
def FieldChainsUptoSaid : Prop := fieldChainsUptoRow.holds Tryd.pinned (OpenSpec.upto fieldChainsSpec)

/-- 'speakeasylaw06.CurveTwo', WHERE WHAT IT READS IS OF BULK AT MOST 1048576: true; the input reads as it did. -/
def curveTwoUptoRow : OpenClaim := { program := "ytmnhifagkcmhjaadoor", sum := "bd9aaa3ce94f1f245445edbb4fcf589dfc1cf99ee870fcad824190f82b8d5898", func := "speakeasy/speakeasylaw06.CurveTwo", spec := "curveTwo", inPlace := ["math/bits.Add64", "math/bits.Sub64"], recurses := true, named := ["speakeasy/field.prime"], apart := false, laid := [("speakeasy/field.prime", laid_speakeasy_field_prime)], narrowed := true }
def CurveTwoUptoSaid : Prop := curveTwoUptoRow.holds Tryd.pinned (OpenSpec.upto curveTwoSpec)

/-- 'speakeasylaw06.CurveClamps', WHERE WHAT IT READS IS OF BULK AT MOST 1048576: true; the input reads as it did. -/
def curveClampsUptoRow : OpenClaim := { program := "ytmnhifagkcmhjaadoor", sum := "bd9aaa3ce94f1f245445edbb4fcf589dfc1cf99ee870fcad824190f82b8d5898", func := "speakeasy/speakeasylaw06.CurveClamps", spec := "curveClamps", inPlace := ["math/bits.Add64", "math/bits.Sub64"], recurses := true, named := ["speakeasy/field.prime"], apart := false, laid := [("speakeasy/field.prime", laid_speakeasy_field_prime)], narrowed := true }
def CurveClampsUptoSaid : Prop := curveClampsUptoRow.holds Tryd.pinned (OpenSpec.upto curveClampsSpec)

/-- 'speakeasylaw06.CurveThree', WHERE WHAT IT READS IS OF BULK AT MOST 1048576: true; the input reads as it did. -/
def curveThreeUptoRow : OpenClaim := { program := "ytmnhifagkcmhjaadoor", sum := "bd9aaa3ce94f1f245445edbb4fcf589dfc1cf99ee870fcad824190f82b8d5898", func := "speakeasy/speakeasylaw06.CurveThree", spec := "curveThree", inPlace := ["math/bits.Add64", "math/bits.Sub64"], recurses := true, named := ["speakeasy/field.prime"], apart := false, laid := [("speakeasy/field.prime", laid_speakeasy_field_prime)], narrowed := true }
def CurveThreeUptoSaid : Prop := curveThreeUptoRow.holds Tryd.pinned (OpenSpec.upto curveThreeSpec)

/-- 'speakeasytop.SpeakSealed', WHERE WHAT IT READS IS OF BULK AT MOST 1048576: true; the input reads as it did. -/
def speakSealedUptoRow : OpenClaim := { program := "ytmnhifagkcmhjaadoor", sum := "bd9aaa3ce94f1f245445edbb4fcf589dfc1cf99ee870fcad824190f82b8d5898", func := "speakeasy/speakeasytop.SpeakSealed", spec := "speakSealed", inPlace := ["math/bits.Add64"], unfollowed := true, recurses := true, named := ["speakeasy/sha2.k256", "speakeasy/chacha.quarters", "speakeasy/api.ErrEnd", "speakeasy/api.ErrMac"], apart := false, laid := [("speakeasy/chacha.quarters", laid_speakeasy_chacha_quarters), ("speakeasy/api.ErrEnd", laid_speakeasy_api_ErrEnd), ("speakeasy/api.ErrMac", laid_speakeasy_api_ErrMac), ("speakeasy/sha2.k256", laid_speakeasy_sha2_k256)], narrowed := true }
def SpeakSealedUptoSaid : Prop := speakSealedUptoRow.holds Tryd.pinned (OpenSpec.upto speakSealedSpec)

end Rows
end Go.Proofs.YtmnhifagkcmhjaaDoor
