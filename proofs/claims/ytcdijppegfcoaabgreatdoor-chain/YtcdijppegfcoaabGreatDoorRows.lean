/-
  NARROWER THAN 'FOR EVERY INPUT', by the rows' own cells (each row's printed sentence says how): Renamed: laid · Chain: laid · Endless: laid · Known: laid · Refuses: laid.
  DERIVED. THE GIVEN ROWS OF THIS SEAT. 5 by the template 'for every input the law returns true; each argument reads behind the call as it read before'; 0 by the template 'total and deterministic' (their statements: YtcdijppegfcoaabGreatDoorTotals.lean).
  GIVEN WITH THE SEED: the statements are not yours to turn. If you find one false, say at which input.
  Laid BY PROGRAM, IN A SANDBOX (cutbox-rows.mjs): the forced cells as the released guide's own fill.sh prints them over the translation 17e735094a1a5868… (all of the seat's roots in one cut). By AI agents, Wed Nov 11 2026. No macro, syntax, notation, axiom, sorry.
-/
import Derived.Test.YtcdijppegfcoaabGreatDoorChecked
import GoSem.Claim
import GoSem.ClaimJoined
import GoSem.ClaimMapViews
import Derived.JoinedTies
import Derived.KernelRfl
namespace Go.Proofs.YtcdijppegfcoaabGreatDoor
/- THE CELL 'sum', in the pinned program and in every row, IS THE sha256 OF THE DUMP (.gsa) THAT YtcdijppegfcoaabGreatDoorProg.lean LOADS. Nothing in Lean hashes anything: it is a label: what it is worth is what the hold of that sum in a sandbox is worth. -/
noncomputable def Tryz.pinned : Pinned := { name := "ytcdijppegfcoaabgreatdoor", sum := "17e735094a1a586855df283f0c459f6bd96961be130c6c47c62a000069395c6d", checked := Tryz.checked }
namespace Rows
def none {H : Type} : Left H := { results := [], args := [] }

/- WHAT THE LISTED PACKAGE-LEVEL VARIABLES READ AS WHEN THE CALL BEGINS. Each datum BY PROGRAM (the guide's laid-datum.mjs) off the statement by which the dump's own 'gosem.cut.vars' lays the variable. In a bare row this is a premise. The card (YtcdijppegfcoaabGreatDoorCards.lean) ties it to the program's text. -/
def laid_math_bits_deBruijn32tab {H : Type} : DataW H := .agg [.lit (.int .u8 0), .lit (.int .u8 1), .lit (.int .u8 28), .lit (.int .u8 2), .lit (.int .u8 29), .lit (.int .u8 14), .lit (.int .u8 24), .lit (.int .u8 3), .lit (.int .u8 30), .lit (.int .u8 22), .lit (.int .u8 20), .lit (.int .u8 15), .lit (.int .u8 25), .lit (.int .u8 17), .lit (.int .u8 4), .lit (.int .u8 8), .lit (.int .u8 31), .lit (.int .u8 27), .lit (.int .u8 13), .lit (.int .u8 23), .lit (.int .u8 21), .lit (.int .u8 19), .lit (.int .u8 16), .lit (.int .u8 7), .lit (.int .u8 26), .lit (.int .u8 12), .lit (.int .u8 18), .lit (.int .u8 6), .lit (.int .u8 11), .lit (.int .u8 5), .lit (.int .u8 10), .lit (.int .u8 9)]
def laid_math_bits_deBruijn64tab {H : Type} : DataW H := .agg [.lit (.int .u8 0), .lit (.int .u8 1), .lit (.int .u8 56), .lit (.int .u8 2), .lit (.int .u8 57), .lit (.int .u8 49), .lit (.int .u8 28), .lit (.int .u8 3), .lit (.int .u8 61), .lit (.int .u8 58), .lit (.int .u8 42), .lit (.int .u8 50), .lit (.int .u8 38), .lit (.int .u8 29), .lit (.int .u8 17), .lit (.int .u8 4), .lit (.int .u8 62), .lit (.int .u8 47), .lit (.int .u8 59), .lit (.int .u8 36), .lit (.int .u8 45), .lit (.int .u8 43), .lit (.int .u8 51), .lit (.int .u8 22), .lit (.int .u8 53), .lit (.int .u8 39), .lit (.int .u8 33), .lit (.int .u8 30), .lit (.int .u8 24), .lit (.int .u8 18), .lit (.int .u8 12), .lit (.int .u8 5), .lit (.int .u8 63), .lit (.int .u8 55), .lit (.int .u8 48), .lit (.int .u8 27), .lit (.int .u8 60), .lit (.int .u8 41), .lit (.int .u8 37), .lit (.int .u8 16), .lit (.int .u8 46), .lit (.int .u8 35), .lit (.int .u8 44), .lit (.int .u8 21), .lit (.int .u8 52), .lit (.int .u8 32), .lit (.int .u8 23), .lit (.int .u8 11), .lit (.int .u8 54), .lit (.int .u8 26), .lit (.int .u8 40), .lit (.int .u8 15), .lit (.int .u8 34), .lit (.int .u8 20), .lit (.int .u8 31), .lit (.int .u8 10), .lit (.int .u8 25), .lit (.int .u8 14), .lit (.int .u8 19), .lit (.int .u8 9), .lit (.int .u8 13), .lit (.int .u8 8), .lit (.int .u8 7), .lit (.int .u8 6)]
def laid_internal_strconv_uint64pow10 {H : Type} : DataW H := .agg [.lit (.int .u64 1), .lit (.int .u64 10), .lit (.int .u64 100), .lit (.int .u64 1000), .lit (.int .u64 10000), .lit (.int .u64 100000), .lit (.int .u64 1000000), .lit (.int .u64 10000000), .lit (.int .u64 100000000), .lit (.int .u64 1000000000), .lit (.int .u64 10000000000), .lit (.int .u64 100000000000), .lit (.int .u64 1000000000000), .lit (.int .u64 10000000000000), .lit (.int .u64 100000000000000), .lit (.int .u64 1000000000000000), .lit (.int .u64 10000000000000000), .lit (.int .u64 100000000000000000), .lit (.int .u64 1000000000000000000), .lit (.int .u64 10000000000000000000)]
def laid_errors_errorType {H : Type} : DataW H := .iface "internal/reflectlite.rtype" (.agg [.ptr (.lit (.string [101, 114, 114, 111, 114]))])
def laid_typer_api_ErrLong {H : Type} : DataW H := .iface "*errors.errorString" (.ptr (.agg [.lit (.string [116, 111, 111, 32, 108, 111, 110, 103])]))
def laid_typer_api_ErrDeep {H : Type} : DataW H := .iface "*errors.errorString" (.ptr (.agg [.lit (.string [116, 111, 111, 32, 109, 97, 110, 121, 32, 112, 97, 114, 116, 115, 32, 119, 105, 116, 104, 105, 110, 32, 101, 97, 99, 104, 32, 111, 116, 104, 101, 114])]))
def laid_typer_api_ErrArg {H : Type} : DataW H := .iface "*errors.errorString" (.ptr (.agg [.lit (.string [97, 32, 110, 117, 109, 98, 101, 114, 32, 111, 102, 32, 114, 111, 117, 110, 100, 115, 32, 116, 104, 97, 116, 32, 105, 115, 32, 110, 111, 110, 101])]))
def laid_typer_api_ErrType {H : Type} : DataW H := .iface "*errors.errorString" (.ptr (.agg [.lit (.string [105, 116, 32, 104, 97, 115, 32, 110, 111, 32, 116, 121, 112, 101])]))
def laid_typer_api_ErrBig {H : Type} : DataW H := .iface "*errors.errorString" (.ptr (.agg [.lit (.string [97, 32, 116, 121, 112, 101, 32, 116, 104, 97, 116, 32, 105, 115, 32, 116, 111, 111, 32, 98, 105, 103])]))
def laid_typer_api_ErrFuel {H : Type} : DataW H := .iface "*errors.errorString" (.ptr (.agg [.lit (.string [109, 111, 114, 101, 32, 114, 111, 117, 110, 100, 115, 32, 97, 114, 101, 32, 110, 101, 101, 100, 101, 100])]))
def laid_typer_api_ErrStopped {H : Type} : DataW H := .iface "*errors.errorString" (.ptr (.agg [.lit (.string [115, 116, 111, 112, 112, 101, 100])]))
def laid_typer_api_ErrNot {H : Type} : DataW H := .iface "*errors.errorString" (.ptr (.agg [.lit (.string [105, 116, 32, 105, 115, 32, 110, 111, 32, 105, 110, 115, 116, 97, 110, 99, 101])]))

/-- 'typerkeep.Renamed': WHATEVER THE INPUT: true; the input reads as it did. -/
def renamedSpec : ChangeSpec := { name := "renamed", fn := fun _ => fun
  | [d1, d2, d3] => { results := [.lit (.bool true)], args := [d1, d2, d3] }
  | _ => none }
def renamedRow : OpenClaim := { program := "ytcdijppegfcoaabgreatdoor", sum := "17e735094a1a586855df283f0c459f6bd96961be130c6c47c62a000069395c6d", func := "typer/typerkeep.Renamed", spec := "renamed", inPlace := ["internal/bytealg.IndexByteString", "internal/abi.NoEscape", "internal/bytealg.MakeNoZero", "internal/reflectlite.ValueOf", "(internal/reflectlite.Value).Type", "(internal/reflectlite.Value).IsNil", "internal/reflectlite.TypeOf", "(internal/reflectlite.Value).Elem", "(internal/reflectlite.Value).Set"], unfollowed := true, recurses := true, named := ["typer/api.ErrBig", "typer/api.ErrLong", "internal/strconv.uint64pow10", "math/bits.deBruijn32tab", "math/bits.deBruijn64tab", "typer/api.ErrDeep", "typer/api.ErrArg", "typer/api.ErrType", "typer/api.ErrFuel", "typer/api.ErrStopped", "typer/api.ErrNot", "errors.errorType"], apart := false, laid := [("math/bits.deBruijn32tab", laid_math_bits_deBruijn32tab), ("math/bits.deBruijn64tab", laid_math_bits_deBruijn64tab), ("internal/strconv.uint64pow10", laid_internal_strconv_uint64pow10), ("errors.errorType", laid_errors_errorType), ("typer/api.ErrLong", laid_typer_api_ErrLong), ("typer/api.ErrDeep", laid_typer_api_ErrDeep), ("typer/api.ErrArg", laid_typer_api_ErrArg), ("typer/api.ErrType", laid_typer_api_ErrType), ("typer/api.ErrBig", laid_typer_api_ErrBig), ("typer/api.ErrFuel", laid_typer_api_ErrFuel), ("typer/api.ErrStopped", laid_typer_api_ErrStopped), ("typer/api.ErrNot", laid_typer_api_ErrNot)] }
def RenamedSaid : Prop := renamedRow.holds Tryz.pinned (OpenSpec.ofChange renamedSpec)

/-- ITS FALSE NEIGHBOUR: 'it returns false'. Refute it at one input. -/
def renamedWrong : ChangeSpec := { name := "renamed", fn := fun _ => fun
  | [d1, d2, d3] => { results := [.lit (.bool false)], args := [d1, d2, d3] }
  | _ => none }
def RenamedWrongFalsely : Prop := renamedRow.holds Tryz.pinned (OpenSpec.ofChange renamedWrong)

/-- 'typerkeep.Chain': WHATEVER THE INPUT: true; the input reads as it did. -/
def chainSpec : ChangeSpec := { name := "chain", fn := fun _ => fun
  | [d1, d2] => { results := [.lit (.bool true)], args := [d1, d2] }
  | _ => none }
def chainRow : OpenClaim := { program := "ytcdijppegfcoaabgreatdoor", sum := "17e735094a1a586855df283f0c459f6bd96961be130c6c47c62a000069395c6d", func := "typer/typerkeep.Chain", spec := "chain", inPlace := ["internal/bytealg.IndexByteString", "internal/abi.NoEscape", "internal/bytealg.MakeNoZero", "internal/reflectlite.ValueOf", "(internal/reflectlite.Value).Type", "(internal/reflectlite.Value).IsNil", "internal/reflectlite.TypeOf", "(internal/reflectlite.Value).Elem", "(internal/reflectlite.Value).Set"], unfollowed := true, recurses := true, named := ["typer/api.ErrArg", "typer/api.ErrDeep", "typer/api.ErrLong", "typer/api.ErrBig", "typer/api.ErrType", "internal/strconv.uint64pow10", "math/bits.deBruijn32tab", "math/bits.deBruijn64tab", "typer/api.ErrFuel", "typer/api.ErrStopped", "typer/api.ErrNot", "errors.errorType"], apart := false, laid := [("math/bits.deBruijn32tab", laid_math_bits_deBruijn32tab), ("math/bits.deBruijn64tab", laid_math_bits_deBruijn64tab), ("internal/strconv.uint64pow10", laid_internal_strconv_uint64pow10), ("errors.errorType", laid_errors_errorType), ("typer/api.ErrLong", laid_typer_api_ErrLong), ("typer/api.ErrDeep", laid_typer_api_ErrDeep), ("typer/api.ErrArg", laid_typer_api_ErrArg), ("typer/api.ErrType", laid_typer_api_ErrType), ("typer/api.ErrBig", laid_typer_api_ErrBig), ("typer/api.ErrFuel", laid_typer_api_ErrFuel), ("typer/api.ErrStopped", laid_typer_api_ErrStopped), ("typer/api.ErrNot", laid_typer_api_ErrNot)] }
def ChainSaid : Prop := chainRow.holds Tryz.pinned (OpenSpec.ofChange chainSpec)

/-- ITS FALSE NEIGHBOUR: 'it returns false'. Refute it at one input. -/
def chainWrong : ChangeSpec := { name := "chain", fn := fun _ => fun
  | [d1, d2] => { results := [.lit (.bool false)], args := [d1, d2] }
  | _ => none }
def ChainWrongFalsely : Prop := chainRow.holds Tryz.pinned (OpenSpec.ofChange chainWrong)

/-- 'typerkeep.Endless': WHATEVER THE INPUT: true; the input reads as it did. -/
def endlessSpec : ChangeSpec := { name := "endless", fn := fun _ => fun
  | [d1, d2] => { results := [.lit (.bool true)], args := [d1, d2] }
  | _ => none }
def endlessRow : OpenClaim := { program := "ytcdijppegfcoaabgreatdoor", sum := "17e735094a1a586855df283f0c459f6bd96961be130c6c47c62a000069395c6d", func := "typer/typerkeep.Endless", spec := "endless", inPlace := ["internal/bytealg.IndexByteString", "internal/abi.NoEscape", "internal/bytealg.MakeNoZero", "internal/reflectlite.ValueOf", "(internal/reflectlite.Value).Type", "(internal/reflectlite.Value).IsNil", "internal/reflectlite.TypeOf", "(internal/reflectlite.Value).Elem", "(internal/reflectlite.Value).Set"], unfollowed := true, recurses := true, named := ["typer/api.ErrArg", "typer/api.ErrDeep", "typer/api.ErrLong", "typer/api.ErrBig", "typer/api.ErrType", "internal/strconv.uint64pow10", "math/bits.deBruijn32tab", "math/bits.deBruijn64tab", "typer/api.ErrFuel", "typer/api.ErrStopped", "typer/api.ErrNot", "errors.errorType"], apart := false, laid := [("math/bits.deBruijn32tab", laid_math_bits_deBruijn32tab), ("math/bits.deBruijn64tab", laid_math_bits_deBruijn64tab), ("internal/strconv.uint64pow10", laid_internal_strconv_uint64pow10), ("errors.errorType", laid_errors_errorType), ("typer/api.ErrLong", laid_typer_api_ErrLong), ("typer/api.ErrDeep", laid_typer_api_ErrDeep), ("typer/api.ErrArg", laid_typer_api_ErrArg), ("typer/api.ErrType", laid_typer_api_ErrType), ("typer/api.ErrBig", laid_typer_api_ErrBig), ("typer/api.ErrFuel", laid_typer_api_ErrFuel), ("typer/api.ErrStopped", laid_typer_api_ErrStopped), ("typer/api.ErrNot", laid_typer_api_ErrNot)] }
def EndlessSaid : Prop := endlessRow.holds Tryz.pinned (OpenSpec.ofChange endlessSpec)

/-- ITS FALSE NEIGHBOUR: 'it returns false'. Refute it at one input. -/
def endlessWrong : ChangeSpec := { name := "endless", fn := fun _ => fun
  | [d1, d2] => { results := [.lit (.bool false)], args := [d1, d2] }
  | _ => none }
def EndlessWrongFalsely : Prop := endlessRow.holds Tryz.pinned (OpenSpec.ofChange endlessWrong)

/-- 'typerkeep.Known': WHATEVER THE INPUT: true; the input reads as it did. -/
def knownSpec : ChangeSpec := { name := "known", fn := fun _ => fun
  | [d] => { results := [.lit (.bool true)], args := [d] }
  | _ => none }
def knownRow : OpenClaim := { program := "ytcdijppegfcoaabgreatdoor", sum := "17e735094a1a586855df283f0c459f6bd96961be130c6c47c62a000069395c6d", func := "typer/typerkeep.Known", spec := "known", inPlace := ["internal/bytealg.IndexByteString", "internal/abi.NoEscape", "internal/bytealg.MakeNoZero", "internal/reflectlite.ValueOf", "(internal/reflectlite.Value).Type", "(internal/reflectlite.Value).IsNil", "internal/reflectlite.TypeOf", "(internal/reflectlite.Value).Elem", "(internal/reflectlite.Value).Set"], unfollowed := true, recurses := true, named := ["typer/api.ErrDeep", "typer/api.ErrLong", "typer/api.ErrArg", "typer/api.ErrType", "typer/api.ErrBig", "typer/api.ErrFuel", "typer/api.ErrStopped", "typer/api.ErrNot", "errors.errorType", "internal/strconv.uint64pow10", "math/bits.deBruijn32tab", "math/bits.deBruijn64tab"], apart := false, laid := [("math/bits.deBruijn32tab", laid_math_bits_deBruijn32tab), ("math/bits.deBruijn64tab", laid_math_bits_deBruijn64tab), ("internal/strconv.uint64pow10", laid_internal_strconv_uint64pow10), ("errors.errorType", laid_errors_errorType), ("typer/api.ErrLong", laid_typer_api_ErrLong), ("typer/api.ErrDeep", laid_typer_api_ErrDeep), ("typer/api.ErrArg", laid_typer_api_ErrArg), ("typer/api.ErrType", laid_typer_api_ErrType), ("typer/api.ErrBig", laid_typer_api_ErrBig), ("typer/api.ErrFuel", laid_typer_api_ErrFuel), ("typer/api.ErrStopped", laid_typer_api_ErrStopped), ("typer/api.ErrNot", laid_typer_api_ErrNot)] }
def KnownSaid : Prop := knownRow.holds Tryz.pinned (OpenSpec.ofChange knownSpec)

/-- ITS FALSE NEIGHBOUR: 'it returns false'. Refute it at one input. -/
def knownWrong : ChangeSpec := { name := "known", fn := fun _ => fun
  | [d] => { results := [.lit (.bool false)], args := [d] }
  | _ => none }
def KnownWrongFalsely : Prop := knownRow.holds Tryz.pinned (OpenSpec.ofChange knownWrong)

/-- 'typerkeep.Refuses': WHATEVER THE INPUT: true; the input reads as it did. -/
def refusesSpec : ChangeSpec := { name := "refuses", fn := fun _ => fun
  | [d] => { results := [.lit (.bool true)], args := [d] }
  | _ => none }
def refusesRow : OpenClaim := { program := "ytcdijppegfcoaabgreatdoor", sum := "17e735094a1a586855df283f0c459f6bd96961be130c6c47c62a000069395c6d", func := "typer/typerkeep.Refuses", spec := "refuses", inPlace := ["internal/bytealg.IndexByteString", "internal/abi.NoEscape", "internal/bytealg.MakeNoZero", "internal/reflectlite.ValueOf", "(internal/reflectlite.Value).Type", "(internal/reflectlite.Value).IsNil", "internal/reflectlite.TypeOf", "(internal/reflectlite.Value).Elem", "(internal/reflectlite.Value).Set"], unfollowed := true, recurses := true, named := ["typer/api.ErrDeep", "typer/api.ErrLong", "typer/api.ErrArg", "typer/api.ErrType", "typer/api.ErrBig", "typer/api.ErrFuel", "typer/api.ErrStopped", "typer/api.ErrNot", "errors.errorType", "internal/strconv.uint64pow10", "math/bits.deBruijn32tab", "math/bits.deBruijn64tab"], apart := false, laid := [("math/bits.deBruijn32tab", laid_math_bits_deBruijn32tab), ("math/bits.deBruijn64tab", laid_math_bits_deBruijn64tab), ("internal/strconv.uint64pow10", laid_internal_strconv_uint64pow10), ("errors.errorType", laid_errors_errorType), ("typer/api.ErrLong", laid_typer_api_ErrLong), ("typer/api.ErrDeep", laid_typer_api_ErrDeep), ("typer/api.ErrArg", laid_typer_api_ErrArg), ("typer/api.ErrType", laid_typer_api_ErrType), ("typer/api.ErrBig", laid_typer_api_ErrBig), ("typer/api.ErrFuel", laid_typer_api_ErrFuel), ("typer/api.ErrStopped", laid_typer_api_ErrStopped), ("typer/api.ErrNot", laid_typer_api_ErrNot)] }
def RefusesSaid : Prop := refusesRow.holds Tryz.pinned (OpenSpec.ofChange refusesSpec)

/-- ITS FALSE NEIGHBOUR: 'it returns false'. Refute it at one input. -/
def refusesWrong : ChangeSpec := { name := "refuses", fn := fun _ => fun
  | [d] => { results := [.lit (.bool false)], args := [d] }
  | _ => none }
def RefusesWrongFalsely : Prop := refusesRow.holds Tryz.pinned (OpenSpec.ofChange refusesWrong)

/- THE SECOND FORM. 'bulk': how many values and letters a reading holds, each counted each time it is reached (what is shared counts as often as it is met; a slice's spare places count too). A statement '..UptoSaid' is the law's where the arguments, and the package variables that the reading takes, are together of bulk at most 1048576: NARROWER than '..Said'. Prove '..Said' where nothing that the law and all that it calls make is longer than what came in: it says more and counts as full. Else prove '..UptoSaid'. A law counts once. -/
mutual
def uptoBulk {H : Type} : DataW H → Nat
  | .lit (.string bytes) => bytes.length + 1
  | .lit _ => 1
  | .nil => 1
  | .ptr d => uptoBulk d + 1
  | .slice elems spare => uptoBulkAll elems + uptoBulkAll spare + 1
  | .agg parts => uptoBulkAll parts + 1
  | .iface _ d => uptoBulk d + 1
  | .map entries => uptoBulkEntries entries + 1
  | .held _ => 1
def uptoBulkAll {H : Type} : List (DataW H) → Nat
  | [] => 0
  | d :: r => uptoBulk d + uptoBulkAll r
def uptoBulkEntries {H : Type} : List (Lit × DataW H) → Nat
  | [] => 0
  | x :: r => uptoBulkEntry x + uptoBulkEntries r
def uptoBulkEntry {H : Type} : Lit × DataW H → Nat
  | (.string bytes, d) => bytes.length + uptoBulk d + 1
  | (_, d) => uptoBulk d + 1
 end
def uptoSmall : (H : Type) → List (DataW H) → Bool := fun _ ds => decide (uptoBulkAll ds ≤ 1048576)
def OpenSpec.upto (s : _root_.Go.ChangeSpec) : _root_.Go.OpenSpec := { _root_.Go.OpenSpec.ofChange s with cond := some uptoSmall }

/-- 'typerkeep.Renamed', WHERE WHAT IT READS IS OF BULK AT MOST 1048576: true; the input reads as it did. -/
def renamedUptoRow : OpenClaim := { program := "ytcdijppegfcoaabgreatdoor", sum := "17e735094a1a586855df283f0c459f6bd96961be130c6c47c62a000069395c6d", func := "typer/typerkeep.Renamed", spec := "renamed", inPlace := ["internal/bytealg.IndexByteString", "internal/abi.NoEscape", "internal/bytealg.MakeNoZero", "internal/reflectlite.ValueOf", "(internal/reflectlite.Value).Type", "(internal/reflectlite.Value).IsNil", "internal/reflectlite.TypeOf", "(internal/reflectlite.Value).Elem", "(internal/reflectlite.Value).Set"], unfollowed := true, recurses := true, named := ["typer/api.ErrBig", "typer/api.ErrLong", "internal/strconv.uint64pow10", "math/bits.deBruijn32tab", "math/bits.deBruijn64tab", "typer/api.ErrDeep", "typer/api.ErrArg", "typer/api.ErrType", "typer/api.ErrFuel", "typer/api.ErrStopped", "typer/api.ErrNot", "errors.errorType"], apart := false, laid := [("math/bits.deBruijn32tab", laid_math_bits_deBruijn32tab), ("math/bits.deBruijn64tab", laid_math_bits_deBruijn64tab), ("internal/strconv.uint64pow10", laid_internal_strconv_uint64pow10), ("errors.errorType", laid_errors_errorType), ("typer/api.ErrLong", laid_typer_api_ErrLong), ("typer/api.ErrDeep", laid_typer_api_ErrDeep), ("typer/api.ErrArg", laid_typer_api_ErrArg), ("typer/api.ErrType", laid_typer_api_ErrType), ("typer/api.ErrBig", laid_typer_api_ErrBig), ("typer/api.ErrFuel", laid_typer_api_ErrFuel), ("typer/api.ErrStopped", laid_typer_api_ErrStopped), ("typer/api.ErrNot", laid_typer_api_ErrNot)], narrowed := true }
def RenamedUptoSaid : Prop := renamedUptoRow.holds Tryz.pinned (OpenSpec.upto renamedSpec)

/-- 'typerkeep.Chain', WHERE WHAT IT READS IS OF BULK AT MOST 1048576: true; the input reads as it did. -/
def chainUptoRow : OpenClaim := { program := "ytcdijppegfcoaabgreatdoor", sum := "17e735094a1a586855df283f0c459f6bd96961be130c6c47c62a000069395c6d", func := "typer/typerkeep.Chain", spec := "chain", inPlace := ["internal/bytealg.IndexByteString", "internal/abi.NoEscape", "internal/bytealg.MakeNoZero", "internal/reflectlite.ValueOf", "(internal/reflectlite.Value).Type", "(internal/reflectlite.Value).IsNil", "internal/reflectlite.TypeOf", "(internal/reflectlite.Value).Elem", "(internal/reflectlite.Value).Set"], unfollowed := true, recurses := true, named := ["typer/api.ErrArg", "typer/api.ErrDeep", "typer/api.ErrLong", "typer/api.ErrBig", "typer/api.ErrType", "internal/strconv.uint64pow10", "math/bits.deBruijn32tab", "math/bits.deBruijn64tab", "typer/api.ErrFuel", "typer/api.ErrStopped", "typer/api.ErrNot", "errors.errorType"], apart := false, laid := [("math/bits.deBruijn32tab", laid_math_bits_deBruijn32tab), ("math/bits.deBruijn64tab", laid_math_bits_deBruijn64tab), ("internal/strconv.uint64pow10", laid_internal_strconv_uint64pow10), ("errors.errorType", laid_errors_errorType), ("typer/api.ErrLong", laid_typer_api_ErrLong), ("typer/api.ErrDeep", laid_typer_api_ErrDeep), ("typer/api.ErrArg", laid_typer_api_ErrArg), ("typer/api.ErrType", laid_typer_api_ErrType), ("typer/api.ErrBig", laid_typer_api_ErrBig), ("typer/api.ErrFuel", laid_typer_api_ErrFuel), ("typer/api.ErrStopped", laid_typer_api_ErrStopped), ("typer/api.ErrNot", laid_typer_api_ErrNot)], narrowed := true }
def ChainUptoSaid : Prop := chainUptoRow.holds Tryz.pinned (OpenSpec.upto chainSpec)

/-- 'typerkeep.Endless', WHERE WHAT IT READS IS OF BULK AT MOST 1048576: true; the input reads as it did. -/
def endlessUptoRow : OpenClaim := { program := "ytcdijppegfcoaabgreatdoor", sum := "17e735094a1a586855df283f0c459f6bd96961be130c6c47c62a000069395c6d", func := "typer/typerkeep.Endless", spec := "endless", inPlace := ["internal/bytealg.IndexByteString", "internal/abi.NoEscape", "internal/bytealg.MakeNoZero", "internal/reflectlite.ValueOf", "(internal/reflectlite.Value).Type", "(internal/reflectlite.Value).IsNil", "internal/reflectlite.TypeOf", "(internal/reflectlite.Value).Elem", "(internal/reflectlite.Value).Set"], unfollowed := true, recurses := true, named := ["typer/api.ErrArg", "typer/api.ErrDeep", "typer/api.ErrLong", "typer/api.ErrBig", "typer/api.ErrType", "internal/strconv.uint64pow10", "math/bits.deBruijn32tab", "math/bits.deBruijn64tab", "typer/api.ErrFuel", "typer/api.ErrStopped", "typer/api.ErrNot", "errors.errorType"], apart := false, laid := [("math/bits.deBruijn32tab", laid_math_bits_deBruijn32tab), ("math/bits.deBruijn64tab", laid_math_bits_deBruijn64tab), ("internal/strconv.uint64pow10", laid_internal_strconv_uint64pow10), ("errors.errorType", laid_errors_errorType), ("typer/api.ErrLong", laid_typer_api_ErrLong), ("typer/api.ErrDeep", laid_typer_api_ErrDeep), ("typer/api.ErrArg", laid_typer_api_ErrArg), ("typer/api.ErrType", laid_typer_api_ErrType), ("typer/api.ErrBig", laid_typer_api_ErrBig), ("typer/api.ErrFuel", laid_typer_api_ErrFuel), ("typer/api.ErrStopped", laid_typer_api_ErrStopped), ("typer/api.ErrNot", laid_typer_api_ErrNot)], narrowed := true }
def EndlessUptoSaid : Prop := endlessUptoRow.holds Tryz.pinned (OpenSpec.upto endlessSpec)

/-- 'typerkeep.Known', WHERE WHAT IT READS IS OF BULK AT MOST 1048576: true; the input reads as it did. -/
def knownUptoRow : OpenClaim := { program := "ytcdijppegfcoaabgreatdoor", sum := "17e735094a1a586855df283f0c459f6bd96961be130c6c47c62a000069395c6d", func := "typer/typerkeep.Known", spec := "known", inPlace := ["internal/bytealg.IndexByteString", "internal/abi.NoEscape", "internal/bytealg.MakeNoZero", "internal/reflectlite.ValueOf", "(internal/reflectlite.Value).Type", "(internal/reflectlite.Value).IsNil", "internal/reflectlite.TypeOf", "(internal/reflectlite.Value).Elem", "(internal/reflectlite.Value).Set"], unfollowed := true, recurses := true, named := ["typer/api.ErrDeep", "typer/api.ErrLong", "typer/api.ErrArg", "typer/api.ErrType", "typer/api.ErrBig", "typer/api.ErrFuel", "typer/api.ErrStopped", "typer/api.ErrNot", "errors.errorType", "internal/strconv.uint64pow10", "math/bits.deBruijn32tab", "math/bits.deBruijn64tab"], apart := false, laid := [("math/bits.deBruijn32tab", laid_math_bits_deBruijn32tab), ("math/bits.deBruijn64tab", laid_math_bits_deBruijn64tab), ("internal/strconv.uint64pow10", laid_internal_strconv_uint64pow10), ("errors.errorType", laid_errors_errorType), ("typer/api.ErrLong", laid_typer_api_ErrLong), ("typer/api.ErrDeep", laid_typer_api_ErrDeep), ("typer/api.ErrArg", laid_typer_api_ErrArg), ("typer/api.ErrType", laid_typer_api_ErrType), ("typer/api.ErrBig", laid_typer_api_ErrBig), ("typer/api.ErrFuel", laid_typer_api_ErrFuel), ("typer/api.ErrStopped", laid_typer_api_ErrStopped), ("typer/api.ErrNot", laid_typer_api_ErrNot)], narrowed := true }
def KnownUptoSaid : Prop := knownUptoRow.holds Tryz.pinned (OpenSpec.upto knownSpec)

/-- 'typerkeep.Refuses', WHERE WHAT IT READS IS OF BULK AT MOST 1048576: true; the input reads as it did. -/
def refusesUptoRow : OpenClaim := { program := "ytcdijppegfcoaabgreatdoor", sum := "17e735094a1a586855df283f0c459f6bd96961be130c6c47c62a000069395c6d", func := "typer/typerkeep.Refuses", spec := "refuses", inPlace := ["internal/bytealg.IndexByteString", "internal/abi.NoEscape", "internal/bytealg.MakeNoZero", "internal/reflectlite.ValueOf", "(internal/reflectlite.Value).Type", "(internal/reflectlite.Value).IsNil", "internal/reflectlite.TypeOf", "(internal/reflectlite.Value).Elem", "(internal/reflectlite.Value).Set"], unfollowed := true, recurses := true, named := ["typer/api.ErrDeep", "typer/api.ErrLong", "typer/api.ErrArg", "typer/api.ErrType", "typer/api.ErrBig", "typer/api.ErrFuel", "typer/api.ErrStopped", "typer/api.ErrNot", "errors.errorType", "internal/strconv.uint64pow10", "math/bits.deBruijn32tab", "math/bits.deBruijn64tab"], apart := false, laid := [("math/bits.deBruijn32tab", laid_math_bits_deBruijn32tab), ("math/bits.deBruijn64tab", laid_math_bits_deBruijn64tab), ("internal/strconv.uint64pow10", laid_internal_strconv_uint64pow10), ("errors.errorType", laid_errors_errorType), ("typer/api.ErrLong", laid_typer_api_ErrLong), ("typer/api.ErrDeep", laid_typer_api_ErrDeep), ("typer/api.ErrArg", laid_typer_api_ErrArg), ("typer/api.ErrType", laid_typer_api_ErrType), ("typer/api.ErrBig", laid_typer_api_ErrBig), ("typer/api.ErrFuel", laid_typer_api_ErrFuel), ("typer/api.ErrStopped", laid_typer_api_ErrStopped), ("typer/api.ErrNot", laid_typer_api_ErrNot)], narrowed := true }
def RefusesUptoSaid : Prop := refusesUptoRow.holds Tryz.pinned (OpenSpec.upto refusesSpec)

end Rows
end Go.Proofs.YtcdijppegfcoaabGreatDoor
