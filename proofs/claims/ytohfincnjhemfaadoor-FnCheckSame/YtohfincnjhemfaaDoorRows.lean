/-
  NARROWER THAN 'FOR EVERY INPUT', by the rows' own cells (each row's printed sentence says how): FnSees: laid · FnTouches: laid · FnCheckNone: laid · FnCheckRight: laid · FnCheckLess: laid · FnCheckBlind: laid · FnCheckKinds: laid · FnCheckGone: laid · FnReadUp: laid · FnCheckSame: laid · FnExactCheckSees: laid · FnExactCheckTouches: laid · FnExactTableText: laid · FnTableText: laid · FnTableMore: laid · FnNewApart: laid.
  DERIVED. THE GIVEN ROWS OF THIS SEAT. 16 by the template 'for every input the law returns true; each argument reads behind the call as it read before'; 0 by the template 'total and deterministic' (their statements: YtohfincnjhemfaaDoorTotals.lean).
  GIVEN WITH THE SEED: the statements are not yours to turn. If you find one false, say at which input.
  Laid BY PROGRAM, IN A SANDBOX (cutbox-rows.mjs): the forced cells as the released guide's own fill.sh prints them over the translation 71132fe19e69febf… (all of the seat's roots in one cut). By AI agents, Wed Nov 11 2026. No macro, syntax, notation, axiom, sorry.
-/
import Derived.Test.YtohfincnjhemfaaDoorChecked
import GoSem.Claim
import GoSem.ClaimJoined
import GoSem.ClaimMapViews
import Derived.JoinedTies
import Derived.KernelRfl
namespace Go.Proofs.YtohfincnjhemfaaDoor
/- THE CELL 'sum', in the pinned program and in every row, IS THE sha256 OF THE DUMP (.gsa) THAT YtohfincnjhemfaaDoorProg.lean LOADS. Nothing in Lean hashes anything: it is a label: what it is worth is what the hold of that sum in a sandbox is worth. -/
noncomputable def Tryd.pinned : Pinned := { name := "ytohfincnjhemfaadoor", sum := "71132fe19e69febf64d2137a1871f583aa9d3c0139536e25fcc73665383b9372", checked := Tryd.checked }
namespace Rows
def none {H : Type} : Left H := { results := [], args := [] }

/- WHAT THE LISTED PACKAGE-LEVEL VARIABLES READ AS WHEN THE CALL BEGINS. Each datum BY PROGRAM (the guide's laid-datum.mjs) off the statement by which the dump's own 'gosem.cut.vars' lays the variable. In a bare row this is a premise. The card (YtohfincnjhemfaaDoorCards.lean) ties it to the program's text. -/
def laid_loop_example_drawbar_impl_kindFields {H : Type} : DataW H := .agg [.agg [.lit (.string []), .agg [.lit (.int .i64 0), .lit (.int .i64 0)], .agg [.lit (.int .i64 0), .lit (.int .i64 0)], .agg [.lit (.int .i64 0), .lit (.int .i64 0)], .agg [.lit (.int .i64 0), .lit (.int .i64 0)], .agg [.lit (.int .i64 0), .lit (.int .i64 0)]], .agg [.lit (.string [112, 97, 103, 101]), .agg [.lit (.int .i64 0), .lit (.int .i64 5)], .agg [.lit (.int .i64 0), .lit (.int .i64 99)], .agg [.lit (.int .i64 0), .lit (.int .i64 0)], .agg [.lit (.int .i64 0), .lit (.int .i64 0)], .agg [.lit (.int .i64 0), .lit (.int .i64 0)]], .agg [.lit (.string [110, 111, 100, 101]), .agg [.lit (.int .i64 0), .lit (.int .i64 5)], .agg [.lit (.int .i64 0), .lit (.int .i64 0)], .agg [.lit (.int .i64 0), .lit (.int .i64 0)], .agg [.lit (.int .i64 4), .lit (.int .i64 4)], .agg [.lit (.int .i64 0), .lit (.int .i64 0)]], .agg [.lit (.string [114, 117, 110]), .agg [.lit (.int .i64 0), .lit (.int .i64 0)], .agg [.lit (.int .i64 (-4)), .lit (.int .i64 99)], .agg [.lit (.int .i64 0), .lit (.int .i64 0)], .agg [.lit (.int .i64 4), .lit (.int .i64 4)], .agg [.lit (.int .i64 0), .lit (.int .i64 0)]], .agg [.lit (.string [112, 105, 112, 101]), .agg [.lit (.int .i64 0), .lit (.int .i64 5)], .agg [.lit (.int .i64 0), .lit (.int .i64 0)], .agg [.lit (.int .i64 0), .lit (.int .i64 0)], .agg [.lit (.int .i64 0), .lit (.int .i64 0)], .agg [.lit (.int .i64 0), .lit (.int .i64 3)]], .agg [.lit (.string [103, 97, 116, 101]), .agg [.lit (.int .i64 0), .lit (.int .i64 0)], .agg [.lit (.int .i64 0), .lit (.int .i64 99)], .agg [.lit (.int .i64 1), .lit (.int .i64 8)], .agg [.lit (.int .i64 0), .lit (.int .i64 0)], .agg [.lit (.int .i64 0), .lit (.int .i64 0)]]]
def laid_errors_errorType {H : Type} : DataW H := .iface "internal/reflectlite.rtype" (.agg [.ptr (.lit (.string [101, 114, 114, 111, 114]))])
def laid_math_bits_deBruijn32tab {H : Type} : DataW H := .agg [.lit (.int .u8 0), .lit (.int .u8 1), .lit (.int .u8 28), .lit (.int .u8 2), .lit (.int .u8 29), .lit (.int .u8 14), .lit (.int .u8 24), .lit (.int .u8 3), .lit (.int .u8 30), .lit (.int .u8 22), .lit (.int .u8 20), .lit (.int .u8 15), .lit (.int .u8 25), .lit (.int .u8 17), .lit (.int .u8 4), .lit (.int .u8 8), .lit (.int .u8 31), .lit (.int .u8 27), .lit (.int .u8 13), .lit (.int .u8 23), .lit (.int .u8 21), .lit (.int .u8 19), .lit (.int .u8 16), .lit (.int .u8 7), .lit (.int .u8 26), .lit (.int .u8 12), .lit (.int .u8 18), .lit (.int .u8 6), .lit (.int .u8 11), .lit (.int .u8 5), .lit (.int .u8 10), .lit (.int .u8 9)]
def laid_math_bits_deBruijn64tab {H : Type} : DataW H := .agg [.lit (.int .u8 0), .lit (.int .u8 1), .lit (.int .u8 56), .lit (.int .u8 2), .lit (.int .u8 57), .lit (.int .u8 49), .lit (.int .u8 28), .lit (.int .u8 3), .lit (.int .u8 61), .lit (.int .u8 58), .lit (.int .u8 42), .lit (.int .u8 50), .lit (.int .u8 38), .lit (.int .u8 29), .lit (.int .u8 17), .lit (.int .u8 4), .lit (.int .u8 62), .lit (.int .u8 47), .lit (.int .u8 59), .lit (.int .u8 36), .lit (.int .u8 45), .lit (.int .u8 43), .lit (.int .u8 51), .lit (.int .u8 22), .lit (.int .u8 53), .lit (.int .u8 39), .lit (.int .u8 33), .lit (.int .u8 30), .lit (.int .u8 24), .lit (.int .u8 18), .lit (.int .u8 12), .lit (.int .u8 5), .lit (.int .u8 63), .lit (.int .u8 55), .lit (.int .u8 48), .lit (.int .u8 27), .lit (.int .u8 60), .lit (.int .u8 41), .lit (.int .u8 37), .lit (.int .u8 16), .lit (.int .u8 46), .lit (.int .u8 35), .lit (.int .u8 44), .lit (.int .u8 21), .lit (.int .u8 52), .lit (.int .u8 32), .lit (.int .u8 23), .lit (.int .u8 11), .lit (.int .u8 54), .lit (.int .u8 26), .lit (.int .u8 40), .lit (.int .u8 15), .lit (.int .u8 34), .lit (.int .u8 20), .lit (.int .u8 31), .lit (.int .u8 10), .lit (.int .u8 25), .lit (.int .u8 14), .lit (.int .u8 19), .lit (.int .u8 9), .lit (.int .u8 13), .lit (.int .u8 8), .lit (.int .u8 7), .lit (.int .u8 6)]
def laid_internal_strconv_uint64pow10 {H : Type} : DataW H := .agg [.lit (.int .u64 1), .lit (.int .u64 10), .lit (.int .u64 100), .lit (.int .u64 1000), .lit (.int .u64 10000), .lit (.int .u64 100000), .lit (.int .u64 1000000), .lit (.int .u64 10000000), .lit (.int .u64 100000000), .lit (.int .u64 1000000000), .lit (.int .u64 10000000000), .lit (.int .u64 100000000000), .lit (.int .u64 1000000000000), .lit (.int .u64 10000000000000), .lit (.int .u64 100000000000000), .lit (.int .u64 1000000000000000), .lit (.int .u64 10000000000000000), .lit (.int .u64 100000000000000000), .lit (.int .u64 1000000000000000000), .lit (.int .u64 10000000000000000000)]

/-- 'laws.FnSees': WHATEVER THE INPUT: true; the input reads as it did. -/
def fnSeesSpec : ChangeSpec := { name := "fnSees", vars := ["loop.example/drawbar/impl.kindFields"], fn := fun _ => fun
  | [d, g1] => { results := [.lit (.bool true)], args := [d], vars := [g1] }
  | _ => none }
def fnSeesRow : OpenClaim := { program := "ytohfincnjhemfaadoor", sum := "71132fe19e69febf64d2137a1871f583aa9d3c0139536e25fcc73665383b9372", func := "loop.example/drawbar/laws.FnSees", spec := "fnSees", unfollowed := true, recurses := true, named := ["loop.example/drawbar/impl.kindFields"], apart := false, laid := [("loop.example/drawbar/impl.kindFields", laid_loop_example_drawbar_impl_kindFields)] }
def FnSeesSaid : Prop := fnSeesRow.holds Tryd.pinned (OpenSpec.ofChange fnSeesSpec)

/-- ITS FALSE NEIGHBOUR: 'it returns false'. Refute it at one input. -/
def fnSeesWrong : ChangeSpec := { name := "fnSees", vars := ["loop.example/drawbar/impl.kindFields"], fn := fun _ => fun
  | [d, g1] => { results := [.lit (.bool false)], args := [d], vars := [g1] }
  | _ => none }
def FnSeesWrongFalsely : Prop := fnSeesRow.holds Tryd.pinned (OpenSpec.ofChange fnSeesWrong)

/-- 'laws.FnTouches': WHATEVER THE INPUT: true; the input reads as it did. -/
def fnTouchesSpec : ChangeSpec := { name := "fnTouches", vars := ["loop.example/drawbar/impl.kindFields"], fn := fun _ => fun
  | [d, g1] => { results := [.lit (.bool true)], args := [d], vars := [g1] }
  | _ => none }
def fnTouchesRow : OpenClaim := { program := "ytohfincnjhemfaadoor", sum := "71132fe19e69febf64d2137a1871f583aa9d3c0139536e25fcc73665383b9372", func := "loop.example/drawbar/laws.FnTouches", spec := "fnTouches", unfollowed := true, recurses := true, named := ["loop.example/drawbar/impl.kindFields"], apart := false, laid := [("loop.example/drawbar/impl.kindFields", laid_loop_example_drawbar_impl_kindFields)] }
def FnTouchesSaid : Prop := fnTouchesRow.holds Tryd.pinned (OpenSpec.ofChange fnTouchesSpec)

/-- ITS FALSE NEIGHBOUR: 'it returns false'. Refute it at one input. -/
def fnTouchesWrong : ChangeSpec := { name := "fnTouches", vars := ["loop.example/drawbar/impl.kindFields"], fn := fun _ => fun
  | [d, g1] => { results := [.lit (.bool false)], args := [d], vars := [g1] }
  | _ => none }
def FnTouchesWrongFalsely : Prop := fnTouchesRow.holds Tryd.pinned (OpenSpec.ofChange fnTouchesWrong)

/-- 'laws.FnCheckNone': WHATEVER THE INPUT: true; the input reads as it did. -/
def fnCheckNoneSpec : ChangeSpec := { name := "fnCheckNone", vars := ["loop.example/drawbar/impl.kindFields"], fn := fun _ => fun
  | [d, g1] => { results := [.lit (.bool true)], args := [d], vars := [g1] }
  | _ => none }
def fnCheckNoneRow : OpenClaim := { program := "ytohfincnjhemfaadoor", sum := "71132fe19e69febf64d2137a1871f583aa9d3c0139536e25fcc73665383b9372", func := "loop.example/drawbar/laws.FnCheckNone", spec := "fnCheckNone", inPlace := ["internal/reflectlite.ValueOf", "(internal/reflectlite.Value).Type", "(internal/reflectlite.Value).IsNil", "internal/reflectlite.TypeOf", "(internal/reflectlite.Value).Elem", "(internal/reflectlite.Value).Set"], unfollowed := true, recurses := true, named := ["loop.example/drawbar/impl.kindFields", "errors.errorType"], apart := false, laid := [("errors.errorType", laid_errors_errorType), ("loop.example/drawbar/impl.kindFields", laid_loop_example_drawbar_impl_kindFields)] }
def FnCheckNoneSaid : Prop := fnCheckNoneRow.holds Tryd.pinned (OpenSpec.ofChange fnCheckNoneSpec)

/-- ITS FALSE NEIGHBOUR: 'it returns false'. Refute it at one input. -/
def fnCheckNoneWrong : ChangeSpec := { name := "fnCheckNone", vars := ["loop.example/drawbar/impl.kindFields"], fn := fun _ => fun
  | [d, g1] => { results := [.lit (.bool false)], args := [d], vars := [g1] }
  | _ => none }
def FnCheckNoneWrongFalsely : Prop := fnCheckNoneRow.holds Tryd.pinned (OpenSpec.ofChange fnCheckNoneWrong)

/-- 'laws.FnCheckRight': WHATEVER THE INPUT: true; the input reads as it did. -/
def fnCheckRightSpec : ChangeSpec := { name := "fnCheckRight", vars := ["loop.example/drawbar/impl.kindFields"], fn := fun _ => fun
  | [d, g1] => { results := [.lit (.bool true)], args := [d], vars := [g1] }
  | _ => none }
def fnCheckRightRow : OpenClaim := { program := "ytohfincnjhemfaadoor", sum := "71132fe19e69febf64d2137a1871f583aa9d3c0139536e25fcc73665383b9372", func := "loop.example/drawbar/laws.FnCheckRight", spec := "fnCheckRight", inPlace := ["internal/reflectlite.ValueOf", "(internal/reflectlite.Value).Type", "(internal/reflectlite.Value).IsNil", "internal/reflectlite.TypeOf", "(internal/reflectlite.Value).Elem", "(internal/reflectlite.Value).Set"], unfollowed := true, recurses := true, named := ["loop.example/drawbar/impl.kindFields", "errors.errorType"], apart := false, laid := [("errors.errorType", laid_errors_errorType), ("loop.example/drawbar/impl.kindFields", laid_loop_example_drawbar_impl_kindFields)] }
def FnCheckRightSaid : Prop := fnCheckRightRow.holds Tryd.pinned (OpenSpec.ofChange fnCheckRightSpec)

/-- ITS FALSE NEIGHBOUR: 'it returns false'. Refute it at one input. -/
def fnCheckRightWrong : ChangeSpec := { name := "fnCheckRight", vars := ["loop.example/drawbar/impl.kindFields"], fn := fun _ => fun
  | [d, g1] => { results := [.lit (.bool false)], args := [d], vars := [g1] }
  | _ => none }
def FnCheckRightWrongFalsely : Prop := fnCheckRightRow.holds Tryd.pinned (OpenSpec.ofChange fnCheckRightWrong)

/-- 'laws.FnCheckLess': WHATEVER THE INPUT: true; the input reads as it did. -/
def fnCheckLessSpec : ChangeSpec := { name := "fnCheckLess", vars := ["loop.example/drawbar/impl.kindFields"], fn := fun _ => fun
  | [d1, d2, g1] => { results := [.lit (.bool true)], args := [d1, d2], vars := [g1] }
  | _ => none }
def fnCheckLessRow : OpenClaim := { program := "ytohfincnjhemfaadoor", sum := "71132fe19e69febf64d2137a1871f583aa9d3c0139536e25fcc73665383b9372", func := "loop.example/drawbar/laws.FnCheckLess", spec := "fnCheckLess", inPlace := ["internal/reflectlite.ValueOf", "(internal/reflectlite.Value).Type", "(internal/reflectlite.Value).IsNil", "internal/reflectlite.TypeOf", "(internal/reflectlite.Value).Elem", "(internal/reflectlite.Value).Set"], unfollowed := true, recurses := true, named := ["loop.example/drawbar/impl.kindFields", "errors.errorType"], apart := false, laid := [("errors.errorType", laid_errors_errorType), ("loop.example/drawbar/impl.kindFields", laid_loop_example_drawbar_impl_kindFields)] }
def FnCheckLessSaid : Prop := fnCheckLessRow.holds Tryd.pinned (OpenSpec.ofChange fnCheckLessSpec)

/-- ITS FALSE NEIGHBOUR: 'it returns false'. Refute it at one input. -/
def fnCheckLessWrong : ChangeSpec := { name := "fnCheckLess", vars := ["loop.example/drawbar/impl.kindFields"], fn := fun _ => fun
  | [d1, d2, g1] => { results := [.lit (.bool false)], args := [d1, d2], vars := [g1] }
  | _ => none }
def FnCheckLessWrongFalsely : Prop := fnCheckLessRow.holds Tryd.pinned (OpenSpec.ofChange fnCheckLessWrong)

/-- 'laws.FnCheckBlind': WHATEVER THE INPUT: true; the input reads as it did. -/
def fnCheckBlindSpec : ChangeSpec := { name := "fnCheckBlind", vars := ["loop.example/drawbar/impl.kindFields"], fn := fun _ => fun
  | [d1, d2, g1] => { results := [.lit (.bool true)], args := [d1, d2], vars := [g1] }
  | _ => none }
def fnCheckBlindRow : OpenClaim := { program := "ytohfincnjhemfaadoor", sum := "71132fe19e69febf64d2137a1871f583aa9d3c0139536e25fcc73665383b9372", func := "loop.example/drawbar/laws.FnCheckBlind", spec := "fnCheckBlind", inPlace := ["internal/reflectlite.ValueOf", "(internal/reflectlite.Value).Type", "(internal/reflectlite.Value).IsNil", "internal/reflectlite.TypeOf", "(internal/reflectlite.Value).Elem", "(internal/reflectlite.Value).Set"], unfollowed := true, recurses := true, named := ["loop.example/drawbar/impl.kindFields", "errors.errorType"], apart := false, laid := [("errors.errorType", laid_errors_errorType), ("loop.example/drawbar/impl.kindFields", laid_loop_example_drawbar_impl_kindFields)] }
def FnCheckBlindSaid : Prop := fnCheckBlindRow.holds Tryd.pinned (OpenSpec.ofChange fnCheckBlindSpec)

/-- ITS FALSE NEIGHBOUR: 'it returns false'. Refute it at one input. -/
def fnCheckBlindWrong : ChangeSpec := { name := "fnCheckBlind", vars := ["loop.example/drawbar/impl.kindFields"], fn := fun _ => fun
  | [d1, d2, g1] => { results := [.lit (.bool false)], args := [d1, d2], vars := [g1] }
  | _ => none }
def FnCheckBlindWrongFalsely : Prop := fnCheckBlindRow.holds Tryd.pinned (OpenSpec.ofChange fnCheckBlindWrong)

/-- 'laws.FnCheckKinds': WHATEVER THE INPUT: true; the input reads as it did. -/
def fnCheckKindsSpec : ChangeSpec := { name := "fnCheckKinds", vars := ["loop.example/drawbar/impl.kindFields"], fn := fun _ => fun
  | [d, g1] => { results := [.lit (.bool true)], args := [d], vars := [g1] }
  | _ => none }
def fnCheckKindsRow : OpenClaim := { program := "ytohfincnjhemfaadoor", sum := "71132fe19e69febf64d2137a1871f583aa9d3c0139536e25fcc73665383b9372", func := "loop.example/drawbar/laws.FnCheckKinds", spec := "fnCheckKinds", inPlace := ["internal/reflectlite.ValueOf", "(internal/reflectlite.Value).Type", "(internal/reflectlite.Value).IsNil", "internal/reflectlite.TypeOf", "(internal/reflectlite.Value).Elem", "(internal/reflectlite.Value).Set"], unfollowed := true, recurses := true, named := ["loop.example/drawbar/impl.kindFields", "errors.errorType"], apart := false, laid := [("errors.errorType", laid_errors_errorType), ("loop.example/drawbar/impl.kindFields", laid_loop_example_drawbar_impl_kindFields)] }
def FnCheckKindsSaid : Prop := fnCheckKindsRow.holds Tryd.pinned (OpenSpec.ofChange fnCheckKindsSpec)

/-- ITS FALSE NEIGHBOUR: 'it returns false'. Refute it at one input. -/
def fnCheckKindsWrong : ChangeSpec := { name := "fnCheckKinds", vars := ["loop.example/drawbar/impl.kindFields"], fn := fun _ => fun
  | [d, g1] => { results := [.lit (.bool false)], args := [d], vars := [g1] }
  | _ => none }
def FnCheckKindsWrongFalsely : Prop := fnCheckKindsRow.holds Tryd.pinned (OpenSpec.ofChange fnCheckKindsWrong)

/-- 'laws.FnCheckGone': WHATEVER THE INPUT: true; the input reads as it did. -/
def fnCheckGoneSpec : ChangeSpec := { name := "fnCheckGone", vars := ["loop.example/drawbar/impl.kindFields"], fn := fun _ => fun
  | [d, g1] => { results := [.lit (.bool true)], args := [d], vars := [g1] }
  | _ => none }
def fnCheckGoneRow : OpenClaim := { program := "ytohfincnjhemfaadoor", sum := "71132fe19e69febf64d2137a1871f583aa9d3c0139536e25fcc73665383b9372", func := "loop.example/drawbar/laws.FnCheckGone", spec := "fnCheckGone", inPlace := ["internal/reflectlite.ValueOf", "(internal/reflectlite.Value).Type", "(internal/reflectlite.Value).IsNil", "internal/reflectlite.TypeOf", "(internal/reflectlite.Value).Elem", "(internal/reflectlite.Value).Set"], unfollowed := true, recurses := true, named := ["loop.example/drawbar/impl.kindFields", "errors.errorType"], apart := false, laid := [("errors.errorType", laid_errors_errorType), ("loop.example/drawbar/impl.kindFields", laid_loop_example_drawbar_impl_kindFields)] }
def FnCheckGoneSaid : Prop := fnCheckGoneRow.holds Tryd.pinned (OpenSpec.ofChange fnCheckGoneSpec)

/-- ITS FALSE NEIGHBOUR: 'it returns false'. Refute it at one input. -/
def fnCheckGoneWrong : ChangeSpec := { name := "fnCheckGone", vars := ["loop.example/drawbar/impl.kindFields"], fn := fun _ => fun
  | [d, g1] => { results := [.lit (.bool false)], args := [d], vars := [g1] }
  | _ => none }
def FnCheckGoneWrongFalsely : Prop := fnCheckGoneRow.holds Tryd.pinned (OpenSpec.ofChange fnCheckGoneWrong)

/-- 'laws.FnReadUp': WHATEVER THE INPUT: true; the input reads as it did. -/
def fnReadUpSpec : ChangeSpec := { name := "fnReadUp", vars := ["loop.example/drawbar/impl.kindFields"], fn := fun _ => fun
  | [d, g1] => { results := [.lit (.bool true)], args := [d], vars := [g1] }
  | _ => none }
def fnReadUpRow : OpenClaim := { program := "ytohfincnjhemfaadoor", sum := "71132fe19e69febf64d2137a1871f583aa9d3c0139536e25fcc73665383b9372", func := "loop.example/drawbar/laws.FnReadUp", spec := "fnReadUp", inPlace := ["internal/reflectlite.ValueOf", "(internal/reflectlite.Value).Type", "(internal/reflectlite.Value).IsNil", "internal/reflectlite.TypeOf", "(internal/reflectlite.Value).Elem", "(internal/reflectlite.Value).Set"], unfollowed := true, recurses := true, named := ["loop.example/drawbar/impl.kindFields", "errors.errorType"], apart := false, laid := [("errors.errorType", laid_errors_errorType), ("loop.example/drawbar/impl.kindFields", laid_loop_example_drawbar_impl_kindFields)] }
def FnReadUpSaid : Prop := fnReadUpRow.holds Tryd.pinned (OpenSpec.ofChange fnReadUpSpec)

/-- ITS FALSE NEIGHBOUR: 'it returns false'. Refute it at one input. -/
def fnReadUpWrong : ChangeSpec := { name := "fnReadUp", vars := ["loop.example/drawbar/impl.kindFields"], fn := fun _ => fun
  | [d, g1] => { results := [.lit (.bool false)], args := [d], vars := [g1] }
  | _ => none }
def FnReadUpWrongFalsely : Prop := fnReadUpRow.holds Tryd.pinned (OpenSpec.ofChange fnReadUpWrong)

/-- 'laws.FnCheckSame': WHATEVER THE INPUT: true; the input reads as it did. -/
def fnCheckSameSpec : ChangeSpec := { name := "fnCheckSame", vars := ["loop.example/drawbar/impl.kindFields"], fn := fun _ => fun
  | [d1, d2, g1] => { results := [.lit (.bool true)], args := [d1, d2], vars := [g1] }
  | _ => none }
def fnCheckSameRow : OpenClaim := { program := "ytohfincnjhemfaadoor", sum := "71132fe19e69febf64d2137a1871f583aa9d3c0139536e25fcc73665383b9372", func := "loop.example/drawbar/laws.FnCheckSame", spec := "fnCheckSame", inPlace := ["internal/reflectlite.ValueOf", "(internal/reflectlite.Value).Type", "(internal/reflectlite.Value).IsNil", "internal/reflectlite.TypeOf", "(internal/reflectlite.Value).Elem", "(internal/reflectlite.Value).Set"], unfollowed := true, recurses := true, named := ["loop.example/drawbar/impl.kindFields", "errors.errorType"], apart := false, laid := [("errors.errorType", laid_errors_errorType), ("loop.example/drawbar/impl.kindFields", laid_loop_example_drawbar_impl_kindFields)] }
def FnCheckSameSaid : Prop := fnCheckSameRow.holds Tryd.pinned (OpenSpec.ofChange fnCheckSameSpec)

/-- ITS FALSE NEIGHBOUR: 'it returns false'. Refute it at one input. -/
def fnCheckSameWrong : ChangeSpec := { name := "fnCheckSame", vars := ["loop.example/drawbar/impl.kindFields"], fn := fun _ => fun
  | [d1, d2, g1] => { results := [.lit (.bool false)], args := [d1, d2], vars := [g1] }
  | _ => none }
def FnCheckSameWrongFalsely : Prop := fnCheckSameRow.holds Tryd.pinned (OpenSpec.ofChange fnCheckSameWrong)

/-- 'laws.FnExactCheckSees': WHATEVER THE INPUT: true; the input reads as it did. -/
def fnExactCheckSeesSpec : ChangeSpec := { name := "fnExactCheckSees", vars := ["loop.example/drawbar/impl.kindFields"], fn := fun _ => fun
  | [d1, d2, d3, g1] => { results := [.lit (.bool true)], args := [d1, d2, d3], vars := [g1] }
  | _ => none }
def fnExactCheckSeesRow : OpenClaim := { program := "ytohfincnjhemfaadoor", sum := "71132fe19e69febf64d2137a1871f583aa9d3c0139536e25fcc73665383b9372", func := "loop.example/drawbar/laws.FnExactCheckSees", spec := "fnExactCheckSees", unfollowed := true, recurses := true, named := ["loop.example/drawbar/impl.kindFields"], apart := false, laid := [("loop.example/drawbar/impl.kindFields", laid_loop_example_drawbar_impl_kindFields)] }
def FnExactCheckSeesSaid : Prop := fnExactCheckSeesRow.holds Tryd.pinned (OpenSpec.ofChange fnExactCheckSeesSpec)

/-- ITS FALSE NEIGHBOUR: 'it returns false'. Refute it at one input. -/
def fnExactCheckSeesWrong : ChangeSpec := { name := "fnExactCheckSees", vars := ["loop.example/drawbar/impl.kindFields"], fn := fun _ => fun
  | [d1, d2, d3, g1] => { results := [.lit (.bool false)], args := [d1, d2, d3], vars := [g1] }
  | _ => none }
def FnExactCheckSeesWrongFalsely : Prop := fnExactCheckSeesRow.holds Tryd.pinned (OpenSpec.ofChange fnExactCheckSeesWrong)

/-- 'laws.FnExactCheckTouches': WHATEVER THE INPUT: true; the input reads as it did. -/
def fnExactCheckTouchesSpec : ChangeSpec := { name := "fnExactCheckTouches", vars := ["loop.example/drawbar/impl.kindFields"], fn := fun _ => fun
  | [d1, d2, d3, g1] => { results := [.lit (.bool true)], args := [d1, d2, d3], vars := [g1] }
  | _ => none }
def fnExactCheckTouchesRow : OpenClaim := { program := "ytohfincnjhemfaadoor", sum := "71132fe19e69febf64d2137a1871f583aa9d3c0139536e25fcc73665383b9372", func := "loop.example/drawbar/laws.FnExactCheckTouches", spec := "fnExactCheckTouches", unfollowed := true, recurses := true, named := ["loop.example/drawbar/impl.kindFields"], apart := false, laid := [("loop.example/drawbar/impl.kindFields", laid_loop_example_drawbar_impl_kindFields)] }
def FnExactCheckTouchesSaid : Prop := fnExactCheckTouchesRow.holds Tryd.pinned (OpenSpec.ofChange fnExactCheckTouchesSpec)

/-- ITS FALSE NEIGHBOUR: 'it returns false'. Refute it at one input. -/
def fnExactCheckTouchesWrong : ChangeSpec := { name := "fnExactCheckTouches", vars := ["loop.example/drawbar/impl.kindFields"], fn := fun _ => fun
  | [d1, d2, d3, g1] => { results := [.lit (.bool false)], args := [d1, d2, d3], vars := [g1] }
  | _ => none }
def FnExactCheckTouchesWrongFalsely : Prop := fnExactCheckTouchesRow.holds Tryd.pinned (OpenSpec.ofChange fnExactCheckTouchesWrong)

/-- 'laws.FnExactTableText': WHATEVER THE INPUT: true; the input reads as it did. -/
def fnExactTableTextSpec : ChangeSpec := { name := "fnExactTableText", vars := ["loop.example/drawbar/impl.kindFields"], fn := fun _ => fun
  | [d, g1] => { results := [.lit (.bool true)], args := [d], vars := [g1] }
  | _ => none }
def fnExactTableTextRow : OpenClaim := { program := "ytohfincnjhemfaadoor", sum := "71132fe19e69febf64d2137a1871f583aa9d3c0139536e25fcc73665383b9372", func := "loop.example/drawbar/laws.FnExactTableText", spec := "fnExactTableText", unfollowed := true, recurses := true, named := ["loop.example/drawbar/impl.kindFields", "internal/strconv.uint64pow10", "math/bits.deBruijn32tab", "math/bits.deBruijn64tab"], apart := false, laid := [("math/bits.deBruijn32tab", laid_math_bits_deBruijn32tab), ("math/bits.deBruijn64tab", laid_math_bits_deBruijn64tab), ("internal/strconv.uint64pow10", laid_internal_strconv_uint64pow10), ("loop.example/drawbar/impl.kindFields", laid_loop_example_drawbar_impl_kindFields)] }
def FnExactTableTextSaid : Prop := fnExactTableTextRow.holds Tryd.pinned (OpenSpec.ofChange fnExactTableTextSpec)

/-- ITS FALSE NEIGHBOUR: 'it returns false'. Refute it at one input. -/
def fnExactTableTextWrong : ChangeSpec := { name := "fnExactTableText", vars := ["loop.example/drawbar/impl.kindFields"], fn := fun _ => fun
  | [d, g1] => { results := [.lit (.bool false)], args := [d], vars := [g1] }
  | _ => none }
def FnExactTableTextWrongFalsely : Prop := fnExactTableTextRow.holds Tryd.pinned (OpenSpec.ofChange fnExactTableTextWrong)

/-- 'laws.FnTableText': WHATEVER THE INPUT: true; the input reads as it did. -/
def fnTableTextSpec : ChangeSpec := { name := "fnTableText", vars := ["loop.example/drawbar/impl.kindFields"], fn := fun _ => fun
  | [d1, d2, g1] => { results := [.lit (.bool true)], args := [d1, d2], vars := [g1] }
  | _ => none }
def fnTableTextRow : OpenClaim := { program := "ytohfincnjhemfaadoor", sum := "71132fe19e69febf64d2137a1871f583aa9d3c0139536e25fcc73665383b9372", func := "loop.example/drawbar/laws.FnTableText", spec := "fnTableText", unfollowed := true, recurses := true, named := ["loop.example/drawbar/impl.kindFields", "internal/strconv.uint64pow10", "math/bits.deBruijn32tab", "math/bits.deBruijn64tab"], apart := false, laid := [("math/bits.deBruijn32tab", laid_math_bits_deBruijn32tab), ("math/bits.deBruijn64tab", laid_math_bits_deBruijn64tab), ("internal/strconv.uint64pow10", laid_internal_strconv_uint64pow10), ("loop.example/drawbar/impl.kindFields", laid_loop_example_drawbar_impl_kindFields)] }
def FnTableTextSaid : Prop := fnTableTextRow.holds Tryd.pinned (OpenSpec.ofChange fnTableTextSpec)

/-- ITS FALSE NEIGHBOUR: 'it returns false'. Refute it at one input. -/
def fnTableTextWrong : ChangeSpec := { name := "fnTableText", vars := ["loop.example/drawbar/impl.kindFields"], fn := fun _ => fun
  | [d1, d2, g1] => { results := [.lit (.bool false)], args := [d1, d2], vars := [g1] }
  | _ => none }
def FnTableTextWrongFalsely : Prop := fnTableTextRow.holds Tryd.pinned (OpenSpec.ofChange fnTableTextWrong)

/-- 'laws.FnTableMore': WHATEVER THE INPUT: true; the input reads as it did. -/
def fnTableMoreSpec : ChangeSpec := { name := "fnTableMore", vars := ["loop.example/drawbar/impl.kindFields"], fn := fun _ => fun
  | [d1, d2, g1] => { results := [.lit (.bool true)], args := [d1, d2], vars := [g1] }
  | _ => none }
def fnTableMoreRow : OpenClaim := { program := "ytohfincnjhemfaadoor", sum := "71132fe19e69febf64d2137a1871f583aa9d3c0139536e25fcc73665383b9372", func := "loop.example/drawbar/laws.FnTableMore", spec := "fnTableMore", unfollowed := true, recurses := true, named := ["loop.example/drawbar/impl.kindFields", "internal/strconv.uint64pow10", "math/bits.deBruijn32tab", "math/bits.deBruijn64tab"], apart := false, laid := [("math/bits.deBruijn32tab", laid_math_bits_deBruijn32tab), ("math/bits.deBruijn64tab", laid_math_bits_deBruijn64tab), ("internal/strconv.uint64pow10", laid_internal_strconv_uint64pow10), ("loop.example/drawbar/impl.kindFields", laid_loop_example_drawbar_impl_kindFields)] }
def FnTableMoreSaid : Prop := fnTableMoreRow.holds Tryd.pinned (OpenSpec.ofChange fnTableMoreSpec)

/-- ITS FALSE NEIGHBOUR: 'it returns false'. Refute it at one input. -/
def fnTableMoreWrong : ChangeSpec := { name := "fnTableMore", vars := ["loop.example/drawbar/impl.kindFields"], fn := fun _ => fun
  | [d1, d2, g1] => { results := [.lit (.bool false)], args := [d1, d2], vars := [g1] }
  | _ => none }
def FnTableMoreWrongFalsely : Prop := fnTableMoreRow.holds Tryd.pinned (OpenSpec.ofChange fnTableMoreWrong)

/-- 'laws.FnNewApart': WHATEVER THE INPUT: true; the input reads as it did. -/
def fnNewApartSpec : ChangeSpec := { name := "fnNewApart", vars := ["loop.example/drawbar/impl.kindFields"], fn := fun _ => fun
  | [d1, d2, g1] => { results := [.lit (.bool true)], args := [d1, d2], vars := [g1] }
  | _ => none }
def fnNewApartRow : OpenClaim := { program := "ytohfincnjhemfaadoor", sum := "71132fe19e69febf64d2137a1871f583aa9d3c0139536e25fcc73665383b9372", func := "loop.example/drawbar/laws.FnNewApart", spec := "fnNewApart", unfollowed := true, recurses := true, named := ["loop.example/drawbar/impl.kindFields", "internal/strconv.uint64pow10", "math/bits.deBruijn32tab", "math/bits.deBruijn64tab"], apart := false, laid := [("math/bits.deBruijn32tab", laid_math_bits_deBruijn32tab), ("math/bits.deBruijn64tab", laid_math_bits_deBruijn64tab), ("internal/strconv.uint64pow10", laid_internal_strconv_uint64pow10), ("loop.example/drawbar/impl.kindFields", laid_loop_example_drawbar_impl_kindFields)] }
def FnNewApartSaid : Prop := fnNewApartRow.holds Tryd.pinned (OpenSpec.ofChange fnNewApartSpec)

/-- ITS FALSE NEIGHBOUR: 'it returns false'. Refute it at one input. -/
def fnNewApartWrong : ChangeSpec := { name := "fnNewApart", vars := ["loop.example/drawbar/impl.kindFields"], fn := fun _ => fun
  | [d1, d2, g1] => { results := [.lit (.bool false)], args := [d1, d2], vars := [g1] }
  | _ => none }
def FnNewApartWrongFalsely : Prop := fnNewApartRow.holds Tryd.pinned (OpenSpec.ofChange fnNewApartWrong)

/- THE SECOND FORM. 'bulk': how many values and letters a reading holds, each counted each time it is reached (what is shared counts as often as it is met; a slice's spare places count too). A statement '..UptoSaid' is the law's where the arguments, and the package variables that the reading takes, are together of bulk at most 1048576: NARROWER than '..Said'. Prove '..Said' where nothing that the law and all that it calls make is longer than what came in: it says more and counts as full. Else prove '..UptoSaid'. A law counts once. -/
mutual
def uptoBulk {H : Type} : DataW H → Nat
  | .lit (.string bytes) => bytes.length + 1
  | .lit _ => 1
  | .nil => 1
  | .ptr d => uptoBulk d + 1
  | .slice elems spare => uptoBulkAll elems + uptoBulkAll spare + 1
  | .agg parts => uptoBulkAll parts + 1
  | .iface _ d => uptoBulk d + 1
  | .map entries => uptoBulkEntries entries + 1
  | .held _ => 1
def uptoBulkAll {H : Type} : List (DataW H) → Nat
  | [] => 0
  | d :: r => uptoBulk d + uptoBulkAll r
def uptoBulkEntries {H : Type} : List (Lit × DataW H) → Nat
  | [] => 0
  | x :: r => uptoBulkEntry x + uptoBulkEntries r
def uptoBulkEntry {H : Type} : Lit × DataW H → Nat
  | (.string bytes, d) => bytes.length + uptoBulk d + 1
  | (_, d) => uptoBulk d + 1
 end
def uptoSmall : (H : Type) → List (DataW H) → Bool := fun _ ds => decide (uptoBulkAll ds ≤ 1048576)
def OpenSpec.upto (s : _root_.Go.ChangeSpec) : _root_.Go.OpenSpec := { _root_.Go.OpenSpec.ofChange s with cond := some uptoSmall }

/-- 'laws.FnSees', WHERE WHAT IT READS IS OF BULK AT MOST 1048576: true; the input reads as it did. -/
def fnSeesUptoRow : OpenClaim := { program := "ytohfincnjhemfaadoor", sum := "71132fe19e69febf64d2137a1871f583aa9d3c0139536e25fcc73665383b9372", func := "loop.example/drawbar/laws.FnSees", spec := "fnSees", unfollowed := true, recurses := true, named := ["loop.example/drawbar/impl.kindFields"], apart := false, laid := [("loop.example/drawbar/impl.kindFields", laid_loop_example_drawbar_impl_kindFields)], narrowed := true }
def FnSeesUptoSaid : Prop := fnSeesUptoRow.holds Tryd.pinned (OpenSpec.upto fnSeesSpec)

/-- 'laws.FnTouches', WHERE WHAT IT READS IS OF BULK AT MOST 1048576: true; the input reads as it did. -/
def fnTouchesUptoRow : OpenClaim := { program := "ytohfincnjhemfaadoor", sum := "71132fe19e69febf64d2137a1871f583aa9d3c0139536e25fcc73665383b9372", func := "loop.example/drawbar/laws.FnTouches", spec := "fnTouches", unfollowed := true, recurses := true, named := ["loop.example/drawbar/impl.kindFields"], apart := false, laid := [("loop.example/drawbar/impl.kindFields", laid_loop_example_drawbar_impl_kindFields)], narrowed := true }
def FnTouchesUptoSaid : Prop := fnTouchesUptoRow.holds Tryd.pinned (OpenSpec.upto fnTouchesSpec)

/-- 'laws.FnCheckNone', WHERE WHAT IT READS IS OF BULK AT MOST 1048576: true; the input reads as it did. -/
def fnCheckNoneUptoRow : OpenClaim := { program := "ytohfincnjhemfaadoor", sum := "71132fe19e69febf64d2137a1871f583aa9d3c0139536e25fcc73665383b9372", func := "loop.example/drawbar/laws.FnCheckNone", spec := "fnCheckNone", inPlace := ["internal/reflectlite.ValueOf", "(internal/reflectlite.Value).Type", "(internal/reflectlite.Value).IsNil", "internal/reflectlite.TypeOf", "(internal/reflectlite.Value).Elem", "(internal/reflectlite.Value).Set"], unfollowed := true, recurses := true, named := ["loop.example/drawbar/impl.kindFields", "errors.errorType"], apart := false, laid := [("errors.errorType", laid_errors_errorType), ("loop.example/drawbar/impl.kindFields", laid_loop_example_drawbar_impl_kindFields)], narrowed := true }
def FnCheckNoneUptoSaid : Prop := fnCheckNoneUptoRow.holds Tryd.pinned (OpenSpec.upto fnCheckNoneSpec)

/-- 'laws.FnCheckRight', WHERE WHAT IT READS IS OF BULK AT MOST 1048576: true; the input reads as it did. -/
def fnCheckRightUptoRow : OpenClaim := { program := "ytohfincnjhemfaadoor", sum := "71132fe19e69febf64d2137a1871f583aa9d3c0139536e25fcc73665383b9372", func := "loop.example/drawbar/laws.FnCheckRight", spec := "fnCheckRight", inPlace := ["internal/reflectlite.ValueOf", "(internal/reflectlite.Value).Type", "(internal/reflectlite.Value).IsNil", "internal/reflectlite.TypeOf", "(internal/reflectlite.Value).Elem", "(internal/reflectlite.Value).Set"], unfollowed := true, recurses := true, named := ["loop.example/drawbar/impl.kindFields", "errors.errorType"], apart := false, laid := [("errors.errorType", laid_errors_errorType), ("loop.example/drawbar/impl.kindFields", laid_loop_example_drawbar_impl_kindFields)], narrowed := true }
def FnCheckRightUptoSaid : Prop := fnCheckRightUptoRow.holds Tryd.pinned (OpenSpec.upto fnCheckRightSpec)

/-- 'laws.FnCheckLess', WHERE WHAT IT READS IS OF BULK AT MOST 1048576: true; the input reads as it did. -/
def fnCheckLessUptoRow : OpenClaim := { program := "ytohfincnjhemfaadoor", sum := "71132fe19e69febf64d2137a1871f583aa9d3c0139536e25fcc73665383b9372", func := "loop.example/drawbar/laws.FnCheckLess", spec := "fnCheckLess", inPlace := ["internal/reflectlite.ValueOf", "(internal/reflectlite.Value).Type", "(internal/reflectlite.Value).IsNil", "internal/reflectlite.TypeOf", "(internal/reflectlite.Value).Elem", "(internal/reflectlite.Value).Set"], unfollowed := true, recurses := true, named := ["loop.example/drawbar/impl.kindFields", "errors.errorType"], apart := false, laid := [("errors.errorType", laid_errors_errorType), ("loop.example/drawbar/impl.kindFields", laid_loop_example_drawbar_impl_kindFields)], narrowed := true }
def FnCheckLessUptoSaid : Prop := fnCheckLessUptoRow.holds Tryd.pinned (OpenSpec.upto fnCheckLessSpec)

/-- 'laws.FnCheckBlind', WHERE WHAT IT READS IS OF BULK AT MOST 1048576: true; the input reads as it did. -/
def fnCheckBlindUptoRow : OpenClaim := { program := "ytohfincnjhemfaadoor", sum := "71132fe19e69febf64d2137a1871f583aa9d3c0139536e25fcc73665383b9372", func := "loop.example/drawbar/laws.FnCheckBlind", spec := "fnCheckBlind", inPlace := ["internal/reflectlite.ValueOf", "(internal/reflectlite.Value).Type", "(internal/reflectlite.Value).IsNil", "internal/reflectlite.TypeOf", "(internal/reflectlite.Value).Elem", "(internal/reflectlite.Value).Set"], unfollowed := true, recurses := true, named := ["loop.example/drawbar/impl.kindFields", "errors.errorType"], apart := false, laid := [("errors.errorType", laid_errors_errorType), ("loop.example/drawbar/impl.kindFields", laid_loop_example_drawbar_impl_kindFields)], narrowed := true }
def FnCheckBlindUptoSaid : Prop := fnCheckBlindUptoRow.holds Tryd.pinned (OpenSpec.upto fnCheckBlindSpec)

/-- 'laws.FnCheckKinds', WHERE WHAT IT READS IS OF BULK AT MOST 1048576: true; the input reads as it did. -/
def fnCheckKindsUptoRow : OpenClaim := { program := "ytohfincnjhemfaadoor", sum := "71132fe19e69febf64d2137a1871f583aa9d3c0139536e25fcc73665383b9372", func := "loop.example/drawbar/laws.FnCheckKinds", spec := "fnCheckKinds", inPlace := ["internal/reflectlite.ValueOf", "(internal/reflectlite.Value).Type", "(internal/reflectlite.Value).IsNil", "internal/reflectlite.TypeOf", "(internal/reflectlite.Value).Elem", "(internal/reflectlite.Value).Set"], unfollowed := true, recurses := true, named := ["loop.example/drawbar/impl.kindFields", "errors.errorType"], apart := false, laid := [("errors.errorType", laid_errors_errorType), ("loop.example/drawbar/impl.kindFields", laid_loop_example_drawbar_impl_kindFields)], narrowed := true }
def FnCheckKindsUptoSaid : Prop := fnCheckKindsUptoRow.holds Tryd.pinned (OpenSpec.upto fnCheckKindsSpec)

/-- 'laws.FnCheckGone', WHERE WHAT IT READS IS OF BULK AT MOST 1048576: true; the input reads as it did. -/
def fnCheckGoneUptoRow : OpenClaim := { program := "ytohfincnjhemfaadoor", sum := "71132fe19e69febf64d2137a1871f583aa9d3c0139536e25fcc73665383b9372", func := "loop.example/drawbar/laws.FnCheckGone", spec := "fnCheckGone", inPlace := ["internal/reflectlite.ValueOf", "(internal/reflectlite.Value).Type", "(internal/reflectlite.Value).IsNil", "internal/reflectlite.TypeOf", "(internal/reflectlite.Value).Elem", "(internal/reflectlite.Value).Set"], unfollowed := true, recurses := true, named := ["loop.example/drawbar/impl.kindFields", "errors.errorType"], apart := false, laid := [("errors.errorType", laid_errors_errorType), ("loop.example/drawbar/impl.kindFields", laid_loop_example_drawbar_impl_kindFields)], narrowed := true }
def FnCheckGoneUptoSaid : Prop := fnCheckGoneUptoRow.holds Tryd.pinned (OpenSpec.upto fnCheckGoneSpec)

/-- 'laws.FnReadUp', WHERE WHAT IT READS IS OF BULK AT MOST 1048576: true; the input reads as it did. -/
def fnReadUpUptoRow : OpenClaim := { program := "ytohfincnjhemfaadoor", sum := "71132fe19e69febf64d2137a1871f583aa9d3c0139536e25fcc73665383b9372", func := "loop.example/drawbar/laws.FnReadUp", spec := "fnReadUp", inPlace := ["internal/reflectlite.ValueOf", "(internal/reflectlite.Value).Type", "(internal/reflectlite.Value).IsNil", "internal/reflectlite.TypeOf", "(internal/reflectlite.Value).Elem", "(internal/reflectlite.Value).Set"], unfollowed := true, recurses := true, named := ["loop.example/drawbar/impl.kindFields", "errors.errorType"], apart := false, laid := [("errors.errorType", laid_errors_errorType), ("loop.example/drawbar/impl.kindFields", laid_loop_example_drawbar_impl_kindFields)], narrowed := true }
def FnReadUpUptoSaid : Prop := fnReadUpUptoRow.holds Tryd.pinned (OpenSpec.upto fnReadUpSpec)

/-- 'laws.FnCheckSame', WHERE WHAT IT READS IS OF BULK AT MOST 1048576: true; the input reads as it did. -/
def fnCheckSameUptoRow : OpenClaim := { program := "ytohfincnjhemfaadoor", sum := "71132fe19e69febf64d2137a1871f583aa9d3c0139536e25fcc73665383b9372", func := "loop.example/drawbar/laws.FnCheckSame", spec := "fnCheckSame", inPlace := ["internal/reflectlite.ValueOf", "(internal/reflectlite.Value).Type", "(internal/reflectlite.Value).IsNil", "internal/reflectlite.TypeOf", "(internal/reflectlite.Value).Elem", "(internal/reflectlite.Value).Set"], unfollowed := true, recurses := true, named := ["loop.example/drawbar/impl.kindFields", "errors.errorType"], apart := false, laid := [("errors.errorType", laid_errors_errorType), ("loop.example/drawbar/impl.kindFields", laid_loop_example_drawbar_impl_kindFields)], narrowed := true }
def FnCheckSameUptoSaid : Prop := fnCheckSameUptoRow.holds Tryd.pinned (OpenSpec.upto fnCheckSameSpec)

/-- 'laws.FnExactCheckSees', WHERE WHAT IT READS IS OF BULK AT MOST 1048576: true; the input reads as it did. -/
def fnExactCheckSeesUptoRow : OpenClaim := { program := "ytohfincnjhemfaadoor", sum := "71132fe19e69febf64d2137a1871f583aa9d3c0139536e25fcc73665383b9372", func := "loop.example/drawbar/laws.FnExactCheckSees", spec := "fnExactCheckSees", unfollowed := true, recurses := true, named := ["loop.example/drawbar/impl.kindFields"], apart := false, laid := [("loop.example/drawbar/impl.kindFields", laid_loop_example_drawbar_impl_kindFields)], narrowed := true }
def FnExactCheckSeesUptoSaid : Prop := fnExactCheckSeesUptoRow.holds Tryd.pinned (OpenSpec.upto fnExactCheckSeesSpec)

/-- 'laws.FnExactCheckTouches', WHERE WHAT IT READS IS OF BULK AT MOST 1048576: true; the input reads as it did. -/
def fnExactCheckTouchesUptoRow : OpenClaim := { program := "ytohfincnjhemfaadoor", sum := "71132fe19e69febf64d2137a1871f583aa9d3c0139536e25fcc73665383b9372", func := "loop.example/drawbar/laws.FnExactCheckTouches", spec := "fnExactCheckTouches", unfollowed := true, recurses := true, named := ["loop.example/drawbar/impl.kindFields"], apart := false, laid := [("loop.example/drawbar/impl.kindFields", laid_loop_example_drawbar_impl_kindFields)], narrowed := true }
def FnExactCheckTouchesUptoSaid : Prop := fnExactCheckTouchesUptoRow.holds Tryd.pinned (OpenSpec.upto fnExactCheckTouchesSpec)

/-- 'laws.FnExactTableText', WHERE WHAT IT READS IS OF BULK AT MOST 1048576: true; the input reads as it did. -/
def fnExactTableTextUptoRow : OpenClaim := { program := "ytohfincnjhemfaadoor", sum := "71132fe19e69febf64d2137a1871f583aa9d3c0139536e25fcc73665383b9372", func := "loop.example/drawbar/laws.FnExactTableText", spec := "fnExactTableText", unfollowed := true, recurses := true, named := ["loop.example/drawbar/impl.kindFields", "internal/strconv.uint64pow10", "math/bits.deBruijn32tab", "math/bits.deBruijn64tab"], apart := false, laid := [("math/bits.deBruijn32tab", laid_math_bits_deBruijn32tab), ("math/bits.deBruijn64tab", laid_math_bits_deBruijn64tab), ("internal/strconv.uint64pow10", laid_internal_strconv_uint64pow10), ("loop.example/drawbar/impl.kindFields", laid_loop_example_drawbar_impl_kindFields)], narrowed := true }
def FnExactTableTextUptoSaid : Prop := fnExactTableTextUptoRow.holds Tryd.pinned (OpenSpec.upto fnExactTableTextSpec)

/-- 'laws.FnTableText', WHERE WHAT IT READS IS OF BULK AT MOST 1048576: true; the input reads as it did. -/
def fnTableTextUptoRow : OpenClaim := { program := "ytohfincnjhemfaadoor", sum := "71132fe19e69febf64d2137a1871f583aa9d3c0139536e25fcc73665383b9372", func := "loop.example/drawbar/laws.FnTableText", spec := "fnTableText", unfollowed := true, recurses := true, named := ["loop.example/drawbar/impl.kindFields", "internal/strconv.uint64pow10", "math/bits.deBruijn32tab", "math/bits.deBruijn64tab"], apart := false, laid := [("math/bits.deBruijn32tab", laid_math_bits_deBruijn32tab), ("math/bits.deBruijn64tab", laid_math_bits_deBruijn64tab), ("internal/strconv.uint64pow10", laid_internal_strconv_uint64pow10), ("loop.example/drawbar/impl.kindFields", laid_loop_example_drawbar_impl_kindFields)], narrowed := true }
def FnTableTextUptoSaid : Prop := fnTableTextUptoRow.holds Tryd.pinned (OpenSpec.upto fnTableTextSpec)

/-- 'laws.FnTableMore', WHERE WHAT IT READS IS OF BULK AT MOST 1048576: true; the input reads as it did. -/
def fnTableMoreUptoRow : OpenClaim := { program := "ytohfincnjhemfaadoor", sum := "71132fe19e69febf64d2137a1871f583aa9d3c0139536e25fcc73665383b9372", func := "loop.example/drawbar/laws.FnTableMore", spec := "fnTableMore", unfollowed := true, recurses := true, named := ["loop.example/drawbar/impl.kindFields", "internal/strconv.uint64pow10", "math/bits.deBruijn32tab", "math/bits.deBruijn64tab"], apart := false, laid := [("math/bits.deBruijn32tab", laid_math_bits_deBruijn32tab), ("math/bits.deBruijn64tab", laid_math_bits_deBruijn64tab), ("internal/strconv.uint64pow10", laid_internal_strconv_uint64pow10), ("loop.example/drawbar/impl.kindFields", laid_loop_example_drawbar_impl_kindFields)], narrowed := true }
def FnTableMoreUptoSaid : Prop := fnTableMoreUptoRow.holds Tryd.pinned (OpenSpec.upto fnTableMoreSpec)

/-- 'laws.FnNewApart', WHERE WHAT IT READS IS OF BULK AT MOST 1048576: true; the input reads as it did. -/
def fnNewApartUptoRow : OpenClaim := { program := "ytohfincnjhemfaadoor", sum := "71132fe19e69febf64d2137a1871f583aa9d3c0139536e25fcc73665383b9372", func := "loop.example/drawbar/laws.FnNewApart", spec := "fnNewApart", unfollowed := true, recurses := true, named := ["loop.example/drawbar/impl.kindFields", "internal/strconv.uint64pow10", "math/bits.deBruijn32tab", "math/bits.deBruijn64tab"], apart := false, laid := [("math/bits.deBruijn32tab", laid_math_bits_deBruijn32tab), ("math/bits.deBruijn64tab", laid_math_bits_deBruijn64tab), ("internal/strconv.uint64pow10", laid_internal_strconv_uint64pow10), ("loop.example/drawbar/impl.kindFields", laid_loop_example_drawbar_impl_kindFields)], narrowed := true }
def FnNewApartUptoSaid : Prop := fnNewApartUptoRow.holds Tryd.pinned (OpenSpec.upto fnNewApartSpec)

end Rows
end Go.Proofs.YtohfincnjhemfaaDoor
