/-
  NARROWER THAN 'FOR EVERY INPUT', by the rows' own cells (each row's printed sentence says how): FnDoSend: laid · FnDoTake: laid · FnDoRenew: laid · FnDoGate: laid · FnTakeSent: laid · FnWriteRead: laid · FnSendTwo: laid · FnStoreFetch: laid · FnRenewTwice: laid · FnDoTwo: laid · FnCopySame: laid · FnGateTwice: laid · FnReadTwice: laid · FnWriteTwo: laid · FnPageOnly: laid · FnWeakChain: laid · FnNumberKept: laid.
  DERIVED. THE GIVEN ROWS OF THIS SEAT. 17 by the template 'for every input the law returns true; each argument reads behind the call as it read before'; 0 by the template 'total and deterministic' (their statements: YtbopficnajdaoaaGreatDoorTotals.lean).
  GIVEN WITH THE SEED: the statements are not yours to turn. If you find one false, say at which input.
  Laid BY PROGRAM, IN A SANDBOX (cutbox-rows.mjs): the forced cells as the released guide's own fill.sh prints them over the translation ec8385af2d420eb1… (all of the seat's roots in one cut). By AI agents, Wed Nov 11 2026. No macro, syntax, notation, axiom, sorry.
-/
import Derived.Test.YtbopficnajdaoaaGreatDoorChecked
import GoSem.Claim
import GoSem.ClaimJoined
import GoSem.ClaimMapViews
import Derived.JoinedTies
import Derived.KernelRfl
namespace Go.Proofs.YtbopficnajdaoaaGreatDoor
/- THE CELL 'sum', in the pinned program and in every row, IS THE sha256 OF THE DUMP (.gsa) THAT YtbopficnajdaoaaGreatDoorProg.lean LOADS. Nothing in Lean hashes anything: it is a label: what it is worth is what the hold of that sum in a sandbox is worth. -/
noncomputable def Tryz.pinned : Pinned := { name := "ytbopficnajdaoaagreatdoor", sum := "ec8385af2d420eb1781b1a65bc24d82f2a66cae5e7f42521f9c06b47b3130c1a", checked := Tryz.checked }
namespace Rows
def none {H : Type} : Left H := { results := [], args := [] }

/- WHAT THE LISTED PACKAGE-LEVEL VARIABLES READ AS WHEN THE CALL BEGINS. Each datum BY PROGRAM (the guide's laid-datum.mjs) off the statement by which the dump's own 'gosem.cut.vars' lays the variable. In a bare row this is a premise. The card (YtbopficnajdaoaaGreatDoorCards.lean) ties it to the program's text. -/
def laid_errors_errorType {H : Type} : DataW H := .iface "internal/reflectlite.rtype" (.agg [.ptr (.lit (.string [101, 114, 114, 111, 114]))])
def laid_loop_example_drawbar_impl_kindFields {H : Type} : DataW H := .agg [.agg [.lit (.string []), .agg [.lit (.int .i64 0), .lit (.int .i64 0)], .agg [.lit (.int .i64 0), .lit (.int .i64 0)], .agg [.lit (.int .i64 0), .lit (.int .i64 0)], .agg [.lit (.int .i64 0), .lit (.int .i64 0)], .agg [.lit (.int .i64 0), .lit (.int .i64 0)]], .agg [.lit (.string [112, 97, 103, 101]), .agg [.lit (.int .i64 0), .lit (.int .i64 5)], .agg [.lit (.int .i64 0), .lit (.int .i64 99)], .agg [.lit (.int .i64 0), .lit (.int .i64 0)], .agg [.lit (.int .i64 0), .lit (.int .i64 0)], .agg [.lit (.int .i64 0), .lit (.int .i64 0)]], .agg [.lit (.string [110, 111, 100, 101]), .agg [.lit (.int .i64 0), .lit (.int .i64 5)], .agg [.lit (.int .i64 0), .lit (.int .i64 0)], .agg [.lit (.int .i64 0), .lit (.int .i64 0)], .agg [.lit (.int .i64 4), .lit (.int .i64 4)], .agg [.lit (.int .i64 0), .lit (.int .i64 0)]], .agg [.lit (.string [114, 117, 110]), .agg [.lit (.int .i64 0), .lit (.int .i64 0)], .agg [.lit (.int .i64 (-4)), .lit (.int .i64 99)], .agg [.lit (.int .i64 0), .lit (.int .i64 0)], .agg [.lit (.int .i64 4), .lit (.int .i64 4)], .agg [.lit (.int .i64 0), .lit (.int .i64 0)]], .agg [.lit (.string [112, 105, 112, 101]), .agg [.lit (.int .i64 0), .lit (.int .i64 5)], .agg [.lit (.int .i64 0), .lit (.int .i64 0)], .agg [.lit (.int .i64 0), .lit (.int .i64 0)], .agg [.lit (.int .i64 0), .lit (.int .i64 0)], .agg [.lit (.int .i64 0), .lit (.int .i64 3)]], .agg [.lit (.string [103, 97, 116, 101]), .agg [.lit (.int .i64 0), .lit (.int .i64 0)], .agg [.lit (.int .i64 0), .lit (.int .i64 99)], .agg [.lit (.int .i64 1), .lit (.int .i64 8)], .agg [.lit (.int .i64 0), .lit (.int .i64 0)], .agg [.lit (.int .i64 0), .lit (.int .i64 0)]]]

/-- 'laws.FnDoSend': WHATEVER THE INPUT: true; the input reads as it did. -/
def fnDoSendSpec : ChangeSpec := { name := "fnDoSend", vars := ["loop.example/drawbar/impl.kindFields"], fn := fun _ => fun
  | [d, g1] => { results := [.lit (.bool true)], args := [d], vars := [g1] }
  | _ => none }
def fnDoSendRow : OpenClaim := { program := "ytbopficnajdaoaagreatdoor", sum := "ec8385af2d420eb1781b1a65bc24d82f2a66cae5e7f42521f9c06b47b3130c1a", func := "loop.example/drawbar/laws.FnDoSend", spec := "fnDoSend", inPlace := ["internal/reflectlite.ValueOf", "(internal/reflectlite.Value).Type", "(internal/reflectlite.Value).IsNil", "internal/reflectlite.TypeOf", "(internal/reflectlite.Value).Elem", "(internal/reflectlite.Value).Set"], unfollowed := true, recurses := true, named := ["loop.example/drawbar/impl.kindFields", "errors.errorType"], apart := false, laid := [("errors.errorType", laid_errors_errorType), ("loop.example/drawbar/impl.kindFields", laid_loop_example_drawbar_impl_kindFields)] }
def FnDoSendSaid : Prop := fnDoSendRow.holds Tryz.pinned (OpenSpec.ofChange fnDoSendSpec)

/-- ITS FALSE NEIGHBOUR: 'it returns false'. Refute it at one input. -/
def fnDoSendWrong : ChangeSpec := { name := "fnDoSend", vars := ["loop.example/drawbar/impl.kindFields"], fn := fun _ => fun
  | [d, g1] => { results := [.lit (.bool false)], args := [d], vars := [g1] }
  | _ => none }
def FnDoSendWrongFalsely : Prop := fnDoSendRow.holds Tryz.pinned (OpenSpec.ofChange fnDoSendWrong)

/-- 'laws.FnDoTake': WHATEVER THE INPUT: true; the input reads as it did. -/
def fnDoTakeSpec : ChangeSpec := { name := "fnDoTake", vars := ["loop.example/drawbar/impl.kindFields"], fn := fun _ => fun
  | [d, g1] => { results := [.lit (.bool true)], args := [d], vars := [g1] }
  | _ => none }
def fnDoTakeRow : OpenClaim := { program := "ytbopficnajdaoaagreatdoor", sum := "ec8385af2d420eb1781b1a65bc24d82f2a66cae5e7f42521f9c06b47b3130c1a", func := "loop.example/drawbar/laws.FnDoTake", spec := "fnDoTake", inPlace := ["internal/reflectlite.ValueOf", "(internal/reflectlite.Value).Type", "(internal/reflectlite.Value).IsNil", "internal/reflectlite.TypeOf", "(internal/reflectlite.Value).Elem", "(internal/reflectlite.Value).Set"], unfollowed := true, recurses := true, named := ["loop.example/drawbar/impl.kindFields", "errors.errorType"], apart := false, laid := [("errors.errorType", laid_errors_errorType), ("loop.example/drawbar/impl.kindFields", laid_loop_example_drawbar_impl_kindFields)] }
def FnDoTakeSaid : Prop := fnDoTakeRow.holds Tryz.pinned (OpenSpec.ofChange fnDoTakeSpec)

/-- ITS FALSE NEIGHBOUR: 'it returns false'. Refute it at one input. -/
def fnDoTakeWrong : ChangeSpec := { name := "fnDoTake", vars := ["loop.example/drawbar/impl.kindFields"], fn := fun _ => fun
  | [d, g1] => { results := [.lit (.bool false)], args := [d], vars := [g1] }
  | _ => none }
def FnDoTakeWrongFalsely : Prop := fnDoTakeRow.holds Tryz.pinned (OpenSpec.ofChange fnDoTakeWrong)

/-- 'laws.FnDoRenew': WHATEVER THE INPUT: true; the input reads as it did. -/
def fnDoRenewSpec : ChangeSpec := { name := "fnDoRenew", vars := ["loop.example/drawbar/impl.kindFields"], fn := fun _ => fun
  | [d, g1] => { results := [.lit (.bool true)], args := [d], vars := [g1] }
  | _ => none }
def fnDoRenewRow : OpenClaim := { program := "ytbopficnajdaoaagreatdoor", sum := "ec8385af2d420eb1781b1a65bc24d82f2a66cae5e7f42521f9c06b47b3130c1a", func := "loop.example/drawbar/laws.FnDoRenew", spec := "fnDoRenew", inPlace := ["internal/reflectlite.ValueOf", "(internal/reflectlite.Value).Type", "(internal/reflectlite.Value).IsNil", "internal/reflectlite.TypeOf", "(internal/reflectlite.Value).Elem", "(internal/reflectlite.Value).Set"], unfollowed := true, recurses := true, named := ["loop.example/drawbar/impl.kindFields", "errors.errorType"], apart := false, laid := [("errors.errorType", laid_errors_errorType), ("loop.example/drawbar/impl.kindFields", laid_loop_example_drawbar_impl_kindFields)] }
def FnDoRenewSaid : Prop := fnDoRenewRow.holds Tryz.pinned (OpenSpec.ofChange fnDoRenewSpec)

/-- ITS FALSE NEIGHBOUR: 'it returns false'. Refute it at one input. -/
def fnDoRenewWrong : ChangeSpec := { name := "fnDoRenew", vars := ["loop.example/drawbar/impl.kindFields"], fn := fun _ => fun
  | [d, g1] => { results := [.lit (.bool false)], args := [d], vars := [g1] }
  | _ => none }
def FnDoRenewWrongFalsely : Prop := fnDoRenewRow.holds Tryz.pinned (OpenSpec.ofChange fnDoRenewWrong)

/-- 'laws.FnDoGate': WHATEVER THE INPUT: true; the input reads as it did. -/
def fnDoGateSpec : ChangeSpec := { name := "fnDoGate", vars := ["loop.example/drawbar/impl.kindFields"], fn := fun _ => fun
  | [d, g1] => { results := [.lit (.bool true)], args := [d], vars := [g1] }
  | _ => none }
def fnDoGateRow : OpenClaim := { program := "ytbopficnajdaoaagreatdoor", sum := "ec8385af2d420eb1781b1a65bc24d82f2a66cae5e7f42521f9c06b47b3130c1a", func := "loop.example/drawbar/laws.FnDoGate", spec := "fnDoGate", inPlace := ["internal/reflectlite.ValueOf", "(internal/reflectlite.Value).Type", "(internal/reflectlite.Value).IsNil", "internal/reflectlite.TypeOf", "(internal/reflectlite.Value).Elem", "(internal/reflectlite.Value).Set"], unfollowed := true, recurses := true, named := ["loop.example/drawbar/impl.kindFields", "errors.errorType"], apart := false, laid := [("errors.errorType", laid_errors_errorType), ("loop.example/drawbar/impl.kindFields", laid_loop_example_drawbar_impl_kindFields)] }
def FnDoGateSaid : Prop := fnDoGateRow.holds Tryz.pinned (OpenSpec.ofChange fnDoGateSpec)

/-- ITS FALSE NEIGHBOUR: 'it returns false'. Refute it at one input. -/
def fnDoGateWrong : ChangeSpec := { name := "fnDoGate", vars := ["loop.example/drawbar/impl.kindFields"], fn := fun _ => fun
  | [d, g1] => { results := [.lit (.bool false)], args := [d], vars := [g1] }
  | _ => none }
def FnDoGateWrongFalsely : Prop := fnDoGateRow.holds Tryz.pinned (OpenSpec.ofChange fnDoGateWrong)

/-- 'laws.FnTakeSent': WHATEVER THE INPUT: true; the input reads as it did. -/
def fnTakeSentSpec : ChangeSpec := { name := "fnTakeSent", vars := ["loop.example/drawbar/impl.kindFields"], fn := fun _ => fun
  | [d1, d2, g1] => { results := [.lit (.bool true)], args := [d1, d2], vars := [g1] }
  | _ => none }
def fnTakeSentRow : OpenClaim := { program := "ytbopficnajdaoaagreatdoor", sum := "ec8385af2d420eb1781b1a65bc24d82f2a66cae5e7f42521f9c06b47b3130c1a", func := "loop.example/drawbar/laws.FnTakeSent", spec := "fnTakeSent", inPlace := ["internal/reflectlite.ValueOf", "(internal/reflectlite.Value).Type", "(internal/reflectlite.Value).IsNil", "internal/reflectlite.TypeOf", "(internal/reflectlite.Value).Elem", "(internal/reflectlite.Value).Set"], unfollowed := true, recurses := true, named := ["loop.example/drawbar/impl.kindFields", "errors.errorType"], apart := false, laid := [("errors.errorType", laid_errors_errorType), ("loop.example/drawbar/impl.kindFields", laid_loop_example_drawbar_impl_kindFields)] }
def FnTakeSentSaid : Prop := fnTakeSentRow.holds Tryz.pinned (OpenSpec.ofChange fnTakeSentSpec)

/-- ITS FALSE NEIGHBOUR: 'it returns false'. Refute it at one input. -/
def fnTakeSentWrong : ChangeSpec := { name := "fnTakeSent", vars := ["loop.example/drawbar/impl.kindFields"], fn := fun _ => fun
  | [d1, d2, g1] => { results := [.lit (.bool false)], args := [d1, d2], vars := [g1] }
  | _ => none }
def FnTakeSentWrongFalsely : Prop := fnTakeSentRow.holds Tryz.pinned (OpenSpec.ofChange fnTakeSentWrong)

/-- 'laws.FnWriteRead': WHATEVER THE INPUT: true; the input reads as it did. -/
def fnWriteReadSpec : ChangeSpec := { name := "fnWriteRead", vars := ["loop.example/drawbar/impl.kindFields"], fn := fun _ => fun
  | [d1, d2, g1] => { results := [.lit (.bool true)], args := [d1, d2], vars := [g1] }
  | _ => none }
def fnWriteReadRow : OpenClaim := { program := "ytbopficnajdaoaagreatdoor", sum := "ec8385af2d420eb1781b1a65bc24d82f2a66cae5e7f42521f9c06b47b3130c1a", func := "loop.example/drawbar/laws.FnWriteRead", spec := "fnWriteRead", inPlace := ["internal/reflectlite.ValueOf", "(internal/reflectlite.Value).Type", "(internal/reflectlite.Value).IsNil", "internal/reflectlite.TypeOf", "(internal/reflectlite.Value).Elem", "(internal/reflectlite.Value).Set"], unfollowed := true, recurses := true, named := ["loop.example/drawbar/impl.kindFields", "errors.errorType"], apart := false, laid := [("errors.errorType", laid_errors_errorType), ("loop.example/drawbar/impl.kindFields", laid_loop_example_drawbar_impl_kindFields)] }
def FnWriteReadSaid : Prop := fnWriteReadRow.holds Tryz.pinned (OpenSpec.ofChange fnWriteReadSpec)

/-- ITS FALSE NEIGHBOUR: 'it returns false'. Refute it at one input. -/
def fnWriteReadWrong : ChangeSpec := { name := "fnWriteRead", vars := ["loop.example/drawbar/impl.kindFields"], fn := fun _ => fun
  | [d1, d2, g1] => { results := [.lit (.bool false)], args := [d1, d2], vars := [g1] }
  | _ => none }
def FnWriteReadWrongFalsely : Prop := fnWriteReadRow.holds Tryz.pinned (OpenSpec.ofChange fnWriteReadWrong)

/-- 'laws.FnSendTwo': WHATEVER THE INPUT: true; the input reads as it did. -/
def fnSendTwoSpec : ChangeSpec := { name := "fnSendTwo", vars := ["loop.example/drawbar/impl.kindFields"], fn := fun _ => fun
  | [d1, d2, g1] => { results := [.lit (.bool true)], args := [d1, d2], vars := [g1] }
  | _ => none }
def fnSendTwoRow : OpenClaim := { program := "ytbopficnajdaoaagreatdoor", sum := "ec8385af2d420eb1781b1a65bc24d82f2a66cae5e7f42521f9c06b47b3130c1a", func := "loop.example/drawbar/laws.FnSendTwo", spec := "fnSendTwo", inPlace := ["internal/reflectlite.ValueOf", "(internal/reflectlite.Value).Type", "(internal/reflectlite.Value).IsNil", "internal/reflectlite.TypeOf", "(internal/reflectlite.Value).Elem", "(internal/reflectlite.Value).Set"], unfollowed := true, recurses := true, named := ["loop.example/drawbar/impl.kindFields", "errors.errorType"], apart := false, laid := [("errors.errorType", laid_errors_errorType), ("loop.example/drawbar/impl.kindFields", laid_loop_example_drawbar_impl_kindFields)] }
def FnSendTwoSaid : Prop := fnSendTwoRow.holds Tryz.pinned (OpenSpec.ofChange fnSendTwoSpec)

/-- ITS FALSE NEIGHBOUR: 'it returns false'. Refute it at one input. -/
def fnSendTwoWrong : ChangeSpec := { name := "fnSendTwo", vars := ["loop.example/drawbar/impl.kindFields"], fn := fun _ => fun
  | [d1, d2, g1] => { results := [.lit (.bool false)], args := [d1, d2], vars := [g1] }
  | _ => none }
def FnSendTwoWrongFalsely : Prop := fnSendTwoRow.holds Tryz.pinned (OpenSpec.ofChange fnSendTwoWrong)

/-- 'laws.FnStoreFetch': WHATEVER THE INPUT: true; the input reads as it did. -/
def fnStoreFetchSpec : ChangeSpec := { name := "fnStoreFetch", vars := ["loop.example/drawbar/impl.kindFields"], fn := fun _ => fun
  | [d1, d2, g1] => { results := [.lit (.bool true)], args := [d1, d2], vars := [g1] }
  | _ => none }
def fnStoreFetchRow : OpenClaim := { program := "ytbopficnajdaoaagreatdoor", sum := "ec8385af2d420eb1781b1a65bc24d82f2a66cae5e7f42521f9c06b47b3130c1a", func := "loop.example/drawbar/laws.FnStoreFetch", spec := "fnStoreFetch", inPlace := ["internal/reflectlite.ValueOf", "(internal/reflectlite.Value).Type", "(internal/reflectlite.Value).IsNil", "internal/reflectlite.TypeOf", "(internal/reflectlite.Value).Elem", "(internal/reflectlite.Value).Set"], unfollowed := true, recurses := true, named := ["loop.example/drawbar/impl.kindFields", "errors.errorType"], apart := false, laid := [("errors.errorType", laid_errors_errorType), ("loop.example/drawbar/impl.kindFields", laid_loop_example_drawbar_impl_kindFields)] }
def FnStoreFetchSaid : Prop := fnStoreFetchRow.holds Tryz.pinned (OpenSpec.ofChange fnStoreFetchSpec)

/-- ITS FALSE NEIGHBOUR: 'it returns false'. Refute it at one input. -/
def fnStoreFetchWrong : ChangeSpec := { name := "fnStoreFetch", vars := ["loop.example/drawbar/impl.kindFields"], fn := fun _ => fun
  | [d1, d2, g1] => { results := [.lit (.bool false)], args := [d1, d2], vars := [g1] }
  | _ => none }
def FnStoreFetchWrongFalsely : Prop := fnStoreFetchRow.holds Tryz.pinned (OpenSpec.ofChange fnStoreFetchWrong)

/-- 'laws.FnRenewTwice': WHATEVER THE INPUT: true; the input reads as it did. -/
def fnRenewTwiceSpec : ChangeSpec := { name := "fnRenewTwice", vars := ["loop.example/drawbar/impl.kindFields"], fn := fun _ => fun
  | [d, g1] => { results := [.lit (.bool true)], args := [d], vars := [g1] }
  | _ => none }
def fnRenewTwiceRow : OpenClaim := { program := "ytbopficnajdaoaagreatdoor", sum := "ec8385af2d420eb1781b1a65bc24d82f2a66cae5e7f42521f9c06b47b3130c1a", func := "loop.example/drawbar/laws.FnRenewTwice", spec := "fnRenewTwice", inPlace := ["internal/reflectlite.ValueOf", "(internal/reflectlite.Value).Type", "(internal/reflectlite.Value).IsNil", "internal/reflectlite.TypeOf", "(internal/reflectlite.Value).Elem", "(internal/reflectlite.Value).Set"], unfollowed := true, recurses := true, named := ["loop.example/drawbar/impl.kindFields", "errors.errorType"], apart := false, laid := [("errors.errorType", laid_errors_errorType), ("loop.example/drawbar/impl.kindFields", laid_loop_example_drawbar_impl_kindFields)] }
def FnRenewTwiceSaid : Prop := fnRenewTwiceRow.holds Tryz.pinned (OpenSpec.ofChange fnRenewTwiceSpec)

/-- ITS FALSE NEIGHBOUR: 'it returns false'. Refute it at one input. -/
def fnRenewTwiceWrong : ChangeSpec := { name := "fnRenewTwice", vars := ["loop.example/drawbar/impl.kindFields"], fn := fun _ => fun
  | [d, g1] => { results := [.lit (.bool false)], args := [d], vars := [g1] }
  | _ => none }
def FnRenewTwiceWrongFalsely : Prop := fnRenewTwiceRow.holds Tryz.pinned (OpenSpec.ofChange fnRenewTwiceWrong)

/-- 'laws.FnDoTwo': WHATEVER THE INPUT: true; the input reads as it did. -/
def fnDoTwoSpec : ChangeSpec := { name := "fnDoTwo", vars := ["loop.example/drawbar/impl.kindFields"], fn := fun _ => fun
  | [d1, d2, g1] => { results := [.lit (.bool true)], args := [d1, d2], vars := [g1] }
  | _ => none }
def fnDoTwoRow : OpenClaim := { program := "ytbopficnajdaoaagreatdoor", sum := "ec8385af2d420eb1781b1a65bc24d82f2a66cae5e7f42521f9c06b47b3130c1a", func := "loop.example/drawbar/laws.FnDoTwo", spec := "fnDoTwo", inPlace := ["internal/reflectlite.ValueOf", "(internal/reflectlite.Value).Type", "(internal/reflectlite.Value).IsNil", "internal/reflectlite.TypeOf", "(internal/reflectlite.Value).Elem", "(internal/reflectlite.Value).Set"], unfollowed := true, recurses := true, named := ["loop.example/drawbar/impl.kindFields", "errors.errorType"], apart := false, laid := [("errors.errorType", laid_errors_errorType), ("loop.example/drawbar/impl.kindFields", laid_loop_example_drawbar_impl_kindFields)] }
def FnDoTwoSaid : Prop := fnDoTwoRow.holds Tryz.pinned (OpenSpec.ofChange fnDoTwoSpec)

/-- ITS FALSE NEIGHBOUR: 'it returns false'. Refute it at one input. -/
def fnDoTwoWrong : ChangeSpec := { name := "fnDoTwo", vars := ["loop.example/drawbar/impl.kindFields"], fn := fun _ => fun
  | [d1, d2, g1] => { results := [.lit (.bool false)], args := [d1, d2], vars := [g1] }
  | _ => none }
def FnDoTwoWrongFalsely : Prop := fnDoTwoRow.holds Tryz.pinned (OpenSpec.ofChange fnDoTwoWrong)

/-- 'laws.FnCopySame': WHATEVER THE INPUT: true; the input reads as it did. -/
def fnCopySameSpec : ChangeSpec := { name := "fnCopySame", vars := ["loop.example/drawbar/impl.kindFields"], fn := fun _ => fun
  | [d1, d2, g1] => { results := [.lit (.bool true)], args := [d1, d2], vars := [g1] }
  | _ => none }
def fnCopySameRow : OpenClaim := { program := "ytbopficnajdaoaagreatdoor", sum := "ec8385af2d420eb1781b1a65bc24d82f2a66cae5e7f42521f9c06b47b3130c1a", func := "loop.example/drawbar/laws.FnCopySame", spec := "fnCopySame", inPlace := ["internal/reflectlite.ValueOf", "(internal/reflectlite.Value).Type", "(internal/reflectlite.Value).IsNil", "internal/reflectlite.TypeOf", "(internal/reflectlite.Value).Elem", "(internal/reflectlite.Value).Set"], unfollowed := true, recurses := true, named := ["loop.example/drawbar/impl.kindFields", "errors.errorType"], apart := false, laid := [("errors.errorType", laid_errors_errorType), ("loop.example/drawbar/impl.kindFields", laid_loop_example_drawbar_impl_kindFields)] }
def FnCopySameSaid : Prop := fnCopySameRow.holds Tryz.pinned (OpenSpec.ofChange fnCopySameSpec)

/-- ITS FALSE NEIGHBOUR: 'it returns false'. Refute it at one input. -/
def fnCopySameWrong : ChangeSpec := { name := "fnCopySame", vars := ["loop.example/drawbar/impl.kindFields"], fn := fun _ => fun
  | [d1, d2, g1] => { results := [.lit (.bool false)], args := [d1, d2], vars := [g1] }
  | _ => none }
def FnCopySameWrongFalsely : Prop := fnCopySameRow.holds Tryz.pinned (OpenSpec.ofChange fnCopySameWrong)

/-- 'laws.FnGateTwice': WHATEVER THE INPUT: true; the input reads as it did. -/
def fnGateTwiceSpec : ChangeSpec := { name := "fnGateTwice", vars := ["loop.example/drawbar/impl.kindFields"], fn := fun _ => fun
  | [d1, d2, g1] => { results := [.lit (.bool true)], args := [d1, d2], vars := [g1] }
  | _ => none }
def fnGateTwiceRow : OpenClaim := { program := "ytbopficnajdaoaagreatdoor", sum := "ec8385af2d420eb1781b1a65bc24d82f2a66cae5e7f42521f9c06b47b3130c1a", func := "loop.example/drawbar/laws.FnGateTwice", spec := "fnGateTwice", inPlace := ["internal/reflectlite.ValueOf", "(internal/reflectlite.Value).Type", "(internal/reflectlite.Value).IsNil", "internal/reflectlite.TypeOf", "(internal/reflectlite.Value).Elem", "(internal/reflectlite.Value).Set"], unfollowed := true, recurses := true, named := ["loop.example/drawbar/impl.kindFields", "errors.errorType"], apart := false, laid := [("errors.errorType", laid_errors_errorType), ("loop.example/drawbar/impl.kindFields", laid_loop_example_drawbar_impl_kindFields)] }
def FnGateTwiceSaid : Prop := fnGateTwiceRow.holds Tryz.pinned (OpenSpec.ofChange fnGateTwiceSpec)

/-- ITS FALSE NEIGHBOUR: 'it returns false'. Refute it at one input. -/
def fnGateTwiceWrong : ChangeSpec := { name := "fnGateTwice", vars := ["loop.example/drawbar/impl.kindFields"], fn := fun _ => fun
  | [d1, d2, g1] => { results := [.lit (.bool false)], args := [d1, d2], vars := [g1] }
  | _ => none }
def FnGateTwiceWrongFalsely : Prop := fnGateTwiceRow.holds Tryz.pinned (OpenSpec.ofChange fnGateTwiceWrong)

/-- 'laws.FnReadTwice': WHATEVER THE INPUT: true; the input reads as it did. -/
def fnReadTwiceSpec : ChangeSpec := { name := "fnReadTwice", vars := ["loop.example/drawbar/impl.kindFields"], fn := fun _ => fun
  | [d, g1] => { results := [.lit (.bool true)], args := [d], vars := [g1] }
  | _ => none }
def fnReadTwiceRow : OpenClaim := { program := "ytbopficnajdaoaagreatdoor", sum := "ec8385af2d420eb1781b1a65bc24d82f2a66cae5e7f42521f9c06b47b3130c1a", func := "loop.example/drawbar/laws.FnReadTwice", spec := "fnReadTwice", inPlace := ["internal/reflectlite.ValueOf", "(internal/reflectlite.Value).Type", "(internal/reflectlite.Value).IsNil", "internal/reflectlite.TypeOf", "(internal/reflectlite.Value).Elem", "(internal/reflectlite.Value).Set"], unfollowed := true, recurses := true, named := ["loop.example/drawbar/impl.kindFields", "errors.errorType"], apart := false, laid := [("errors.errorType", laid_errors_errorType), ("loop.example/drawbar/impl.kindFields", laid_loop_example_drawbar_impl_kindFields)] }
def FnReadTwiceSaid : Prop := fnReadTwiceRow.holds Tryz.pinned (OpenSpec.ofChange fnReadTwiceSpec)

/-- ITS FALSE NEIGHBOUR: 'it returns false'. Refute it at one input. -/
def fnReadTwiceWrong : ChangeSpec := { name := "fnReadTwice", vars := ["loop.example/drawbar/impl.kindFields"], fn := fun _ => fun
  | [d, g1] => { results := [.lit (.bool false)], args := [d], vars := [g1] }
  | _ => none }
def FnReadTwiceWrongFalsely : Prop := fnReadTwiceRow.holds Tryz.pinned (OpenSpec.ofChange fnReadTwiceWrong)

/-- 'laws.FnWriteTwo': WHATEVER THE INPUT: true; the input reads as it did. -/
def fnWriteTwoSpec : ChangeSpec := { name := "fnWriteTwo", vars := ["loop.example/drawbar/impl.kindFields"], fn := fun _ => fun
  | [d1, d2, g1] => { results := [.lit (.bool true)], args := [d1, d2], vars := [g1] }
  | _ => none }
def fnWriteTwoRow : OpenClaim := { program := "ytbopficnajdaoaagreatdoor", sum := "ec8385af2d420eb1781b1a65bc24d82f2a66cae5e7f42521f9c06b47b3130c1a", func := "loop.example/drawbar/laws.FnWriteTwo", spec := "fnWriteTwo", inPlace := ["internal/reflectlite.ValueOf", "(internal/reflectlite.Value).Type", "(internal/reflectlite.Value).IsNil", "internal/reflectlite.TypeOf", "(internal/reflectlite.Value).Elem", "(internal/reflectlite.Value).Set"], unfollowed := true, recurses := true, named := ["loop.example/drawbar/impl.kindFields", "errors.errorType"], apart := false, laid := [("errors.errorType", laid_errors_errorType), ("loop.example/drawbar/impl.kindFields", laid_loop_example_drawbar_impl_kindFields)] }
def FnWriteTwoSaid : Prop := fnWriteTwoRow.holds Tryz.pinned (OpenSpec.ofChange fnWriteTwoSpec)

/-- ITS FALSE NEIGHBOUR: 'it returns false'. Refute it at one input. -/
def fnWriteTwoWrong : ChangeSpec := { name := "fnWriteTwo", vars := ["loop.example/drawbar/impl.kindFields"], fn := fun _ => fun
  | [d1, d2, g1] => { results := [.lit (.bool false)], args := [d1, d2], vars := [g1] }
  | _ => none }
def FnWriteTwoWrongFalsely : Prop := fnWriteTwoRow.holds Tryz.pinned (OpenSpec.ofChange fnWriteTwoWrong)

/-- 'laws.FnPageOnly': WHATEVER THE INPUT: true; the input reads as it did. -/
def fnPageOnlySpec : ChangeSpec := { name := "fnPageOnly", vars := ["loop.example/drawbar/impl.kindFields"], fn := fun _ => fun
  | [d, g1] => { results := [.lit (.bool true)], args := [d], vars := [g1] }
  | _ => none }
def fnPageOnlyRow : OpenClaim := { program := "ytbopficnajdaoaagreatdoor", sum := "ec8385af2d420eb1781b1a65bc24d82f2a66cae5e7f42521f9c06b47b3130c1a", func := "loop.example/drawbar/laws.FnPageOnly", spec := "fnPageOnly", inPlace := ["internal/reflectlite.ValueOf", "(internal/reflectlite.Value).Type", "(internal/reflectlite.Value).IsNil", "internal/reflectlite.TypeOf", "(internal/reflectlite.Value).Elem", "(internal/reflectlite.Value).Set"], unfollowed := true, recurses := true, named := ["loop.example/drawbar/impl.kindFields", "errors.errorType"], apart := false, laid := [("errors.errorType", laid_errors_errorType), ("loop.example/drawbar/impl.kindFields", laid_loop_example_drawbar_impl_kindFields)] }
def FnPageOnlySaid : Prop := fnPageOnlyRow.holds Tryz.pinned (OpenSpec.ofChange fnPageOnlySpec)

/-- ITS FALSE NEIGHBOUR: 'it returns false'. Refute it at one input. -/
def fnPageOnlyWrong : ChangeSpec := { name := "fnPageOnly", vars := ["loop.example/drawbar/impl.kindFields"], fn := fun _ => fun
  | [d, g1] => { results := [.lit (.bool false)], args := [d], vars := [g1] }
  | _ => none }
def FnPageOnlyWrongFalsely : Prop := fnPageOnlyRow.holds Tryz.pinned (OpenSpec.ofChange fnPageOnlyWrong)

/-- 'laws.FnWeakChain': WHATEVER THE INPUT: true; the input reads as it did. -/
def fnWeakChainSpec : ChangeSpec := { name := "fnWeakChain", vars := ["loop.example/drawbar/impl.kindFields"], fn := fun _ => fun
  | [d1, d2, g1] => { results := [.lit (.bool true)], args := [d1, d2], vars := [g1] }
  | _ => none }
def fnWeakChainRow : OpenClaim := { program := "ytbopficnajdaoaagreatdoor", sum := "ec8385af2d420eb1781b1a65bc24d82f2a66cae5e7f42521f9c06b47b3130c1a", func := "loop.example/drawbar/laws.FnWeakChain", spec := "fnWeakChain", inPlace := ["internal/reflectlite.ValueOf", "(internal/reflectlite.Value).Type", "(internal/reflectlite.Value).IsNil", "internal/reflectlite.TypeOf", "(internal/reflectlite.Value).Elem", "(internal/reflectlite.Value).Set"], unfollowed := true, recurses := true, named := ["loop.example/drawbar/impl.kindFields", "errors.errorType"], apart := false, laid := [("errors.errorType", laid_errors_errorType), ("loop.example/drawbar/impl.kindFields", laid_loop_example_drawbar_impl_kindFields)] }
def FnWeakChainSaid : Prop := fnWeakChainRow.holds Tryz.pinned (OpenSpec.ofChange fnWeakChainSpec)

/-- ITS FALSE NEIGHBOUR: 'it returns false'. Refute it at one input. -/
def fnWeakChainWrong : ChangeSpec := { name := "fnWeakChain", vars := ["loop.example/drawbar/impl.kindFields"], fn := fun _ => fun
  | [d1, d2, g1] => { results := [.lit (.bool false)], args := [d1, d2], vars := [g1] }
  | _ => none }
def FnWeakChainWrongFalsely : Prop := fnWeakChainRow.holds Tryz.pinned (OpenSpec.ofChange fnWeakChainWrong)

/-- 'laws.FnNumberKept': WHATEVER THE INPUT: true; the input reads as it did. -/
def fnNumberKeptSpec : ChangeSpec := { name := "fnNumberKept", vars := ["loop.example/drawbar/impl.kindFields"], fn := fun _ => fun
  | [d, g1] => { results := [.lit (.bool true)], args := [d], vars := [g1] }
  | _ => none }
def fnNumberKeptRow : OpenClaim := { program := "ytbopficnajdaoaagreatdoor", sum := "ec8385af2d420eb1781b1a65bc24d82f2a66cae5e7f42521f9c06b47b3130c1a", func := "loop.example/drawbar/laws.FnNumberKept", spec := "fnNumberKept", inPlace := ["internal/reflectlite.ValueOf", "(internal/reflectlite.Value).Type", "(internal/reflectlite.Value).IsNil", "internal/reflectlite.TypeOf", "(internal/reflectlite.Value).Elem", "(internal/reflectlite.Value).Set"], unfollowed := true, recurses := true, named := ["loop.example/drawbar/impl.kindFields", "errors.errorType"], apart := false, laid := [("errors.errorType", laid_errors_errorType), ("loop.example/drawbar/impl.kindFields", laid_loop_example_drawbar_impl_kindFields)] }
def FnNumberKeptSaid : Prop := fnNumberKeptRow.holds Tryz.pinned (OpenSpec.ofChange fnNumberKeptSpec)

/-- ITS FALSE NEIGHBOUR: 'it returns false'. Refute it at one input. -/
def fnNumberKeptWrong : ChangeSpec := { name := "fnNumberKept", vars := ["loop.example/drawbar/impl.kindFields"], fn := fun _ => fun
  | [d, g1] => { results := [.lit (.bool false)], args := [d], vars := [g1] }
  | _ => none }
def FnNumberKeptWrongFalsely : Prop := fnNumberKeptRow.holds Tryz.pinned (OpenSpec.ofChange fnNumberKeptWrong)

/- THE SECOND FORM. 'bulk': how many values and letters a reading holds, each counted each time it is reached (what is shared counts as often as it is met; a slice's spare places count too). A statement '..UptoSaid' is the law's where the arguments, and the package variables that the reading takes, are together of bulk at most 1048576: NARROWER than '..Said'. Prove '..Said' where nothing that the law and all that it calls make is longer than what came in: it says more and counts as full. Else prove '..UptoSaid'. A law counts once. -/
mutual
def uptoBulk {H : Type} : DataW H → Nat
  | .lit (.string bytes) => bytes.length + 1
  | .lit _ => 1
  | .nil => 1
  | .ptr d => uptoBulk d + 1
  | .slice elems spare => uptoBulkAll elems + uptoBulkAll spare + 1
  | .agg parts => uptoBulkAll parts + 1
  | .iface _ d => uptoBulk d + 1
  | .map entries => uptoBulkEntries entries + 1
  | .held _ => 1
def uptoBulkAll {H : Type} : List (DataW H) → Nat
  | [] => 0
  | d :: r => uptoBulk d + uptoBulkAll r
def uptoBulkEntries {H : Type} : List (Lit × DataW H) → Nat
  | [] => 0
  | x :: r => uptoBulkEntry x + uptoBulkEntries r
def uptoBulkEntry {H : Type} : Lit × DataW H → Nat
  | (.string bytes, d) => bytes.length + uptoBulk d + 1
  | (_, d) => uptoBulk d + 1
 end
def uptoSmall : (H : Type) → List (DataW H) → Bool := fun _ ds => decide (uptoBulkAll ds ≤ 1048576)
def OpenSpec.upto (s : _root_.Go.ChangeSpec) : _root_.Go.OpenSpec := { _root_.Go.OpenSpec.ofChange s with cond := some uptoSmall }

/-- 'laws.FnDoSend', WHERE WHAT IT READS IS OF BULK AT MOST 1048576: true; the input reads as it did. -/
def fnDoSendUptoRow : OpenClaim := { program := "ytbopficnajdaoaagreatdoor", sum := "ec8385af2d420eb1781b1a65bc24d82f2a66cae5e7f42521f9c06b47b3130c1a", func := "loop.example/drawbar/laws.FnDoSend", spec := "fnDoSend", inPlace := ["internal/reflectlite.ValueOf", "(internal/reflectlite.Value).Type", "(internal/reflectlite.Value).IsNil", "internal/reflectlite.TypeOf", "(internal/reflectlite.Value).Elem", "(internal/reflectlite.Value).Set"], unfollowed := true, recurses := true, named := ["loop.example/drawbar/impl.kindFields", "errors.errorType"], apart := false, laid := [("errors.errorType", laid_errors_errorType), ("loop.example/drawbar/impl.kindFields", laid_loop_example_drawbar_impl_kindFields)], narrowed := true }
def FnDoSendUptoSaid : Prop := fnDoSendUptoRow.holds Tryz.pinned (OpenSpec.upto fnDoSendSpec)

/-- 'laws.FnDoTake', WHERE WHAT IT READS IS OF BULK AT MOST 1048576: true; the input reads as it did. -/
def fnDoTakeUptoRow : OpenClaim := { program := "ytbopficnajdaoaagreatdoor", sum := "ec8385af2d420eb1781b1a65bc24d82f2a66cae5e7f42521f9c06b47b3130c1a", func := "loop.example/drawbar/laws.FnDoTake", spec := "fnDoTake", inPlace := ["internal/reflectlite.ValueOf", "(internal/reflectlite.Value).Type", "(internal/reflectlite.Value).IsNil", "internal/reflectlite.TypeOf", "(internal/reflectlite.Value).Elem", "(internal/reflectlite.Value).Set"], unfollowed := true, recurses := true, named := ["loop.example/drawbar/impl.kindFields", "errors.errorType"], apart := false, laid := [("errors.errorType", laid_errors_errorType), ("loop.example/drawbar/impl.kindFields", laid_loop_example_drawbar_impl_kindFields)], narrowed := true }
def FnDoTakeUptoSaid : Prop := fnDoTakeUptoRow.holds Tryz.pinned (OpenSpec.upto fnDoTakeSpec)

/-- 'laws.FnDoRenew', WHERE WHAT IT READS IS OF BULK AT MOST 1048576: true; the input reads as it did. -/
def fnDoRenewUptoRow : OpenClaim := { program := "ytbopficnajdaoaagreatdoor", sum := "ec8385af2d420eb1781b1a65bc24d82f2a66cae5e7f42521f9c06b47b3130c1a", func := "loop.example/drawbar/laws.FnDoRenew", spec := "fnDoRenew", inPlace := ["internal/reflectlite.ValueOf", "(internal/reflectlite.Value).Type", "(internal/reflectlite.Value).IsNil", "internal/reflectlite.TypeOf", "(internal/reflectlite.Value).Elem", "(internal/reflectlite.Value).Set"], unfollowed := true, recurses := true, named := ["loop.example/drawbar/impl.kindFields", "errors.errorType"], apart := false, laid := [("errors.errorType", laid_errors_errorType), ("loop.example/drawbar/impl.kindFields", laid_loop_example_drawbar_impl_kindFields)], narrowed := true }
def FnDoRenewUptoSaid : Prop := fnDoRenewUptoRow.holds Tryz.pinned (OpenSpec.upto fnDoRenewSpec)

/-- 'laws.FnDoGate', WHERE WHAT IT READS IS OF BULK AT MOST 1048576: true; the input reads as it did. -/
def fnDoGateUptoRow : OpenClaim := { program := "ytbopficnajdaoaagreatdoor", sum := "ec8385af2d420eb1781b1a65bc24d82f2a66cae5e7f42521f9c06b47b3130c1a", func := "loop.example/drawbar/laws.FnDoGate", spec := "fnDoGate", inPlace := ["internal/reflectlite.ValueOf", "(internal/reflectlite.Value).Type", "(internal/reflectlite.Value).IsNil", "internal/reflectlite.TypeOf", "(internal/reflectlite.Value).Elem", "(internal/reflectlite.Value).Set"], unfollowed := true, recurses := true, named := ["loop.example/drawbar/impl.kindFields", "errors.errorType"], apart := false, laid := [("errors.errorType", laid_errors_errorType), ("loop.example/drawbar/impl.kindFields", laid_loop_example_drawbar_impl_kindFields)], narrowed := true }
def FnDoGateUptoSaid : Prop := fnDoGateUptoRow.holds Tryz.pinned (OpenSpec.upto fnDoGateSpec)

/-- 'laws.FnTakeSent', WHERE WHAT IT READS IS OF BULK AT MOST 1048576: true; the input reads as it did. -/
def fnTakeSentUptoRow : OpenClaim := { program := "ytbopficnajdaoaagreatdoor", sum := "ec8385af2d420eb1781b1a65bc24d82f2a66cae5e7f42521f9c06b47b3130c1a", func := "loop.example/drawbar/laws.FnTakeSent", spec := "fnTakeSent", inPlace := ["internal/reflectlite.ValueOf", "(internal/reflectlite.Value).Type", "(internal/reflectlite.Value).IsNil", "internal/reflectlite.TypeOf", "(internal/reflectlite.Value).Elem", "(internal/reflectlite.Value).Set"], unfollowed := true, recurses := true, named := ["loop.example/drawbar/impl.kindFields", "errors.errorType"], apart := false, laid := [("errors.errorType", laid_errors_errorType), ("loop.example/drawbar/impl.kindFields", laid_loop_example_drawbar_impl_kindFields)], narrowed := true }
def FnTakeSentUptoSaid : Prop := fnTakeSentUptoRow.holds Tryz.pinned (OpenSpec.upto fnTakeSentSpec)

/-- 'laws.FnWriteRead', WHERE WHAT IT READS IS OF BULK AT MOST 1048576: true; the input reads as it did. -/
def fnWriteReadUptoRow : OpenClaim := { program := "ytbopficnajdaoaagreatdoor", sum := "ec8385af2d420eb1781b1a65bc24d82f2a66cae5e7f42521f9c06b47b3130c1a", func := "loop.example/drawbar/laws.FnWriteRead", spec := "fnWriteRead", inPlace := ["internal/reflectlite.ValueOf", "(internal/reflectlite.Value).Type", "(internal/reflectlite.Value).IsNil", "internal/reflectlite.TypeOf", "(internal/reflectlite.Value).Elem", "(internal/reflectlite.Value).Set"], unfollowed := true, recurses := true, named := ["loop.example/drawbar/impl.kindFields", "errors.errorType"], apart := false, laid := [("errors.errorType", laid_errors_errorType), ("loop.example/drawbar/impl.kindFields", laid_loop_example_drawbar_impl_kindFields)], narrowed := true }
def FnWriteReadUptoSaid : Prop := fnWriteReadUptoRow.holds Tryz.pinned (OpenSpec.upto fnWriteReadSpec)

/-- 'laws.FnSendTwo', WHERE WHAT IT READS IS OF BULK AT MOST 1048576: true; the input reads as it did. -/
def fnSendTwoUptoRow : OpenClaim := { program := "ytbopficnajdaoaagreatdoor", sum := "ec8385af2d420eb1781b1a65bc24d82f2a66cae5e7f42521f9c06b47b3130c1a", func := "loop.example/drawbar/laws.FnSendTwo", spec := "fnSendTwo", inPlace := ["internal/reflectlite.ValueOf", "(internal/reflectlite.Value).Type", "(internal/reflectlite.Value).IsNil", "internal/reflectlite.TypeOf", "(internal/reflectlite.Value).Elem", "(internal/reflectlite.Value).Set"], unfollowed := true, recurses := true, named := ["loop.example/drawbar/impl.kindFields", "errors.errorType"], apart := false, laid := [("errors.errorType", laid_errors_errorType), ("loop.example/drawbar/impl.kindFields", laid_loop_example_drawbar_impl_kindFields)], narrowed := true }
def FnSendTwoUptoSaid : Prop := fnSendTwoUptoRow.holds Tryz.pinned (OpenSpec.upto fnSendTwoSpec)

/-- 'laws.FnStoreFetch', WHERE WHAT IT READS IS OF BULK AT MOST 1048576: true; the input reads as it did. -/
def fnStoreFetchUptoRow : OpenClaim := { program := "ytbopficnajdaoaagreatdoor", sum := "ec8385af2d420eb1781b1a65bc24d82f2a66cae5e7f42521f9c06b47b3130c1a", func := "loop.example/drawbar/laws.FnStoreFetch", spec := "fnStoreFetch", inPlace := ["internal/reflectlite.ValueOf", "(internal/reflectlite.Value).Type", "(internal/reflectlite.Value).IsNil", "internal/reflectlite.TypeOf", "(internal/reflectlite.Value).Elem", "(internal/reflectlite.Value).Set"], unfollowed := true, recurses := true, named := ["loop.example/drawbar/impl.kindFields", "errors.errorType"], apart := false, laid := [("errors.errorType", laid_errors_errorType), ("loop.example/drawbar/impl.kindFields", laid_loop_example_drawbar_impl_kindFields)], narrowed := true }
def FnStoreFetchUptoSaid : Prop := fnStoreFetchUptoRow.holds Tryz.pinned (OpenSpec.upto fnStoreFetchSpec)

/-- 'laws.FnRenewTwice', WHERE WHAT IT READS IS OF BULK AT MOST 1048576: true; the input reads as it did. -/
def fnRenewTwiceUptoRow : OpenClaim := { program := "ytbopficnajdaoaagreatdoor", sum := "ec8385af2d420eb1781b1a65bc24d82f2a66cae5e7f42521f9c06b47b3130c1a", func := "loop.example/drawbar/laws.FnRenewTwice", spec := "fnRenewTwice", inPlace := ["internal/reflectlite.ValueOf", "(internal/reflectlite.Value).Type", "(internal/reflectlite.Value).IsNil", "internal/reflectlite.TypeOf", "(internal/reflectlite.Value).Elem", "(internal/reflectlite.Value).Set"], unfollowed := true, recurses := true, named := ["loop.example/drawbar/impl.kindFields", "errors.errorType"], apart := false, laid := [("errors.errorType", laid_errors_errorType), ("loop.example/drawbar/impl.kindFields", laid_loop_example_drawbar_impl_kindFields)], narrowed := true }
def FnRenewTwiceUptoSaid : Prop := fnRenewTwiceUptoRow.holds Tryz.pinned (OpenSpec.upto fnRenewTwiceSpec)

/-- 'laws.FnDoTwo', WHERE WHAT IT READS IS OF BULK AT MOST 1048576: true; the input reads as it did. -/
def fnDoTwoUptoRow : OpenClaim := { program := "ytbopficnajdaoaagreatdoor", sum := "ec8385af2d420eb1781b1a65bc24d82f2a66cae5e7f42521f9c06b47b3130c1a", func := "loop.example/drawbar/laws.FnDoTwo", spec := "fnDoTwo", inPlace := ["internal/reflectlite.ValueOf", "(internal/reflectlite.Value).Type", "(internal/reflectlite.Value).IsNil", "internal/reflectlite.TypeOf", "(internal/reflectlite.Value).Elem", "(internal/reflectlite.Value).Set"], unfollowed := true, recurses := true, named := ["loop.example/drawbar/impl.kindFields", "errors.errorType"], apart := false, laid := [("errors.errorType", laid_errors_errorType), ("loop.example/drawbar/impl.kindFields", laid_loop_example_drawbar_impl_kindFields)], narrowed := true }
def FnDoTwoUptoSaid : Prop := fnDoTwoUptoRow.holds Tryz.pinned (OpenSpec.upto fnDoTwoSpec)

/-- 'laws.FnCopySame', WHERE WHAT IT READS IS OF BULK AT MOST 1048576: true; the input reads as it did. -/
def fnCopySameUptoRow : OpenClaim := { program := "ytbopficnajdaoaagreatdoor", sum := "ec8385af2d420eb1781b1a65bc24d82f2a66cae5e7f42521f9c06b47b3130c1a", func := "loop.example/drawbar/laws.FnCopySame", spec := "fnCopySame", inPlace := ["internal/reflectlite.ValueOf", "(internal/reflectlite.Value).Type", "(internal/reflectlite.Value).IsNil", "internal/reflectlite.TypeOf", "(internal/reflectlite.Value).Elem", "(internal/reflectlite.Value).Set"], unfollowed := true, recurses := true, named := ["loop.example/drawbar/impl.kindFields", "errors.errorType"], apart := false, laid := [("errors.errorType", laid_errors_errorType), ("loop.example/drawbar/impl.kindFields", laid_loop_example_drawbar_impl_kindFields)], narrowed := true }
def FnCopySameUptoSaid : Prop := fnCopySameUptoRow.holds Tryz.pinned (OpenSpec.upto fnCopySameSpec)

/-- 'laws.FnGateTwice', WHERE WHAT IT READS IS OF BULK AT MOST 1048576: true; the input reads as it did. -/
def fnGateTwiceUptoRow : OpenClaim := { program := "ytbopficnajdaoaagreatdoor", sum := "ec8385af2d420eb1781b1a65bc24d82f2a66cae5e7f42521f9c06b47b3130c1a", func := "loop.example/drawbar/laws.FnGateTwice", spec := "fnGateTwice", inPlace := ["internal/reflectlite.ValueOf", "(internal/reflectlite.Value).Type", "(internal/reflectlite.Value).IsNil", "internal/reflectlite.TypeOf", "(internal/reflectlite.Value).Elem", "(internal/reflectlite.Value).Set"], unfollowed := true, recurses := true, named := ["loop.example/drawbar/impl.kindFields", "errors.errorType"], apart := false, laid := [("errors.errorType", laid_errors_errorType), ("loop.example/drawbar/impl.kindFields", laid_loop_example_drawbar_impl_kindFields)], narrowed := true }
def FnGateTwiceUptoSaid : Prop := fnGateTwiceUptoRow.holds Tryz.pinned (OpenSpec.upto fnGateTwiceSpec)

/-- 'laws.FnReadTwice', WHERE WHAT IT READS IS OF BULK AT MOST 1048576: true; the input reads as it did. -/
def fnReadTwiceUptoRow : OpenClaim := { program := "ytbopficnajdaoaagreatdoor", sum := "ec8385af2d420eb1781b1a65bc24d82f2a66cae5e7f42521f9c06b47b3130c1a", func := "loop.example/drawbar/laws.FnReadTwice", spec := "fnReadTwice", inPlace := ["internal/reflectlite.ValueOf", "(internal/reflectlite.Value).Type", "(internal/reflectlite.Value).IsNil", "internal/reflectlite.TypeOf", "(internal/reflectlite.Value).Elem", "(internal/reflectlite.Value).Set"], unfollowed := true, recurses := true, named := ["loop.example/drawbar/impl.kindFields", "errors.errorType"], apart := false, laid := [("errors.errorType", laid_errors_errorType), ("loop.example/drawbar/impl.kindFields", laid_loop_example_drawbar_impl_kindFields)], narrowed := true }
def FnReadTwiceUptoSaid : Prop := fnReadTwiceUptoRow.holds Tryz.pinned (OpenSpec.upto fnReadTwiceSpec)

/-- 'laws.FnWriteTwo', WHERE WHAT IT READS IS OF BULK AT MOST 1048576: true; the input reads as it did. -/
def fnWriteTwoUptoRow : OpenClaim := { program := "ytbopficnajdaoaagreatdoor", sum := "ec8385af2d420eb1781b1a65bc24d82f2a66cae5e7f42521f9c06b47b3130c1a", func := "loop.example/drawbar/laws.FnWriteTwo", spec := "fnWriteTwo", inPlace := ["internal/reflectlite.ValueOf", "(internal/reflectlite.Value).Type", "(internal/reflectlite.Value).IsNil", "internal/reflectlite.TypeOf", "(internal/reflectlite.Value).Elem", "(internal/reflectlite.Value).Set"], unfollowed := true, recurses := true, named := ["loop.example/drawbar/impl.kindFields", "errors.errorType"], apart := false, laid := [("errors.errorType", laid_errors_errorType), ("loop.example/drawbar/impl.kindFields", laid_loop_example_drawbar_impl_kindFields)], narrowed := true }
def FnWriteTwoUptoSaid : Prop := fnWriteTwoUptoRow.holds Tryz.pinned (OpenSpec.upto fnWriteTwoSpec)

/-- 'laws.FnPageOnly', WHERE WHAT IT READS IS OF BULK AT MOST 1048576: true; the input reads as it did. -/
def fnPageOnlyUptoRow : OpenClaim := { program := "ytbopficnajdaoaagreatdoor", sum := "ec8385af2d420eb1781b1a65bc24d82f2a66cae5e7f42521f9c06b47b3130c1a", func := "loop.example/drawbar/laws.FnPageOnly", spec := "fnPageOnly", inPlace := ["internal/reflectlite.ValueOf", "(internal/reflectlite.Value).Type", "(internal/reflectlite.Value).IsNil", "internal/reflectlite.TypeOf", "(internal/reflectlite.Value).Elem", "(internal/reflectlite.Value).Set"], unfollowed := true, recurses := true, named := ["loop.example/drawbar/impl.kindFields", "errors.errorType"], apart := false, laid := [("errors.errorType", laid_errors_errorType), ("loop.example/drawbar/impl.kindFields", laid_loop_example_drawbar_impl_kindFields)], narrowed := true }
def FnPageOnlyUptoSaid : Prop := fnPageOnlyUptoRow.holds Tryz.pinned (OpenSpec.upto fnPageOnlySpec)

/-- 'laws.FnWeakChain', WHERE WHAT IT READS IS OF BULK AT MOST 1048576: true; the input reads as it did. -/
def fnWeakChainUptoRow : OpenClaim := { program := "ytbopficnajdaoaagreatdoor", sum := "ec8385af2d420eb1781b1a65bc24d82f2a66cae5e7f42521f9c06b47b3130c1a", func := "loop.example/drawbar/laws.FnWeakChain", spec := "fnWeakChain", inPlace := ["internal/reflectlite.ValueOf", "(internal/reflectlite.Value).Type", "(internal/reflectlite.Value).IsNil", "internal/reflectlite.TypeOf", "(internal/reflectlite.Value).Elem", "(internal/reflectlite.Value).Set"], unfollowed := true, recurses := true, named := ["loop.example/drawbar/impl.kindFields", "errors.errorType"], apart := false, laid := [("errors.errorType", laid_errors_errorType), ("loop.example/drawbar/impl.kindFields", laid_loop_example_drawbar_impl_kindFields)], narrowed := true }
def FnWeakChainUptoSaid : Prop := fnWeakChainUptoRow.holds Tryz.pinned (OpenSpec.upto fnWeakChainSpec)

/-- 'laws.FnNumberKept', WHERE WHAT IT READS IS OF BULK AT MOST 1048576: true; the input reads as it did. -/
def fnNumberKeptUptoRow : OpenClaim := { program := "ytbopficnajdaoaagreatdoor", sum := "ec8385af2d420eb1781b1a65bc24d82f2a66cae5e7f42521f9c06b47b3130c1a", func := "loop.example/drawbar/laws.FnNumberKept", spec := "fnNumberKept", inPlace := ["internal/reflectlite.ValueOf", "(internal/reflectlite.Value).Type", "(internal/reflectlite.Value).IsNil", "internal/reflectlite.TypeOf", "(internal/reflectlite.Value).Elem", "(internal/reflectlite.Value).Set"], unfollowed := true, recurses := true, named := ["loop.example/drawbar/impl.kindFields", "errors.errorType"], apart := false, laid := [("errors.errorType", laid_errors_errorType), ("loop.example/drawbar/impl.kindFields", laid_loop_example_drawbar_impl_kindFields)], narrowed := true }
def FnNumberKeptUptoSaid : Prop := fnNumberKeptUptoRow.holds Tryz.pinned (OpenSpec.upto fnNumberKeptSpec)

end Rows
end Go.Proofs.YtbopficnajdaoaaGreatDoor
