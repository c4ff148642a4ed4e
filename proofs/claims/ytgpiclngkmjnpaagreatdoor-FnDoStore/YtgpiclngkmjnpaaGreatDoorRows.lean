/-
  NARROWER THAN 'FOR EVERY INPUT', by the rows' own cells (each row's printed sentence says how): FnDoOk: laid · FnDoRefused: laid · FnDoTouch: laid · FnDoRead: laid · FnDoWrite: laid · FnDoCopy: laid · FnDoFetch: laid · FnDoStore: laid · FnBlindSame: laid · FnOwnSlots: laid · FnAnswers: laid · FnExactCallDo: laid.
  DERIVED. THE GIVEN ROWS OF THIS SEAT. 12 by the template 'for every input the law returns true; each argument reads behind the call as it read before'; 0 by the template 'total and deterministic' (their statements: YtgpiclngkmjnpaaGreatDoorTotals.lean).
  GIVEN WITH THE SEED: the statements are not yours to turn. If you find one false, say at which input.
  Laid BY PROGRAM, IN A SANDBOX (cutbox-rows.mjs): the forced cells as the released guide's own fill.sh prints them over the translation e9112fa203eaf30a… (all of the seat's roots in one cut). By AI agents, Wed Nov 11 2026. No macro, syntax, notation, axiom, sorry.
-/
import Derived.Test.YtgpiclngkmjnpaaGreatDoorChecked
import GoSem.Claim
import GoSem.ClaimJoined
import GoSem.ClaimMapViews
import Derived.JoinedTies
import Derived.KernelRfl
namespace Go.Proofs.YtgpiclngkmjnpaaGreatDoor
/- THE CELL 'sum', in the pinned program and in every row, IS THE sha256 OF THE DUMP (.gsa) THAT YtgpiclngkmjnpaaGreatDoorProg.lean LOADS. Nothing in Lean hashes anything: it is a label: what it is worth is what the hold of that sum in a sandbox is worth. -/
noncomputable def Tryz.pinned : Pinned := { name := "ytgpiclngkmjnpaagreatdoor", sum := "e9112fa203eaf30ad65adcf1aa5b081fc49ec72573949205439e068d44a67e70", checked := Tryz.checked }
namespace Rows
def none {H : Type} : Left H := { results := [], args := [] }

/- WHAT THE LISTED PACKAGE-LEVEL VARIABLES READ AS WHEN THE CALL BEGINS. Each datum BY PROGRAM (the guide's laid-datum.mjs) off the statement by which the dump's own 'gosem.cut.vars' lays the variable. In a bare row this is a premise. The card (YtgpiclngkmjnpaaGreatDoorCards.lean) ties it to the program's text. -/
def laid_errors_errorType {H : Type} : DataW H := .iface "internal/reflectlite.rtype" (.agg [.ptr (.lit (.string [101, 114, 114, 111, 114]))])
def laid_loop_example_drawbar_impl_kindFields {H : Type} : DataW H := .agg [.agg [.lit (.string []), .agg [.lit (.int .i64 0), .lit (.int .i64 0)], .agg [.lit (.int .i64 0), .lit (.int .i64 0)], .agg [.lit (.int .i64 0), .lit (.int .i64 0)], .agg [.lit (.int .i64 0), .lit (.int .i64 0)], .agg [.lit (.int .i64 0), .lit (.int .i64 0)]], .agg [.lit (.string [112, 97, 103, 101]), .agg [.lit (.int .i64 0), .lit (.int .i64 5)], .agg [.lit (.int .i64 0), .lit (.int .i64 99)], .agg [.lit (.int .i64 0), .lit (.int .i64 0)], .agg [.lit (.int .i64 0), .lit (.int .i64 0)], .agg [.lit (.int .i64 0), .lit (.int .i64 0)]], .agg [.lit (.string [110, 111, 100, 101]), .agg [.lit (.int .i64 0), .lit (.int .i64 5)], .agg [.lit (.int .i64 0), .lit (.int .i64 0)], .agg [.lit (.int .i64 0), .lit (.int .i64 0)], .agg [.lit (.int .i64 4), .lit (.int .i64 4)], .agg [.lit (.int .i64 0), .lit (.int .i64 0)]], .agg [.lit (.string [114, 117, 110]), .agg [.lit (.int .i64 0), .lit (.int .i64 0)], .agg [.lit (.int .i64 (-4)), .lit (.int .i64 99)], .agg [.lit (.int .i64 0), .lit (.int .i64 0)], .agg [.lit (.int .i64 4), .lit (.int .i64 4)], .agg [.lit (.int .i64 0), .lit (.int .i64 0)]], .agg [.lit (.string [112, 105, 112, 101]), .agg [.lit (.int .i64 0), .lit (.int .i64 5)], .agg [.lit (.int .i64 0), .lit (.int .i64 0)], .agg [.lit (.int .i64 0), .lit (.int .i64 0)], .agg [.lit (.int .i64 0), .lit (.int .i64 0)], .agg [.lit (.int .i64 0), .lit (.int .i64 3)]], .agg [.lit (.string [103, 97, 116, 101]), .agg [.lit (.int .i64 0), .lit (.int .i64 0)], .agg [.lit (.int .i64 0), .lit (.int .i64 99)], .agg [.lit (.int .i64 1), .lit (.int .i64 8)], .agg [.lit (.int .i64 0), .lit (.int .i64 0)], .agg [.lit (.int .i64 0), .lit (.int .i64 0)]]]

/-- 'laws.FnDoOk': WHATEVER THE INPUT: true; the input reads as it did. -/
def fnDoOkSpec : ChangeSpec := { name := "fnDoOk", vars := ["loop.example/drawbar/impl.kindFields"], fn := fun _ => fun
  | [d, g1] => { results := [.lit (.bool true)], args := [d], vars := [g1] }
  | _ => none }
def fnDoOkRow : OpenClaim := { program := "ytgpiclngkmjnpaagreatdoor", sum := "e9112fa203eaf30ad65adcf1aa5b081fc49ec72573949205439e068d44a67e70", func := "loop.example/drawbar/laws.FnDoOk", spec := "fnDoOk", inPlace := ["internal/reflectlite.ValueOf", "(internal/reflectlite.Value).Type", "(internal/reflectlite.Value).IsNil", "internal/reflectlite.TypeOf", "(internal/reflectlite.Value).Elem", "(internal/reflectlite.Value).Set"], unfollowed := true, recurses := true, named := ["loop.example/drawbar/impl.kindFields", "errors.errorType"], apart := false, laid := [("errors.errorType", laid_errors_errorType), ("loop.example/drawbar/impl.kindFields", laid_loop_example_drawbar_impl_kindFields)] }
def FnDoOkSaid : Prop := fnDoOkRow.holds Tryz.pinned (OpenSpec.ofChange fnDoOkSpec)

/-- ITS FALSE NEIGHBOUR: 'it returns false'. Refute it at one input. -/
def fnDoOkWrong : ChangeSpec := { name := "fnDoOk", vars := ["loop.example/drawbar/impl.kindFields"], fn := fun _ => fun
  | [d, g1] => { results := [.lit (.bool false)], args := [d], vars := [g1] }
  | _ => none }
def FnDoOkWrongFalsely : Prop := fnDoOkRow.holds Tryz.pinned (OpenSpec.ofChange fnDoOkWrong)

/-- 'laws.FnDoRefused': WHATEVER THE INPUT: true; the input reads as it did. -/
def fnDoRefusedSpec : ChangeSpec := { name := "fnDoRefused", vars := ["loop.example/drawbar/impl.kindFields"], fn := fun _ => fun
  | [d, g1] => { results := [.lit (.bool true)], args := [d], vars := [g1] }
  | _ => none }
def fnDoRefusedRow : OpenClaim := { program := "ytgpiclngkmjnpaagreatdoor", sum := "e9112fa203eaf30ad65adcf1aa5b081fc49ec72573949205439e068d44a67e70", func := "loop.example/drawbar/laws.FnDoRefused", spec := "fnDoRefused", inPlace := ["internal/reflectlite.ValueOf", "(internal/reflectlite.Value).Type", "(internal/reflectlite.Value).IsNil", "internal/reflectlite.TypeOf", "(internal/reflectlite.Value).Elem", "(internal/reflectlite.Value).Set"], unfollowed := true, recurses := true, named := ["loop.example/drawbar/impl.kindFields", "errors.errorType"], apart := false, laid := [("errors.errorType", laid_errors_errorType), ("loop.example/drawbar/impl.kindFields", laid_loop_example_drawbar_impl_kindFields)] }
def FnDoRefusedSaid : Prop := fnDoRefusedRow.holds Tryz.pinned (OpenSpec.ofChange fnDoRefusedSpec)

/-- ITS FALSE NEIGHBOUR: 'it returns false'. Refute it at one input. -/
def fnDoRefusedWrong : ChangeSpec := { name := "fnDoRefused", vars := ["loop.example/drawbar/impl.kindFields"], fn := fun _ => fun
  | [d, g1] => { results := [.lit (.bool false)], args := [d], vars := [g1] }
  | _ => none }
def FnDoRefusedWrongFalsely : Prop := fnDoRefusedRow.holds Tryz.pinned (OpenSpec.ofChange fnDoRefusedWrong)

/-- 'laws.FnDoTouch': WHATEVER THE INPUT: true; the input reads as it did. -/
def fnDoTouchSpec : ChangeSpec := { name := "fnDoTouch", vars := ["loop.example/drawbar/impl.kindFields"], fn := fun _ => fun
  | [d, g1] => { results := [.lit (.bool true)], args := [d], vars := [g1] }
  | _ => none }
def fnDoTouchRow : OpenClaim := { program := "ytgpiclngkmjnpaagreatdoor", sum := "e9112fa203eaf30ad65adcf1aa5b081fc49ec72573949205439e068d44a67e70", func := "loop.example/drawbar/laws.FnDoTouch", spec := "fnDoTouch", inPlace := ["internal/reflectlite.ValueOf", "(internal/reflectlite.Value).Type", "(internal/reflectlite.Value).IsNil", "internal/reflectlite.TypeOf", "(internal/reflectlite.Value).Elem", "(internal/reflectlite.Value).Set"], unfollowed := true, recurses := true, named := ["loop.example/drawbar/impl.kindFields", "errors.errorType"], apart := false, laid := [("errors.errorType", laid_errors_errorType), ("loop.example/drawbar/impl.kindFields", laid_loop_example_drawbar_impl_kindFields)] }
def FnDoTouchSaid : Prop := fnDoTouchRow.holds Tryz.pinned (OpenSpec.ofChange fnDoTouchSpec)

/-- ITS FALSE NEIGHBOUR: 'it returns false'. Refute it at one input. -/
def fnDoTouchWrong : ChangeSpec := { name := "fnDoTouch", vars := ["loop.example/drawbar/impl.kindFields"], fn := fun _ => fun
  | [d, g1] => { results := [.lit (.bool false)], args := [d], vars := [g1] }
  | _ => none }
def FnDoTouchWrongFalsely : Prop := fnDoTouchRow.holds Tryz.pinned (OpenSpec.ofChange fnDoTouchWrong)

/-- 'laws.FnDoRead': WHATEVER THE INPUT: true; the input reads as it did. -/
def fnDoReadSpec : ChangeSpec := { name := "fnDoRead", vars := ["loop.example/drawbar/impl.kindFields"], fn := fun _ => fun
  | [d, g1] => { results := [.lit (.bool true)], args := [d], vars := [g1] }
  | _ => none }
def fnDoReadRow : OpenClaim := { program := "ytgpiclngkmjnpaagreatdoor", sum := "e9112fa203eaf30ad65adcf1aa5b081fc49ec72573949205439e068d44a67e70", func := "loop.example/drawbar/laws.FnDoRead", spec := "fnDoRead", inPlace := ["internal/reflectlite.ValueOf", "(internal/reflectlite.Value).Type", "(internal/reflectlite.Value).IsNil", "internal/reflectlite.TypeOf", "(internal/reflectlite.Value).Elem", "(internal/reflectlite.Value).Set"], unfollowed := true, recurses := true, named := ["loop.example/drawbar/impl.kindFields", "errors.errorType"], apart := false, laid := [("errors.errorType", laid_errors_errorType), ("loop.example/drawbar/impl.kindFields", laid_loop_example_drawbar_impl_kindFields)] }
def FnDoReadSaid : Prop := fnDoReadRow.holds Tryz.pinned (OpenSpec.ofChange fnDoReadSpec)

/-- ITS FALSE NEIGHBOUR: 'it returns false'. Refute it at one input. -/
def fnDoReadWrong : ChangeSpec := { name := "fnDoRead", vars := ["loop.example/drawbar/impl.kindFields"], fn := fun _ => fun
  | [d, g1] => { results := [.lit (.bool false)], args := [d], vars := [g1] }
  | _ => none }
def FnDoReadWrongFalsely : Prop := fnDoReadRow.holds Tryz.pinned (OpenSpec.ofChange fnDoReadWrong)

/-- 'laws.FnDoWrite': WHATEVER THE INPUT: true; the input reads as it did. -/
def fnDoWriteSpec : ChangeSpec := { name := "fnDoWrite", vars := ["loop.example/drawbar/impl.kindFields"], fn := fun _ => fun
  | [d, g1] => { results := [.lit (.bool true)], args := [d], vars := [g1] }
  | _ => none }
def fnDoWriteRow : OpenClaim := { program := "ytgpiclngkmjnpaagreatdoor", sum := "e9112fa203eaf30ad65adcf1aa5b081fc49ec72573949205439e068d44a67e70", func := "loop.example/drawbar/laws.FnDoWrite", spec := "fnDoWrite", inPlace := ["internal/reflectlite.ValueOf", "(internal/reflectlite.Value).Type", "(internal/reflectlite.Value).IsNil", "internal/reflectlite.TypeOf", "(internal/reflectlite.Value).Elem", "(internal/reflectlite.Value).Set"], unfollowed := true, recurses := true, named := ["loop.example/drawbar/impl.kindFields", "errors.errorType"], apart := false, laid := [("errors.errorType", laid_errors_errorType), ("loop.example/drawbar/impl.kindFields", laid_loop_example_drawbar_impl_kindFields)] }
def FnDoWriteSaid : Prop := fnDoWriteRow.holds Tryz.pinned (OpenSpec.ofChange fnDoWriteSpec)

/-- ITS FALSE NEIGHBOUR: 'it returns false'. Refute it at one input. -/
def fnDoWriteWrong : ChangeSpec := { name := "fnDoWrite", vars := ["loop.example/drawbar/impl.kindFields"], fn := fun _ => fun
  | [d, g1] => { results := [.lit (.bool false)], args := [d], vars := [g1] }
  | _ => none }
def FnDoWriteWrongFalsely : Prop := fnDoWriteRow.holds Tryz.pinned (OpenSpec.ofChange fnDoWriteWrong)

/-- 'laws.FnDoCopy': WHATEVER THE INPUT: true; the input reads as it did. -/
def fnDoCopySpec : ChangeSpec := { name := "fnDoCopy", vars := ["loop.example/drawbar/impl.kindFields"], fn := fun _ => fun
  | [d, g1] => { results := [.lit (.bool true)], args := [d], vars := [g1] }
  | _ => none }
def fnDoCopyRow : OpenClaim := { program := "ytgpiclngkmjnpaagreatdoor", sum := "e9112fa203eaf30ad65adcf1aa5b081fc49ec72573949205439e068d44a67e70", func := "loop.example/drawbar/laws.FnDoCopy", spec := "fnDoCopy", inPlace := ["internal/reflectlite.ValueOf", "(internal/reflectlite.Value).Type", "(internal/reflectlite.Value).IsNil", "internal/reflectlite.TypeOf", "(internal/reflectlite.Value).Elem", "(internal/reflectlite.Value).Set"], unfollowed := true, recurses := true, named := ["loop.example/drawbar/impl.kindFields", "errors.errorType"], apart := false, laid := [("errors.errorType", laid_errors_errorType), ("loop.example/drawbar/impl.kindFields", laid_loop_example_drawbar_impl_kindFields)] }
def FnDoCopySaid : Prop := fnDoCopyRow.holds Tryz.pinned (OpenSpec.ofChange fnDoCopySpec)

/-- ITS FALSE NEIGHBOUR: 'it returns false'. Refute it at one input. -/
def fnDoCopyWrong : ChangeSpec := { name := "fnDoCopy", vars := ["loop.example/drawbar/impl.kindFields"], fn := fun _ => fun
  | [d, g1] => { results := [.lit (.bool false)], args := [d], vars := [g1] }
  | _ => none }
def FnDoCopyWrongFalsely : Prop := fnDoCopyRow.holds Tryz.pinned (OpenSpec.ofChange fnDoCopyWrong)

/-- 'laws.FnDoFetch': WHATEVER THE INPUT: true; the input reads as it did. -/
def fnDoFetchSpec : ChangeSpec := { name := "fnDoFetch", vars := ["loop.example/drawbar/impl.kindFields"], fn := fun _ => fun
  | [d, g1] => { results := [.lit (.bool true)], args := [d], vars := [g1] }
  | _ => none }
def fnDoFetchRow : OpenClaim := { program := "ytgpiclngkmjnpaagreatdoor", sum := "e9112fa203eaf30ad65adcf1aa5b081fc49ec72573949205439e068d44a67e70", func := "loop.example/drawbar/laws.FnDoFetch", spec := "fnDoFetch", inPlace := ["internal/reflectlite.ValueOf", "(internal/reflectlite.Value).Type", "(internal/reflectlite.Value).IsNil", "internal/reflectlite.TypeOf", "(internal/reflectlite.Value).Elem", "(internal/reflectlite.Value).Set"], unfollowed := true, recurses := true, named := ["loop.example/drawbar/impl.kindFields", "errors.errorType"], apart := false, laid := [("errors.errorType", laid_errors_errorType), ("loop.example/drawbar/impl.kindFields", laid_loop_example_drawbar_impl_kindFields)] }
def FnDoFetchSaid : Prop := fnDoFetchRow.holds Tryz.pinned (OpenSpec.ofChange fnDoFetchSpec)

/-- ITS FALSE NEIGHBOUR: 'it returns false'. Refute it at one input. -/
def fnDoFetchWrong : ChangeSpec := { name := "fnDoFetch", vars := ["loop.example/drawbar/impl.kindFields"], fn := fun _ => fun
  | [d, g1] => { results := [.lit (.bool false)], args := [d], vars := [g1] }
  | _ => none }
def FnDoFetchWrongFalsely : Prop := fnDoFetchRow.holds Tryz.pinned (OpenSpec.ofChange fnDoFetchWrong)

/-- 'laws.FnDoStore': WHATEVER THE INPUT: true; the input reads as it did. -/
def fnDoStoreSpec : ChangeSpec := { name := "fnDoStore", vars := ["loop.example/drawbar/impl.kindFields"], fn := fun _ => fun
  | [d, g1] => { results := [.lit (.bool true)], args := [d], vars := [g1] }
  | _ => none }
def fnDoStoreRow : OpenClaim := { program := "ytgpiclngkmjnpaagreatdoor", sum := "e9112fa203eaf30ad65adcf1aa5b081fc49ec72573949205439e068d44a67e70", func := "loop.example/drawbar/laws.FnDoStore", spec := "fnDoStore", inPlace := ["internal/reflectlite.ValueOf", "(internal/reflectlite.Value).Type", "(internal/reflectlite.Value).IsNil", "internal/reflectlite.TypeOf", "(internal/reflectlite.Value).Elem", "(internal/reflectlite.Value).Set"], unfollowed := true, recurses := true, named := ["loop.example/drawbar/impl.kindFields", "errors.errorType"], apart := false, laid := [("errors.errorType", laid_errors_errorType), ("loop.example/drawbar/impl.kindFields", laid_loop_example_drawbar_impl_kindFields)] }
def FnDoStoreSaid : Prop := fnDoStoreRow.holds Tryz.pinned (OpenSpec.ofChange fnDoStoreSpec)

/-- ITS FALSE NEIGHBOUR: 'it returns false'. Refute it at one input. -/
def fnDoStoreWrong : ChangeSpec := { name := "fnDoStore", vars := ["loop.example/drawbar/impl.kindFields"], fn := fun _ => fun
  | [d, g1] => { results := [.lit (.bool false)], args := [d], vars := [g1] }
  | _ => none }
def FnDoStoreWrongFalsely : Prop := fnDoStoreRow.holds Tryz.pinned (OpenSpec.ofChange fnDoStoreWrong)

/-- 'laws.FnBlindSame': WHATEVER THE INPUT: true; the input reads as it did. -/
def fnBlindSameSpec : ChangeSpec := { name := "fnBlindSame", vars := ["loop.example/drawbar/impl.kindFields"], fn := fun _ => fun
  | [d, g1] => { results := [.lit (.bool true)], args := [d], vars := [g1] }
  | _ => none }
def fnBlindSameRow : OpenClaim := { program := "ytgpiclngkmjnpaagreatdoor", sum := "e9112fa203eaf30ad65adcf1aa5b081fc49ec72573949205439e068d44a67e70", func := "loop.example/drawbar/laws.FnBlindSame", spec := "fnBlindSame", inPlace := ["internal/reflectlite.ValueOf", "(internal/reflectlite.Value).Type", "(internal/reflectlite.Value).IsNil", "internal/reflectlite.TypeOf", "(internal/reflectlite.Value).Elem", "(internal/reflectlite.Value).Set"], unfollowed := true, recurses := true, named := ["loop.example/drawbar/impl.kindFields", "errors.errorType"], apart := false, laid := [("errors.errorType", laid_errors_errorType), ("loop.example/drawbar/impl.kindFields", laid_loop_example_drawbar_impl_kindFields)] }
def FnBlindSameSaid : Prop := fnBlindSameRow.holds Tryz.pinned (OpenSpec.ofChange fnBlindSameSpec)

/-- ITS FALSE NEIGHBOUR: 'it returns false'. Refute it at one input. -/
def fnBlindSameWrong : ChangeSpec := { name := "fnBlindSame", vars := ["loop.example/drawbar/impl.kindFields"], fn := fun _ => fun
  | [d, g1] => { results := [.lit (.bool false)], args := [d], vars := [g1] }
  | _ => none }
def FnBlindSameWrongFalsely : Prop := fnBlindSameRow.holds Tryz.pinned (OpenSpec.ofChange fnBlindSameWrong)

/-- 'laws.FnOwnSlots': WHATEVER THE INPUT: true; the input reads as it did. -/
def fnOwnSlotsSpec : ChangeSpec := { name := "fnOwnSlots", vars := ["loop.example/drawbar/impl.kindFields"], fn := fun _ => fun
  | [d, g1] => { results := [.lit (.bool true)], args := [d], vars := [g1] }
  | _ => none }
def fnOwnSlotsRow : OpenClaim := { program := "ytgpiclngkmjnpaagreatdoor", sum := "e9112fa203eaf30ad65adcf1aa5b081fc49ec72573949205439e068d44a67e70", func := "loop.example/drawbar/laws.FnOwnSlots", spec := "fnOwnSlots", inPlace := ["internal/reflectlite.ValueOf", "(internal/reflectlite.Value).Type", "(internal/reflectlite.Value).IsNil", "internal/reflectlite.TypeOf", "(internal/reflectlite.Value).Elem", "(internal/reflectlite.Value).Set"], unfollowed := true, recurses := true, named := ["loop.example/drawbar/impl.kindFields", "errors.errorType"], apart := false, laid := [("errors.errorType", laid_errors_errorType), ("loop.example/drawbar/impl.kindFields", laid_loop_example_drawbar_impl_kindFields)] }
def FnOwnSlotsSaid : Prop := fnOwnSlotsRow.holds Tryz.pinned (OpenSpec.ofChange fnOwnSlotsSpec)

/-- ITS FALSE NEIGHBOUR: 'it returns false'. Refute it at one input. -/
def fnOwnSlotsWrong : ChangeSpec := { name := "fnOwnSlots", vars := ["loop.example/drawbar/impl.kindFields"], fn := fun _ => fun
  | [d, g1] => { results := [.lit (.bool false)], args := [d], vars := [g1] }
  | _ => none }
def FnOwnSlotsWrongFalsely : Prop := fnOwnSlotsRow.holds Tryz.pinned (OpenSpec.ofChange fnOwnSlotsWrong)

/-- 'laws.FnAnswers': WHATEVER THE INPUT: true; the input reads as it did. -/
def fnAnswersSpec : ChangeSpec := { name := "fnAnswers", vars := ["loop.example/drawbar/impl.kindFields"], fn := fun _ => fun
  | [d, g1] => { results := [.lit (.bool true)], args := [d], vars := [g1] }
  | _ => none }
def fnAnswersRow : OpenClaim := { program := "ytgpiclngkmjnpaagreatdoor", sum := "e9112fa203eaf30ad65adcf1aa5b081fc49ec72573949205439e068d44a67e70", func := "loop.example/drawbar/laws.FnAnswers", spec := "fnAnswers", inPlace := ["internal/reflectlite.ValueOf", "(internal/reflectlite.Value).Type", "(internal/reflectlite.Value).IsNil", "internal/reflectlite.TypeOf", "(internal/reflectlite.Value).Elem", "(internal/reflectlite.Value).Set"], unfollowed := true, recurses := true, named := ["loop.example/drawbar/impl.kindFields", "errors.errorType"], apart := false, laid := [("errors.errorType", laid_errors_errorType), ("loop.example/drawbar/impl.kindFields", laid_loop_example_drawbar_impl_kindFields)] }
def FnAnswersSaid : Prop := fnAnswersRow.holds Tryz.pinned (OpenSpec.ofChange fnAnswersSpec)

/-- ITS FALSE NEIGHBOUR: 'it returns false'. Refute it at one input. -/
def fnAnswersWrong : ChangeSpec := { name := "fnAnswers", vars := ["loop.example/drawbar/impl.kindFields"], fn := fun _ => fun
  | [d, g1] => { results := [.lit (.bool false)], args := [d], vars := [g1] }
  | _ => none }
def FnAnswersWrongFalsely : Prop := fnAnswersRow.holds Tryz.pinned (OpenSpec.ofChange fnAnswersWrong)

/-- 'laws.FnExactCallDo': WHATEVER THE INPUT: true; the input reads as it did. -/
def fnExactCallDoSpec : ChangeSpec := { name := "fnExactCallDo", vars := ["loop.example/drawbar/impl.kindFields"], fn := fun _ => fun
  | [d1, d2, g1] => { results := [.lit (.bool true)], args := [d1, d2], vars := [g1] }
  | _ => none }
def fnExactCallDoRow : OpenClaim := { program := "ytgpiclngkmjnpaagreatdoor", sum := "e9112fa203eaf30ad65adcf1aa5b081fc49ec72573949205439e068d44a67e70", func := "loop.example/drawbar/laws.FnExactCallDo", spec := "fnExactCallDo", inPlace := ["internal/reflectlite.ValueOf", "(internal/reflectlite.Value).Type", "(internal/reflectlite.Value).IsNil", "internal/reflectlite.TypeOf", "(internal/reflectlite.Value).Elem", "(internal/reflectlite.Value).Set"], unfollowed := true, recurses := true, named := ["loop.example/drawbar/impl.kindFields", "errors.errorType"], apart := false, laid := [("errors.errorType", laid_errors_errorType), ("loop.example/drawbar/impl.kindFields", laid_loop_example_drawbar_impl_kindFields)] }
def FnExactCallDoSaid : Prop := fnExactCallDoRow.holds Tryz.pinned (OpenSpec.ofChange fnExactCallDoSpec)

/-- ITS FALSE NEIGHBOUR: 'it returns false'. Refute it at one input. -/
def fnExactCallDoWrong : ChangeSpec := { name := "fnExactCallDo", vars := ["loop.example/drawbar/impl.kindFields"], fn := fun _ => fun
  | [d1, d2, g1] => { results := [.lit (.bool false)], args := [d1, d2], vars := [g1] }
  | _ => none }
def FnExactCallDoWrongFalsely : Prop := fnExactCallDoRow.holds Tryz.pinned (OpenSpec.ofChange fnExactCallDoWrong)

/- THE SECOND FORM. 'bulk': how many values and letters a reading holds, each counted each time it is reached (what is shared counts as often as it is met; a slice's spare places count too). A statement '..UptoSaid' is the law's where the arguments, and the package variables that the reading takes, are together of bulk at most 1048576: NARROWER than '..Said'. Prove '..Said' where nothing that the law and all that it calls make is longer than what came in: it says more and counts as full. Else prove '..UptoSaid'. A law counts once. -/
mutual
def uptoBulk {H : Type} : DataW H → Nat
  | .lit (.string bytes) => bytes.length + 1
  | .lit _ => 1
  | .nil => 1
  | .ptr d => uptoBulk d + 1
  | .slice elems spare => uptoBulkAll elems + uptoBulkAll spare + 1
  | .agg parts => uptoBulkAll parts + 1
  | .iface _ d => uptoBulk d + 1
  | .map entries => uptoBulkEntries entries + 1
  | .held _ => 1
def uptoBulkAll {H : Type} : List (DataW H) → Nat
  | [] => 0
  | d :: r => uptoBulk d + uptoBulkAll r
def uptoBulkEntries {H : Type} : List (Lit × DataW H) → Nat
  | [] => 0
  | x :: r => uptoBulkEntry x + uptoBulkEntries r
def uptoBulkEntry {H : Type} : Lit × DataW H → Nat
  | (.string bytes, d) => bytes.length + uptoBulk d + 1
  | (_, d) => uptoBulk d + 1
 end
def uptoSmall : (H : Type) → List (DataW H) → Bool := fun _ ds => decide (uptoBulkAll ds ≤ 1048576)
def OpenSpec.upto (s : _root_.Go.ChangeSpec) : _root_.Go.OpenSpec := { _root_.Go.OpenSpec.ofChange s with cond := some uptoSmall }

/-- 'laws.FnDoOk', WHERE WHAT IT READS IS OF BULK AT MOST 1048576: true; the input reads as it did. -/
def fnDoOkUptoRow : OpenClaim := { program := "ytgpiclngkmjnpaagreatdoor", sum := "e9112fa203eaf30ad65adcf1aa5b081fc49ec72573949205439e068d44a67e70", func := "loop.example/drawbar/laws.FnDoOk", spec := "fnDoOk", inPlace := ["internal/reflectlite.ValueOf", "(internal/reflectlite.Value).Type", "(internal/reflectlite.Value).IsNil", "internal/reflectlite.TypeOf", "(internal/reflectlite.Value).Elem", "(internal/reflectlite.Value).Set"], unfollowed := true, recurses := true, named := ["loop.example/drawbar/impl.kindFields", "errors.errorType"], apart := false, laid := [("errors.errorType", laid_errors_errorType), ("loop.example/drawbar/impl.kindFields", laid_loop_example_drawbar_impl_kindFields)], narrowed := true }
def FnDoOkUptoSaid : Prop := fnDoOkUptoRow.holds Tryz.pinned (OpenSpec.upto fnDoOkSpec)

/-- 'laws.FnDoRefused', WHERE WHAT IT READS IS OF BULK AT MOST 1048576: true; the input reads as it did. -/
def fnDoRefusedUptoRow : OpenClaim := { program := "ytgpiclngkmjnpaagreatdoor", sum := "e9112fa203eaf30ad65adcf1aa5b081fc49ec72573949205439e068d44a67e70", func := "loop.example/drawbar/laws.FnDoRefused", spec := "fnDoRefused", inPlace := ["internal/reflectlite.ValueOf", "(internal/reflectlite.Value).Type", "(internal/reflectlite.Value).IsNil", "internal/reflectlite.TypeOf", "(internal/reflectlite.Value).Elem", "(internal/reflectlite.Value).Set"], unfollowed := true, recurses := true, named := ["loop.example/drawbar/impl.kindFields", "errors.errorType"], apart := false, laid := [("errors.errorType", laid_errors_errorType), ("loop.example/drawbar/impl.kindFields", laid_loop_example_drawbar_impl_kindFields)], narrowed := true }
def FnDoRefusedUptoSaid : Prop := fnDoRefusedUptoRow.holds Tryz.pinned (OpenSpec.upto fnDoRefusedSpec)

/-- 'laws.FnDoTouch', WHERE WHAT IT READS IS OF BULK AT MOST 1048576: true; the input reads as it did. -/
def fnDoTouchUptoRow : OpenClaim := { program := "ytgpiclngkmjnpaagreatdoor", sum := "e9112fa203eaf30ad65adcf1aa5b081fc49ec72573949205439e068d44a67e70", func := "loop.example/drawbar/laws.FnDoTouch", spec := "fnDoTouch", inPlace := ["internal/reflectlite.ValueOf", "(internal/reflectlite.Value).Type", "(internal/reflectlite.Value).IsNil", "internal/reflectlite.TypeOf", "(internal/reflectlite.Value).Elem", "(internal/reflectlite.Value).Set"], unfollowed := true, recurses := true, named := ["loop.example/drawbar/impl.kindFields", "errors.errorType"], apart := false, laid := [("errors.errorType", laid_errors_errorType), ("loop.example/drawbar/impl.kindFields", laid_loop_example_drawbar_impl_kindFields)], narrowed := true }
def FnDoTouchUptoSaid : Prop := fnDoTouchUptoRow.holds Tryz.pinned (OpenSpec.upto fnDoTouchSpec)

/-- 'laws.FnDoRead', WHERE WHAT IT READS IS OF BULK AT MOST 1048576: true; the input reads as it did. -/
def fnDoReadUptoRow : OpenClaim := { program := "ytgpiclngkmjnpaagreatdoor", sum := "e9112fa203eaf30ad65adcf1aa5b081fc49ec72573949205439e068d44a67e70", func := "loop.example/drawbar/laws.FnDoRead", spec := "fnDoRead", inPlace := ["internal/reflectlite.ValueOf", "(internal/reflectlite.Value).Type", "(internal/reflectlite.Value).IsNil", "internal/reflectlite.TypeOf", "(internal/reflectlite.Value).Elem", "(internal/reflectlite.Value).Set"], unfollowed := true, recurses := true, named := ["loop.example/drawbar/impl.kindFields", "errors.errorType"], apart := false, laid := [("errors.errorType", laid_errors_errorType), ("loop.example/drawbar/impl.kindFields", laid_loop_example_drawbar_impl_kindFields)], narrowed := true }
def FnDoReadUptoSaid : Prop := fnDoReadUptoRow.holds Tryz.pinned (OpenSpec.upto fnDoReadSpec)

/-- 'laws.FnDoWrite', WHERE WHAT IT READS IS OF BULK AT MOST 1048576: true; the input reads as it did. -/
def fnDoWriteUptoRow : OpenClaim := { program := "ytgpiclngkmjnpaagreatdoor", sum := "e9112fa203eaf30ad65adcf1aa5b081fc49ec72573949205439e068d44a67e70", func := "loop.example/drawbar/laws.FnDoWrite", spec := "fnDoWrite", inPlace := ["internal/reflectlite.ValueOf", "(internal/reflectlite.Value).Type", "(internal/reflectlite.Value).IsNil", "internal/reflectlite.TypeOf", "(internal/reflectlite.Value).Elem", "(internal/reflectlite.Value).Set"], unfollowed := true, recurses := true, named := ["loop.example/drawbar/impl.kindFields", "errors.errorType"], apart := false, laid := [("errors.errorType", laid_errors_errorType), ("loop.example/drawbar/impl.kindFields", laid_loop_example_drawbar_impl_kindFields)], narrowed := true }
def FnDoWriteUptoSaid : Prop := fnDoWriteUptoRow.holds Tryz.pinned (OpenSpec.upto fnDoWriteSpec)

/-- 'laws.FnDoCopy', WHERE WHAT IT READS IS OF BULK AT MOST 1048576: true; the input reads as it did. -/
def fnDoCopyUptoRow : OpenClaim := { program := "ytgpiclngkmjnpaagreatdoor", sum := "e9112fa203eaf30ad65adcf1aa5b081fc49ec72573949205439e068d44a67e70", func := "loop.example/drawbar/laws.FnDoCopy", spec := "fnDoCopy", inPlace := ["internal/reflectlite.ValueOf", "(internal/reflectlite.Value).Type", "(internal/reflectlite.Value).IsNil", "internal/reflectlite.TypeOf", "(internal/reflectlite.Value).Elem", "(internal/reflectlite.Value).Set"], unfollowed := true, recurses := true, named := ["loop.example/drawbar/impl.kindFields", "errors.errorType"], apart := false, laid := [("errors.errorType", laid_errors_errorType), ("loop.example/drawbar/impl.kindFields", laid_loop_example_drawbar_impl_kindFields)], narrowed := true }
def FnDoCopyUptoSaid : Prop := fnDoCopyUptoRow.holds Tryz.pinned (OpenSpec.upto fnDoCopySpec)

/-- 'laws.FnDoFetch', WHERE WHAT IT READS IS OF BULK AT MOST 1048576: true; the input reads as it did. -/
def fnDoFetchUptoRow : OpenClaim := { program := "ytgpiclngkmjnpaagreatdoor", sum := "e9112fa203eaf30ad65adcf1aa5b081fc49ec72573949205439e068d44a67e70", func := "loop.example/drawbar/laws.FnDoFetch", spec := "fnDoFetch", inPlace := ["internal/reflectlite.ValueOf", "(internal/reflectlite.Value).Type", "(internal/reflectlite.Value).IsNil", "internal/reflectlite.TypeOf", "(internal/reflectlite.Value).Elem", "(internal/reflectlite.Value).Set"], unfollowed := true, recurses := true, named := ["loop.example/drawbar/impl.kindFields", "errors.errorType"], apart := false, laid := [("errors.errorType", laid_errors_errorType), ("loop.example/drawbar/impl.kindFields", laid_loop_example_drawbar_impl_kindFields)], narrowed := true }
def FnDoFetchUptoSaid : Prop := fnDoFetchUptoRow.holds Tryz.pinned (OpenSpec.upto fnDoFetchSpec)

/-- 'laws.FnDoStore', WHERE WHAT IT READS IS OF BULK AT MOST 1048576: true; the input reads as it did. -/
def fnDoStoreUptoRow : OpenClaim := { program := "ytgpiclngkmjnpaagreatdoor", sum := "e9112fa203eaf30ad65adcf1aa5b081fc49ec72573949205439e068d44a67e70", func := "loop.example/drawbar/laws.FnDoStore", spec := "fnDoStore", inPlace := ["internal/reflectlite.ValueOf", "(internal/reflectlite.Value).Type", "(internal/reflectlite.Value).IsNil", "internal/reflectlite.TypeOf", "(internal/reflectlite.Value).Elem", "(internal/reflectlite.Value).Set"], unfollowed := true, recurses := true, named := ["loop.example/drawbar/impl.kindFields", "errors.errorType"], apart := false, laid := [("errors.errorType", laid_errors_errorType), ("loop.example/drawbar/impl.kindFields", laid_loop_example_drawbar_impl_kindFields)], narrowed := true }
def FnDoStoreUptoSaid : Prop := fnDoStoreUptoRow.holds Tryz.pinned (OpenSpec.upto fnDoStoreSpec)

/-- 'laws.FnBlindSame', WHERE WHAT IT READS IS OF BULK AT MOST 1048576: true; the input reads as it did. -/
def fnBlindSameUptoRow : OpenClaim := { program := "ytgpiclngkmjnpaagreatdoor", sum := "e9112fa203eaf30ad65adcf1aa5b081fc49ec72573949205439e068d44a67e70", func := "loop.example/drawbar/laws.FnBlindSame", spec := "fnBlindSame", inPlace := ["internal/reflectlite.ValueOf", "(internal/reflectlite.Value).Type", "(internal/reflectlite.Value).IsNil", "internal/reflectlite.TypeOf", "(internal/reflectlite.Value).Elem", "(internal/reflectlite.Value).Set"], unfollowed := true, recurses := true, named := ["loop.example/drawbar/impl.kindFields", "errors.errorType"], apart := false, laid := [("errors.errorType", laid_errors_errorType), ("loop.example/drawbar/impl.kindFields", laid_loop_example_drawbar_impl_kindFields)], narrowed := true }
def FnBlindSameUptoSaid : Prop := fnBlindSameUptoRow.holds Tryz.pinned (OpenSpec.upto fnBlindSameSpec)

/-- 'laws.FnOwnSlots', WHERE WHAT IT READS IS OF BULK AT MOST 1048576: true; the input reads as it did. -/
def fnOwnSlotsUptoRow : OpenClaim := { program := "ytgpiclngkmjnpaagreatdoor", sum := "e9112fa203eaf30ad65adcf1aa5b081fc49ec72573949205439e068d44a67e70", func := "loop.example/drawbar/laws.FnOwnSlots", spec := "fnOwnSlots", inPlace := ["internal/reflectlite.ValueOf", "(internal/reflectlite.Value).Type", "(internal/reflectlite.Value).IsNil", "internal/reflectlite.TypeOf", "(internal/reflectlite.Value).Elem", "(internal/reflectlite.Value).Set"], unfollowed := true, recurses := true, named := ["loop.example/drawbar/impl.kindFields", "errors.errorType"], apart := false, laid := [("errors.errorType", laid_errors_errorType), ("loop.example/drawbar/impl.kindFields", laid_loop_example_drawbar_impl_kindFields)], narrowed := true }
def FnOwnSlotsUptoSaid : Prop := fnOwnSlotsUptoRow.holds Tryz.pinned (OpenSpec.upto fnOwnSlotsSpec)

/-- 'laws.FnAnswers', WHERE WHAT IT READS IS OF BULK AT MOST 1048576: true; the input reads as it did. -/
def fnAnswersUptoRow : OpenClaim := { program := "ytgpiclngkmjnpaagreatdoor", sum := "e9112fa203eaf30ad65adcf1aa5b081fc49ec72573949205439e068d44a67e70", func := "loop.example/drawbar/laws.FnAnswers", spec := "fnAnswers", inPlace := ["internal/reflectlite.ValueOf", "(internal/reflectlite.Value).Type", "(internal/reflectlite.Value).IsNil", "internal/reflectlite.TypeOf", "(internal/reflectlite.Value).Elem", "(internal/reflectlite.Value).Set"], unfollowed := true, recurses := true, named := ["loop.example/drawbar/impl.kindFields", "errors.errorType"], apart := false, laid := [("errors.errorType", laid_errors_errorType), ("loop.example/drawbar/impl.kindFields", laid_loop_example_drawbar_impl_kindFields)], narrowed := true }
def FnAnswersUptoSaid : Prop := fnAnswersUptoRow.holds Tryz.pinned (OpenSpec.upto fnAnswersSpec)

/-- 'laws.FnExactCallDo', WHERE WHAT IT READS IS OF BULK AT MOST 1048576: true; the input reads as it did. -/
def fnExactCallDoUptoRow : OpenClaim := { program := "ytgpiclngkmjnpaagreatdoor", sum := "e9112fa203eaf30ad65adcf1aa5b081fc49ec72573949205439e068d44a67e70", func := "loop.example/drawbar/laws.FnExactCallDo", spec := "fnExactCallDo", inPlace := ["internal/reflectlite.ValueOf", "(internal/reflectlite.Value).Type", "(internal/reflectlite.Value).IsNil", "internal/reflectlite.TypeOf", "(internal/reflectlite.Value).Elem", "(internal/reflectlite.Value).Set"], unfollowed := true, recurses := true, named := ["loop.example/drawbar/impl.kindFields", "errors.errorType"], apart := false, laid := [("errors.errorType", laid_errors_errorType), ("loop.example/drawbar/impl.kindFields", laid_loop_example_drawbar_impl_kindFields)], narrowed := true }
def FnExactCallDoUptoSaid : Prop := fnExactCallDoUptoRow.holds Tryz.pinned (OpenSpec.upto fnExactCallDoSpec)

end Rows
end Go.Proofs.YtgpiclngkmjnpaaGreatDoor
