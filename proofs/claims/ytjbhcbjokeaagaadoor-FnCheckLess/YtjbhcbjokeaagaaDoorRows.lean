/-
  NARROWER THAN 'FOR EVERY INPUT', by the rows' own cells (each row's printed sentence says how): FnCheckNone: laid · FnCheckLess: laid · FnCheckBlind: laid.
  DERIVED. THE GIVEN ROWS OF THIS SEAT. 3 by the template 'for every input the law returns true; each argument reads behind the call as it read before'; 0 by the template 'total and deterministic' (their statements: YtjbhcbjokeaagaaDoorTotals.lean).
  GIVEN WITH THE SEED: the statements are not yours to turn. If you find one false, say at which input.
  Laid BY PROGRAM, IN A SANDBOX (cutbox-rows.mjs): the forced cells as the released guide's own fill.sh prints them over the translation 4bd6550ab6adfb5f… (all of the seat's roots in one cut). By AI agents, Wed Nov 11 2026. No macro, syntax, notation, axiom, sorry.
-/
import Derived.Test.YtjbhcbjokeaagaaDoorChecked
import GoSem.Claim
import GoSem.ClaimJoined
import GoSem.ClaimMapViews
import Derived.JoinedTies
import Derived.KernelRfl
namespace Go.Proofs.YtjbhcbjokeaagaaDoor
/- THE CELL 'sum', in the pinned program and in every row, IS THE sha256 OF THE DUMP (.gsa) THAT YtjbhcbjokeaagaaDoorProg.lean LOADS. Nothing in Lean hashes anything: it is a label: what it is worth is what the hold of that sum in a sandbox is worth. -/
noncomputable def Tryd.pinned : Pinned := { name := "ytjbhcbjokeaagaadoor", sum := "4bd6550ab6adfb5f0f6fa1b0afa392754e339773c515af987ca0cde06cf9832d", checked := Tryd.checked }
namespace Rows
def none {H : Type} : Left H := { results := [], args := [] }

/- WHAT THE LISTED PACKAGE-LEVEL VARIABLES READ AS WHEN THE CALL BEGINS. Each datum BY PROGRAM (the guide's laid-datum.mjs) off the statement by which the dump's own 'gosem.cut.vars' lays the variable. In a bare row this is a premise. The card (YtjbhcbjokeaagaaDoorCards.lean) ties it to the program's text. -/
def laid_errors_errorType {H : Type} : DataW H := .iface "internal/reflectlite.rtype" (.agg [.ptr (.lit (.string [101, 114, 114, 111, 114]))])
def laid_loop_example_drawbar_impl_kindFields {H : Type} : DataW H := .agg [.agg [.lit (.string []), .agg [.lit (.int .i64 0), .lit (.int .i64 0)], .agg [.lit (.int .i64 0), .lit (.int .i64 0)], .agg [.lit (.int .i64 0), .lit (.int .i64 0)], .agg [.lit (.int .i64 0), .lit (.int .i64 0)], .agg [.lit (.int .i64 0), .lit (.int .i64 0)]], .agg [.lit (.string [112, 97, 103, 101]), .agg [.lit (.int .i64 0), .lit (.int .i64 5)], .agg [.lit (.int .i64 0), .lit (.int .i64 99)], .agg [.lit (.int .i64 0), .lit (.int .i64 0)], .agg [.lit (.int .i64 0), .lit (.int .i64 0)], .agg [.lit (.int .i64 0), .lit (.int .i64 0)]], .agg [.lit (.string [110, 111, 100, 101]), .agg [.lit (.int .i64 0), .lit (.int .i64 5)], .agg [.lit (.int .i64 0), .lit (.int .i64 0)], .agg [.lit (.int .i64 0), .lit (.int .i64 0)], .agg [.lit (.int .i64 4), .lit (.int .i64 4)], .agg [.lit (.int .i64 0), .lit (.int .i64 0)]], .agg [.lit (.string [114, 117, 110]), .agg [.lit (.int .i64 0), .lit (.int .i64 0)], .agg [.lit (.int .i64 (-4)), .lit (.int .i64 99)], .agg [.lit (.int .i64 0), .lit (.int .i64 0)], .agg [.lit (.int .i64 4), .lit (.int .i64 4)], .agg [.lit (.int .i64 0), .lit (.int .i64 0)]], .agg [.lit (.string [112, 105, 112, 101]), .agg [.lit (.int .i64 0), .lit (.int .i64 5)], .agg [.lit (.int .i64 0), .lit (.int .i64 0)], .agg [.lit (.int .i64 0), .lit (.int .i64 0)], .agg [.lit (.int .i64 0), .lit (.int .i64 0)], .agg [.lit (.int .i64 0), .lit (.int .i64 3)]], .agg [.lit (.string [103, 97, 116, 101]), .agg [.lit (.int .i64 0), .lit (.int .i64 0)], .agg [.lit (.int .i64 0), .lit (.int .i64 99)], .agg [.lit (.int .i64 1), .lit (.int .i64 8)], .agg [.lit (.int .i64 0), .lit (.int .i64 0)], .agg [.lit (.int .i64 0), .lit (.int .i64 0)]]]

/-- 'laws.FnCheckNone': WHATEVER THE INPUT: true; the input reads as it did. -/
def fnCheckNoneSpec : ChangeSpec := { name := "fnCheckNone", vars := ["loop.example/drawbar/impl.kindFields"], fn := fun _ => fun
  | [d, g1] => { results := [.lit (.bool true)], args := [d], vars := [g1] }
  | _ => none }
def fnCheckNoneRow : OpenClaim := { program := "ytjbhcbjokeaagaadoor", sum := "4bd6550ab6adfb5f0f6fa1b0afa392754e339773c515af987ca0cde06cf9832d", func := "loop.example/drawbar/laws.FnCheckNone", spec := "fnCheckNone", inPlace := ["internal/reflectlite.ValueOf", "(internal/reflectlite.Value).Type", "(internal/reflectlite.Value).IsNil", "internal/reflectlite.TypeOf", "(internal/reflectlite.Value).Elem", "(internal/reflectlite.Value).Set"], unfollowed := true, recurses := true, named := ["loop.example/drawbar/impl.kindFields", "errors.errorType"], apart := false, laid := [("errors.errorType", laid_errors_errorType), ("loop.example/drawbar/impl.kindFields", laid_loop_example_drawbar_impl_kindFields)] }
def FnCheckNoneSaid : Prop := fnCheckNoneRow.holds Tryd.pinned (OpenSpec.ofChange fnCheckNoneSpec)

/-- ITS FALSE NEIGHBOUR: 'it returns false'. Refute it at one input. -/
def fnCheckNoneWrong : ChangeSpec := { name := "fnCheckNone", vars := ["loop.example/drawbar/impl.kindFields"], fn := fun _ => fun
  | [d, g1] => { results := [.lit (.bool false)], args := [d], vars := [g1] }
  | _ => none }
def FnCheckNoneWrongFalsely : Prop := fnCheckNoneRow.holds Tryd.pinned (OpenSpec.ofChange fnCheckNoneWrong)

/-- 'laws.FnCheckLess': WHATEVER THE INPUT: true; the input reads as it did. -/
def fnCheckLessSpec : ChangeSpec := { name := "fnCheckLess", vars := ["loop.example/drawbar/impl.kindFields"], fn := fun _ => fun
  | [d1, d2, g1] => { results := [.lit (.bool true)], args := [d1, d2], vars := [g1] }
  | _ => none }
def fnCheckLessRow : OpenClaim := { program := "ytjbhcbjokeaagaadoor", sum := "4bd6550ab6adfb5f0f6fa1b0afa392754e339773c515af987ca0cde06cf9832d", func := "loop.example/drawbar/laws.FnCheckLess", spec := "fnCheckLess", inPlace := ["internal/reflectlite.ValueOf", "(internal/reflectlite.Value).Type", "(internal/reflectlite.Value).IsNil", "internal/reflectlite.TypeOf", "(internal/reflectlite.Value).Elem", "(internal/reflectlite.Value).Set"], unfollowed := true, recurses := true, named := ["loop.example/drawbar/impl.kindFields", "errors.errorType"], apart := false, laid := [("errors.errorType", laid_errors_errorType), ("loop.example/drawbar/impl.kindFields", laid_loop_example_drawbar_impl_kindFields)] }
def FnCheckLessSaid : Prop := fnCheckLessRow.holds Tryd.pinned (OpenSpec.ofChange fnCheckLessSpec)

/-- ITS FALSE NEIGHBOUR: 'it returns false'. Refute it at one input. -/
def fnCheckLessWrong : ChangeSpec := { name := "fnCheckLess", vars := ["loop.example/drawbar/impl.kindFields"], fn := fun _ => fun
  | [d1, d2, g1] => { results := [.lit (.bool false)], args := [d1, d2], vars := [g1] }
  | _ => none }
def FnCheckLessWrongFalsely : Prop := fnCheckLessRow.holds Tryd.pinned (OpenSpec.ofChange fnCheckLessWrong)

/-- 'laws.FnCheckBlind': WHATEVER THE INPUT: true; the input reads as it did. -/
def fnCheckBlindSpec : ChangeSpec := { name := "fnCheckBlind", vars := ["loop.example/drawbar/impl.kindFields"], fn := fun _ => fun
  | [d1, d2, g1] => { results := [.lit (.bool true)], args := [d1, d2], vars := [g1] }
  | _ => none }
def fnCheckBlindRow : OpenClaim := { program := "ytjbhcbjokeaagaadoor", sum := "4bd6550ab6adfb5f0f6fa1b0afa392754e339773c515af987ca0cde06cf9832d", func := "loop.example/drawbar/laws.FnCheckBlind", spec := "fnCheckBlind", inPlace := ["internal/reflectlite.ValueOf", "(internal/reflectlite.Value).Type", "(internal/reflectlite.Value).IsNil", "internal/reflectlite.TypeOf", "(internal/reflectlite.Value).Elem", "(internal/reflectlite.Value).Set"], unfollowed := true, recurses := true, named := ["loop.example/drawbar/impl.kindFields", "errors.errorType"], apart := false, laid := [("errors.errorType", laid_errors_errorType), ("loop.example/drawbar/impl.kindFields", laid_loop_example_drawbar_impl_kindFields)] }
def FnCheckBlindSaid : Prop := fnCheckBlindRow.holds Tryd.pinned (OpenSpec.ofChange fnCheckBlindSpec)

/-- ITS FALSE NEIGHBOUR: 'it returns false'. Refute it at one input. -/
def fnCheckBlindWrong : ChangeSpec := { name := "fnCheckBlind", vars := ["loop.example/drawbar/impl.kindFields"], fn := fun _ => fun
  | [d1, d2, g1] => { results := [.lit (.bool false)], args := [d1, d2], vars := [g1] }
  | _ => none }
def FnCheckBlindWrongFalsely : Prop := fnCheckBlindRow.holds Tryd.pinned (OpenSpec.ofChange fnCheckBlindWrong)

/- THE SECOND FORM. 'bulk': how many values and letters a reading holds, each counted each time it is reached (what is shared counts as often as it is met; a slice's spare places count too). A statement '..UptoSaid' is the law's where the arguments, and the package variables that the reading takes, are together of bulk at most 1048576: NARROWER than '..Said'. Prove '..Said' where nothing that the law and all that it calls make is longer than what came in: it says more and counts as full. Else prove '..UptoSaid'. A law counts once. -/
mutual
def uptoBulk {H : Type} : DataW H → Nat
  | .lit (.string bytes) => bytes.length + 1
  | .lit _ => 1
  | .nil => 1
  | .ptr d => uptoBulk d + 1
  | .slice elems spare => uptoBulkAll elems + uptoBulkAll spare + 1
  | .agg parts => uptoBulkAll parts + 1
  | .iface _ d => uptoBulk d + 1
  | .map entries => uptoBulkEntries entries + 1
  | .held _ => 1
def uptoBulkAll {H : Type} : List (DataW H) → Nat
  | [] => 0
  | d :: r => uptoBulk d + uptoBulkAll r
def uptoBulkEntries {H : Type} : List (Lit × DataW H) → Nat
  | [] => 0
  | x :: r => uptoBulkEntry x + uptoBulkEntries r
def uptoBulkEntry {H : Type} : Lit × DataW H → Nat
  | (.string bytes, d) => bytes.length + uptoBulk d + 1
  | (_, d) => uptoBulk d + 1
 end
def uptoSmall : (H : Type) → List (DataW H) → Bool := fun _ ds => decide (uptoBulkAll ds ≤ 1048576)
def OpenSpec.upto (s : _root_.Go.ChangeSpec) : _root_.Go.OpenSpec := { _root_.Go.OpenSpec.ofChange s with cond := some uptoSmall }

/-- 'laws.FnCheckNone', WHERE WHAT IT READS IS OF BULK AT MOST 1048576: true; the input reads as it did. -/
def fnCheckNoneUptoRow : OpenClaim := { program := "ytjbhcbjokeaagaadoor", sum := "4bd6550ab6adfb5f0f6fa1b0afa392754e339773c515af987ca0cde06cf9832d", func := "loop.example/drawbar/laws.FnCheckNone", spec := "fnCheckNone", inPlace := ["internal/reflectlite.ValueOf", "(internal/reflectlite.Value).Type", "(internal/reflectlite.Value).IsNil", "internal/reflectlite.TypeOf", "(internal/reflectlite.Value).Elem", "(internal/reflectlite.Value).Set"], unfollowed := true, recurses := true, named := ["loop.example/drawbar/impl.kindFields", "errors.errorType"], apart := false, laid := [("errors.errorType", laid_errors_errorType), ("loop.example/drawbar/impl.kindFields", laid_loop_example_drawbar_impl_kindFields)], narrowed := true }
def FnCheckNoneUptoSaid : Prop := fnCheckNoneUptoRow.holds Tryd.pinned (OpenSpec.upto fnCheckNoneSpec)

/-- 'laws.FnCheckLess', WHERE WHAT IT READS IS OF BULK AT MOST 1048576: true; the input reads as it did. -/
def fnCheckLessUptoRow : OpenClaim := { program := "ytjbhcbjokeaagaadoor", sum := "4bd6550ab6adfb5f0f6fa1b0afa392754e339773c515af987ca0cde06cf9832d", func := "loop.example/drawbar/laws.FnCheckLess", spec := "fnCheckLess", inPlace := ["internal/reflectlite.ValueOf", "(internal/reflectlite.Value).Type", "(internal/reflectlite.Value).IsNil", "internal/reflectlite.TypeOf", "(internal/reflectlite.Value).Elem", "(internal/reflectlite.Value).Set"], unfollowed := true, recurses := true, named := ["loop.example/drawbar/impl.kindFields", "errors.errorType"], apart := false, laid := [("errors.errorType", laid_errors_errorType), ("loop.example/drawbar/impl.kindFields", laid_loop_example_drawbar_impl_kindFields)], narrowed := true }
def FnCheckLessUptoSaid : Prop := fnCheckLessUptoRow.holds Tryd.pinned (OpenSpec.upto fnCheckLessSpec)

/-- 'laws.FnCheckBlind', WHERE WHAT IT READS IS OF BULK AT MOST 1048576: true; the input reads as it did. -/
def fnCheckBlindUptoRow : OpenClaim := { program := "ytjbhcbjokeaagaadoor", sum := "4bd6550ab6adfb5f0f6fa1b0afa392754e339773c515af987ca0cde06cf9832d", func := "loop.example/drawbar/laws.FnCheckBlind", spec := "fnCheckBlind", inPlace := ["internal/reflectlite.ValueOf", "(internal/reflectlite.Value).Type", "(internal/reflectlite.Value).IsNil", "internal/reflectlite.TypeOf", "(internal/reflectlite.Value).Elem", "(internal/reflectlite.Value).Set"], unfollowed := true, recurses := true, named := ["loop.example/drawbar/impl.kindFields", "errors.errorType"], apart := false, laid := [("errors.errorType", laid_errors_errorType), ("loop.example/drawbar/impl.kindFields", laid_loop_example_drawbar_impl_kindFields)], narrowed := true }
def FnCheckBlindUptoSaid : Prop := fnCheckBlindUptoRow.holds Tryd.pinned (OpenSpec.upto fnCheckBlindSpec)

end Rows
end Go.Proofs.YtjbhcbjokeaagaaDoor
