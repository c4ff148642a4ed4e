/-
  No cell of these rows narrows 'for every input' (looked for: loops, veiled, ifaces, maps, wideKeys, modest, calm, conditions, laid).
  DERIVED. THE GIVEN ROWS OF THIS SEAT. 3 by the template 'for every input the law returns true; each argument reads behind the call as it read before'; 0 by the template 'total and deterministic' (their statements: YtiooefcdlemodabTotals.lean).
  GIVEN WITH THE SEED: the statements are not yours to turn. If you find one false, say at which input.
  Laid BY PROGRAM, IN A SANDBOX (cutbox-rows.mjs): the forced cells as the released guide's own fill.sh prints them over the translation 496d5df03dd887ee… (all of the seat's roots in one cut). By AI agents, Wed Nov 11 2026. No macro, syntax, notation, axiom, sorry.
-/
import Derived.Test.YtiooefcdlemodabChecked
import GoSem.Claim
import GoSem.ClaimJoined
import GoSem.ClaimMapViews
import Derived.JoinedTies
import Derived.KernelRfl
namespace Go.Proofs.Ytiooefcdlemodab
/- THE CELL 'sum', in the pinned program and in every row, IS THE sha256 OF THE DUMP (.gsa) THAT YtiooefcdlemodabProg.lean LOADS. Nothing in Lean hashes anything: it is a label: what it is worth is what the hold of that sum in a sandbox is worth. -/
noncomputable def Try.pinned : Pinned := { name := "ytiooefcdlemodab", sum := "496d5df03dd887ee7c9de326ae5449f08f4879eaceb5485dde8cd760bec47944", checked := Try.checked }
namespace Rows
def none {H : Type} : Left H := { results := [], args := [] }

/-- 'laws.FnExactLabelFlow': WHATEVER THE INPUT: true; the input reads as it did. -/
def fnExactLabelFlowSpec : ChangeSpec := { name := "fnExactLabelFlow", fn := fun _ => fun
  | [d1, d2] => { results := [.lit (.bool true)], args := [d1, d2] }
  | _ => none }
def fnExactLabelFlowRow : OpenClaim := { program := "ytiooefcdlemodab", sum := "496d5df03dd887ee7c9de326ae5449f08f4879eaceb5485dde8cd760bec47944", func := "loop.example/drawbar/laws.FnExactLabelFlow", spec := "fnExactLabelFlow", apart := false }
def FnExactLabelFlowSaid : Prop := fnExactLabelFlowRow.holds Try.pinned (OpenSpec.ofChange fnExactLabelFlowSpec)

/-- ITS FALSE NEIGHBOUR: 'it returns false'. Refute it at one input. -/
def fnExactLabelFlowWrong : ChangeSpec := { name := "fnExactLabelFlow", fn := fun _ => fun
  | [d1, d2] => { results := [.lit (.bool false)], args := [d1, d2] }
  | _ => none }
def FnExactLabelFlowWrongFalsely : Prop := fnExactLabelFlowRow.holds Try.pinned (OpenSpec.ofChange fnExactLabelFlowWrong)

/-- 'laws.FnExactLabelJoin': WHATEVER THE INPUT: true; the input reads as it did. -/
def fnExactLabelJoinSpec : ChangeSpec := { name := "fnExactLabelJoin", fn := fun _ => fun
  | [d1, d2] => { results := [.lit (.bool true)], args := [d1, d2] }
  | _ => none }
def fnExactLabelJoinRow : OpenClaim := { program := "ytiooefcdlemodab", sum := "496d5df03dd887ee7c9de326ae5449f08f4879eaceb5485dde8cd760bec47944", func := "loop.example/drawbar/laws.FnExactLabelJoin", spec := "fnExactLabelJoin", apart := false }
def FnExactLabelJoinSaid : Prop := fnExactLabelJoinRow.holds Try.pinned (OpenSpec.ofChange fnExactLabelJoinSpec)

/-- ITS FALSE NEIGHBOUR: 'it returns false'. Refute it at one input. -/
def fnExactLabelJoinWrong : ChangeSpec := { name := "fnExactLabelJoin", fn := fun _ => fun
  | [d1, d2] => { results := [.lit (.bool false)], args := [d1, d2] }
  | _ => none }
def FnExactLabelJoinWrongFalsely : Prop := fnExactLabelJoinRow.holds Try.pinned (OpenSpec.ofChange fnExactLabelJoinWrong)

/-- 'laws.FnExactLabelMeet': WHATEVER THE INPUT: true; the input reads as it did. -/
def fnExactLabelMeetSpec : ChangeSpec := { name := "fnExactLabelMeet", fn := fun _ => fun
  | [d1, d2] => { results := [.lit (.bool true)], args := [d1, d2] }
  | _ => none }
def fnExactLabelMeetRow : OpenClaim := { program := "ytiooefcdlemodab", sum := "496d5df03dd887ee7c9de326ae5449f08f4879eaceb5485dde8cd760bec47944", func := "loop.example/drawbar/laws.FnExactLabelMeet", spec := "fnExactLabelMeet", apart := false }
def FnExactLabelMeetSaid : Prop := fnExactLabelMeetRow.holds Try.pinned (OpenSpec.ofChange fnExactLabelMeetSpec)

/-- ITS FALSE NEIGHBOUR: 'it returns false'. Refute it at one input. -/
def fnExactLabelMeetWrong : ChangeSpec := { name := "fnExactLabelMeet", fn := fun _ => fun
  | [d1, d2] => { results := [.lit (.bool false)], args := [d1, d2] }
  | _ => none }
def FnExactLabelMeetWrongFalsely : Prop := fnExactLabelMeetRow.holds Try.pinned (OpenSpec.ofChange fnExactLabelMeetWrong)

/- THE SECOND FORM. 'bulk': how many values and letters a reading holds, each counted each time it is reached (what is shared counts as often as it is met; a slice's spare places count too). A statement '..UptoSaid' is the law's where the arguments, and the package variables that the reading takes, are together of bulk at most 1048576: NARROWER than '..Said'. Prove '..Said' where nothing that the law and all that it calls make is longer than what came in: it says more and counts as full. Else prove '..UptoSaid'. A law counts once. -/
mutual
def uptoBulk {H : Type} : DataW H → Nat
  | .lit (.string bytes) => bytes.length + 1
  | .lit _ => 1
  | .nil => 1
  | .ptr d => uptoBulk d + 1
  | .slice elems spare => uptoBulkAll elems + uptoBulkAll spare + 1
  | .agg parts => uptoBulkAll parts + 1
  | .iface _ d => uptoBulk d + 1
  | .map entries => uptoBulkEntries entries + 1
  | .held _ => 1
def uptoBulkAll {H : Type} : List (DataW H) → Nat
  | [] => 0
  | d :: r => uptoBulk d + uptoBulkAll r
def uptoBulkEntries {H : Type} : List (Lit × DataW H) → Nat
  | [] => 0
  | x :: r => uptoBulkEntry x + uptoBulkEntries r
def uptoBulkEntry {H : Type} : Lit × DataW H → Nat
  | (.string bytes, d) => bytes.length + uptoBulk d + 1
  | (_, d) => uptoBulk d + 1
 end
def uptoSmall : (H : Type) → List (DataW H) → Bool := fun _ ds => decide (uptoBulkAll ds ≤ 1048576)
def OpenSpec.upto (s : _root_.Go.ChangeSpec) : _root_.Go.OpenSpec := { _root_.Go.OpenSpec.ofChange s with cond := some uptoSmall }

/-- 'laws.FnExactLabelFlow', WHERE WHAT IT READS IS OF BULK AT MOST 1048576: true; the input reads as it did. -/
def fnExactLabelFlowUptoRow : OpenClaim := { program := "ytiooefcdlemodab", sum := "496d5df03dd887ee7c9de326ae5449f08f4879eaceb5485dde8cd760bec47944", func := "loop.example/drawbar/laws.FnExactLabelFlow", spec := "fnExactLabelFlow", apart := false, narrowed := true }
def FnExactLabelFlowUptoSaid : Prop := fnExactLabelFlowUptoRow.holds Try.pinned (OpenSpec.upto fnExactLabelFlowSpec)

/-- 'laws.FnExactLabelJoin', WHERE WHAT IT READS IS OF BULK AT MOST 1048576: true; the input reads as it did. -/
def fnExactLabelJoinUptoRow : OpenClaim := { program := "ytiooefcdlemodab", sum := "496d5df03dd887ee7c9de326ae5449f08f4879eaceb5485dde8cd760bec47944", func := "loop.example/drawbar/laws.FnExactLabelJoin", spec := "fnExactLabelJoin", apart := false, narrowed := true }
def FnExactLabelJoinUptoSaid : Prop := fnExactLabelJoinUptoRow.holds Try.pinned (OpenSpec.upto fnExactLabelJoinSpec)

/-- 'laws.FnExactLabelMeet', WHERE WHAT IT READS IS OF BULK AT MOST 1048576: true; the input reads as it did. -/
def fnExactLabelMeetUptoRow : OpenClaim := { program := "ytiooefcdlemodab", sum := "496d5df03dd887ee7c9de326ae5449f08f4879eaceb5485dde8cd760bec47944", func := "loop.example/drawbar/laws.FnExactLabelMeet", spec := "fnExactLabelMeet", apart := false, narrowed := true }
def FnExactLabelMeetUptoSaid : Prop := fnExactLabelMeetUptoRow.holds Try.pinned (OpenSpec.upto fnExactLabelMeetSpec)

end Rows
end Go.Proofs.Ytiooefcdlemodab
