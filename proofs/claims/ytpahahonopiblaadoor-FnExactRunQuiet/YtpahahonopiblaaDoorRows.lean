/-
  NARROWER THAN 'FOR EVERY INPUT', by the rows' own cells (each row's printed sentence says how): FnExactTableText: laid · FnTableText: laid · FnTableMore: laid · FnNewApart: laid · FnViewHigh: laid · FnExactViewHigh: laid · FnExactRunLow: laid · FnExactRunQuiet: laid · FnRunLoud: laid · FnLowTwice: laid.
  DERIVED. THE GIVEN ROWS OF THIS SEAT. 10 by the template 'for every input the law returns true; each argument reads behind the call as it read before'; 0 by the template 'total and deterministic' (their statements: YtpahahonopiblaaDoorTotals.lean).
  GIVEN WITH THE SEED: the statements are not yours to turn. If you find one false, say at which input.
  Laid BY PROGRAM, IN A SANDBOX (cutbox-rows.mjs): the forced cells as the released guide's own fill.sh prints them over the translation f9be7d93598ef552… (all of the seat's roots in one cut). By AI agents, Wed Nov 11 2026. No macro, syntax, notation, axiom, sorry.
-/
import Derived.Test.YtpahahonopiblaaDoorChecked
import GoSem.Claim
import GoSem.ClaimJoined
import GoSem.ClaimMapViews
import Derived.JoinedTies
import Derived.KernelRfl
namespace Go.Proofs.YtpahahonopiblaaDoor
/- THE CELL 'sum', in the pinned program and in every row, IS THE sha256 OF THE DUMP (.gsa) THAT YtpahahonopiblaaDoorProg.lean LOADS. Nothing in Lean hashes anything: it is a label: what it is worth is what the hold of that sum in a sandbox is worth. -/
noncomputable def Tryd.pinned : Pinned := { name := "ytpahahonopiblaadoor", sum := "f9be7d93598ef55227451cf9660a12ab8667a523e68780ed70435f2b5b53b4ce", checked := Tryd.checked }
namespace Rows
def none {H : Type} : Left H := { results := [], args := [] }

/- WHAT THE LISTED PACKAGE-LEVEL VARIABLES READ AS WHEN THE CALL BEGINS. Each datum BY PROGRAM (the guide's laid-datum.mjs) off the statement by which the dump's own 'gosem.cut.vars' lays the variable. In a bare row this is a premise. The card (YtpahahonopiblaaDoorCards.lean) ties it to the program's text. -/
def laid_math_bits_deBruijn32tab {H : Type} : DataW H := .agg [.lit (.int .u8 0), .lit (.int .u8 1), .lit (.int .u8 28), .lit (.int .u8 2), .lit (.int .u8 29), .lit (.int .u8 14), .lit (.int .u8 24), .lit (.int .u8 3), .lit (.int .u8 30), .lit (.int .u8 22), .lit (.int .u8 20), .lit (.int .u8 15), .lit (.int .u8 25), .lit (.int .u8 17), .lit (.int .u8 4), .lit (.int .u8 8), .lit (.int .u8 31), .lit (.int .u8 27), .lit (.int .u8 13), .lit (.int .u8 23), .lit (.int .u8 21), .lit (.int .u8 19), .lit (.int .u8 16), .lit (.int .u8 7), .lit (.int .u8 26), .lit (.int .u8 12), .lit (.int .u8 18), .lit (.int .u8 6), .lit (.int .u8 11), .lit (.int .u8 5), .lit (.int .u8 10), .lit (.int .u8 9)]
def laid_math_bits_deBruijn64tab {H : Type} : DataW H := .agg [.lit (.int .u8 0), .lit (.int .u8 1), .lit (.int .u8 56), .lit (.int .u8 2), .lit (.int .u8 57), .lit (.int .u8 49), .lit (.int .u8 28), .lit (.int .u8 3), .lit (.int .u8 61), .lit (.int .u8 58), .lit (.int .u8 42), .lit (.int .u8 50), .lit (.int .u8 38), .lit (.int .u8 29), .lit (.int .u8 17), .lit (.int .u8 4), .lit (.int .u8 62), .lit (.int .u8 47), .lit (.int .u8 59), .lit (.int .u8 36), .lit (.int .u8 45), .lit (.int .u8 43), .lit (.int .u8 51), .lit (.int .u8 22), .lit (.int .u8 53), .lit (.int .u8 39), .lit (.int .u8 33), .lit (.int .u8 30), .lit (.int .u8 24), .lit (.int .u8 18), .lit (.int .u8 12), .lit (.int .u8 5), .lit (.int .u8 63), .lit (.int .u8 55), .lit (.int .u8 48), .lit (.int .u8 27), .lit (.int .u8 60), .lit (.int .u8 41), .lit (.int .u8 37), .lit (.int .u8 16), .lit (.int .u8 46), .lit (.int .u8 35), .lit (.int .u8 44), .lit (.int .u8 21), .lit (.int .u8 52), .lit (.int .u8 32), .lit (.int .u8 23), .lit (.int .u8 11), .lit (.int .u8 54), .lit (.int .u8 26), .lit (.int .u8 40), .lit (.int .u8 15), .lit (.int .u8 34), .lit (.int .u8 20), .lit (.int .u8 31), .lit (.int .u8 10), .lit (.int .u8 25), .lit (.int .u8 14), .lit (.int .u8 19), .lit (.int .u8 9), .lit (.int .u8 13), .lit (.int .u8 8), .lit (.int .u8 7), .lit (.int .u8 6)]
def laid_internal_strconv_uint64pow10 {H : Type} : DataW H := .agg [.lit (.int .u64 1), .lit (.int .u64 10), .lit (.int .u64 100), .lit (.int .u64 1000), .lit (.int .u64 10000), .lit (.int .u64 100000), .lit (.int .u64 1000000), .lit (.int .u64 10000000), .lit (.int .u64 100000000), .lit (.int .u64 1000000000), .lit (.int .u64 10000000000), .lit (.int .u64 100000000000), .lit (.int .u64 1000000000000), .lit (.int .u64 10000000000000), .lit (.int .u64 100000000000000), .lit (.int .u64 1000000000000000), .lit (.int .u64 10000000000000000), .lit (.int .u64 100000000000000000), .lit (.int .u64 1000000000000000000), .lit (.int .u64 10000000000000000000)]
def laid_loop_example_drawbar_impl_kindFields {H : Type} : DataW H := .agg [.agg [.lit (.string []), .agg [.lit (.int .i64 0), .lit (.int .i64 0)], .agg [.lit (.int .i64 0), .lit (.int .i64 0)], .agg [.lit (.int .i64 0), .lit (.int .i64 0)], .agg [.lit (.int .i64 0), .lit (.int .i64 0)], .agg [.lit (.int .i64 0), .lit (.int .i64 0)]], .agg [.lit (.string [112, 97, 103, 101]), .agg [.lit (.int .i64 0), .lit (.int .i64 5)], .agg [.lit (.int .i64 0), .lit (.int .i64 99)], .agg [.lit (.int .i64 0), .lit (.int .i64 0)], .agg [.lit (.int .i64 0), .lit (.int .i64 0)], .agg [.lit (.int .i64 0), .lit (.int .i64 0)]], .agg [.lit (.string [110, 111, 100, 101]), .agg [.lit (.int .i64 0), .lit (.int .i64 5)], .agg [.lit (.int .i64 0), .lit (.int .i64 0)], .agg [.lit (.int .i64 0), .lit (.int .i64 0)], .agg [.lit (.int .i64 4), .lit (.int .i64 4)], .agg [.lit (.int .i64 0), .lit (.int .i64 0)]], .agg [.lit (.string [114, 117, 110]), .agg [.lit (.int .i64 0), .lit (.int .i64 0)], .agg [.lit (.int .i64 (-4)), .lit (.int .i64 99)], .agg [.lit (.int .i64 0), .lit (.int .i64 0)], .agg [.lit (.int .i64 4), .lit (.int .i64 4)], .agg [.lit (.int .i64 0), .lit (.int .i64 0)]], .agg [.lit (.string [112, 105, 112, 101]), .agg [.lit (.int .i64 0), .lit (.int .i64 5)], .agg [.lit (.int .i64 0), .lit (.int .i64 0)], .agg [.lit (.int .i64 0), .lit (.int .i64 0)], .agg [.lit (.int .i64 0), .lit (.int .i64 0)], .agg [.lit (.int .i64 0), .lit (.int .i64 3)]], .agg [.lit (.string [103, 97, 116, 101]), .agg [.lit (.int .i64 0), .lit (.int .i64 0)], .agg [.lit (.int .i64 0), .lit (.int .i64 99)], .agg [.lit (.int .i64 1), .lit (.int .i64 8)], .agg [.lit (.int .i64 0), .lit (.int .i64 0)], .agg [.lit (.int .i64 0), .lit (.int .i64 0)]]]

/-- 'laws.FnExactTableText': WHATEVER THE INPUT: true; the input reads as it did. -/
def fnExactTableTextSpec : ChangeSpec := { name := "fnExactTableText", vars := ["loop.example/drawbar/impl.kindFields"], fn := fun _ => fun
  | [d, g1] => { results := [.lit (.bool true)], args := [d], vars := [g1] }
  | _ => none }
def fnExactTableTextRow : OpenClaim := { program := "ytpahahonopiblaadoor", sum := "f9be7d93598ef55227451cf9660a12ab8667a523e68780ed70435f2b5b53b4ce", func := "loop.example/drawbar/laws.FnExactTableText", spec := "fnExactTableText", unfollowed := true, recurses := true, named := ["loop.example/drawbar/impl.kindFields", "internal/strconv.uint64pow10", "math/bits.deBruijn32tab", "math/bits.deBruijn64tab"], apart := false, laid := [("math/bits.deBruijn32tab", laid_math_bits_deBruijn32tab), ("math/bits.deBruijn64tab", laid_math_bits_deBruijn64tab), ("internal/strconv.uint64pow10", laid_internal_strconv_uint64pow10), ("loop.example/drawbar/impl.kindFields", laid_loop_example_drawbar_impl_kindFields)] }
def FnExactTableTextSaid : Prop := fnExactTableTextRow.holds Tryd.pinned (OpenSpec.ofChange fnExactTableTextSpec)

/-- ITS FALSE NEIGHBOUR: 'it returns false'. Refute it at one input. -/
def fnExactTableTextWrong : ChangeSpec := { name := "fnExactTableText", vars := ["loop.example/drawbar/impl.kindFields"], fn := fun _ => fun
  | [d, g1] => { results := [.lit (.bool false)], args := [d], vars := [g1] }
  | _ => none }
def FnExactTableTextWrongFalsely : Prop := fnExactTableTextRow.holds Tryd.pinned (OpenSpec.ofChange fnExactTableTextWrong)

/-- 'laws.FnTableText': WHATEVER THE INPUT: true; the input reads as it did. -/
def fnTableTextSpec : ChangeSpec := { name := "fnTableText", vars := ["loop.example/drawbar/impl.kindFields"], fn := fun _ => fun
  | [d1, d2, g1] => { results := [.lit (.bool true)], args := [d1, d2], vars := [g1] }
  | _ => none }
def fnTableTextRow : OpenClaim := { program := "ytpahahonopiblaadoor", sum := "f9be7d93598ef55227451cf9660a12ab8667a523e68780ed70435f2b5b53b4ce", func := "loop.example/drawbar/laws.FnTableText", spec := "fnTableText", unfollowed := true, recurses := true, named := ["loop.example/drawbar/impl.kindFields", "internal/strconv.uint64pow10", "math/bits.deBruijn32tab", "math/bits.deBruijn64tab"], apart := false, laid := [("math/bits.deBruijn32tab", laid_math_bits_deBruijn32tab), ("math/bits.deBruijn64tab", laid_math_bits_deBruijn64tab), ("internal/strconv.uint64pow10", laid_internal_strconv_uint64pow10), ("loop.example/drawbar/impl.kindFields", laid_loop_example_drawbar_impl_kindFields)] }
def FnTableTextSaid : Prop := fnTableTextRow.holds Tryd.pinned (OpenSpec.ofChange fnTableTextSpec)

/-- ITS FALSE NEIGHBOUR: 'it returns false'. Refute it at one input. -/
def fnTableTextWrong : ChangeSpec := { name := "fnTableText", vars := ["loop.example/drawbar/impl.kindFields"], fn := fun _ => fun
  | [d1, d2, g1] => { results := [.lit (.bool false)], args := [d1, d2], vars := [g1] }
  | _ => none }
def FnTableTextWrongFalsely : Prop := fnTableTextRow.holds Tryd.pinned (OpenSpec.ofChange fnTableTextWrong)

/-- 'laws.FnTableMore': WHATEVER THE INPUT: true; the input reads as it did. -/
def fnTableMoreSpec : ChangeSpec := { name := "fnTableMore", vars := ["loop.example/drawbar/impl.kindFields"], fn := fun _ => fun
  | [d1, d2, g1] => { results := [.lit (.bool true)], args := [d1, d2], vars := [g1] }
  | _ => none }
def fnTableMoreRow : OpenClaim := { program := "ytpahahonopiblaadoor", sum := "f9be7d93598ef55227451cf9660a12ab8667a523e68780ed70435f2b5b53b4ce", func := "loop.example/drawbar/laws.FnTableMore", spec := "fnTableMore", unfollowed := true, recurses := true, named := ["loop.example/drawbar/impl.kindFields", "internal/strconv.uint64pow10", "math/bits.deBruijn32tab", "math/bits.deBruijn64tab"], apart := false, laid := [("math/bits.deBruijn32tab", laid_math_bits_deBruijn32tab), ("math/bits.deBruijn64tab", laid_math_bits_deBruijn64tab), ("internal/strconv.uint64pow10", laid_internal_strconv_uint64pow10), ("loop.example/drawbar/impl.kindFields", laid_loop_example_drawbar_impl_kindFields)] }
def FnTableMoreSaid : Prop := fnTableMoreRow.holds Tryd.pinned (OpenSpec.ofChange fnTableMoreSpec)

/-- ITS FALSE NEIGHBOUR: 'it returns false'. Refute it at one input. -/
def fnTableMoreWrong : ChangeSpec := { name := "fnTableMore", vars := ["loop.example/drawbar/impl.kindFields"], fn := fun _ => fun
  | [d1, d2, g1] => { results := [.lit (.bool false)], args := [d1, d2], vars := [g1] }
  | _ => none }
def FnTableMoreWrongFalsely : Prop := fnTableMoreRow.holds Tryd.pinned (OpenSpec.ofChange fnTableMoreWrong)

/-- 'laws.FnNewApart': WHATEVER THE INPUT: true; the input reads as it did. -/
def fnNewApartSpec : ChangeSpec := { name := "fnNewApart", vars := ["loop.example/drawbar/impl.kindFields"], fn := fun _ => fun
  | [d1, d2, g1] => { results := [.lit (.bool true)], args := [d1, d2], vars := [g1] }
  | _ => none }
def fnNewApartRow : OpenClaim := { program := "ytpahahonopiblaadoor", sum := "f9be7d93598ef55227451cf9660a12ab8667a523e68780ed70435f2b5b53b4ce", func := "loop.example/drawbar/laws.FnNewApart", spec := "fnNewApart", unfollowed := true, recurses := true, named := ["loop.example/drawbar/impl.kindFields", "internal/strconv.uint64pow10", "math/bits.deBruijn32tab", "math/bits.deBruijn64tab"], apart := false, laid := [("math/bits.deBruijn32tab", laid_math_bits_deBruijn32tab), ("math/bits.deBruijn64tab", laid_math_bits_deBruijn64tab), ("internal/strconv.uint64pow10", laid_internal_strconv_uint64pow10), ("loop.example/drawbar/impl.kindFields", laid_loop_example_drawbar_impl_kindFields)] }
def FnNewApartSaid : Prop := fnNewApartRow.holds Tryd.pinned (OpenSpec.ofChange fnNewApartSpec)

/-- ITS FALSE NEIGHBOUR: 'it returns false'. Refute it at one input. -/
def fnNewApartWrong : ChangeSpec := { name := "fnNewApart", vars := ["loop.example/drawbar/impl.kindFields"], fn := fun _ => fun
  | [d1, d2, g1] => { results := [.lit (.bool false)], args := [d1, d2], vars := [g1] }
  | _ => none }
def FnNewApartWrongFalsely : Prop := fnNewApartRow.holds Tryd.pinned (OpenSpec.ofChange fnNewApartWrong)

/-- 'laws.FnViewHigh': WHATEVER THE INPUT: true; the input reads as it did. -/
def fnViewHighSpec : ChangeSpec := { name := "fnViewHigh", vars := ["loop.example/drawbar/impl.kindFields"], fn := fun _ => fun
  | [d, g1] => { results := [.lit (.bool true)], args := [d], vars := [g1] }
  | _ => none }
def fnViewHighRow : OpenClaim := { program := "ytpahahonopiblaadoor", sum := "f9be7d93598ef55227451cf9660a12ab8667a523e68780ed70435f2b5b53b4ce", func := "loop.example/drawbar/laws.FnViewHigh", spec := "fnViewHigh", unfollowed := true, recurses := true, named := ["loop.example/drawbar/impl.kindFields"], apart := false, laid := [("loop.example/drawbar/impl.kindFields", laid_loop_example_drawbar_impl_kindFields)] }
def FnViewHighSaid : Prop := fnViewHighRow.holds Tryd.pinned (OpenSpec.ofChange fnViewHighSpec)

/-- ITS FALSE NEIGHBOUR: 'it returns false'. Refute it at one input. -/
def fnViewHighWrong : ChangeSpec := { name := "fnViewHigh", vars := ["loop.example/drawbar/impl.kindFields"], fn := fun _ => fun
  | [d, g1] => { results := [.lit (.bool false)], args := [d], vars := [g1] }
  | _ => none }
def FnViewHighWrongFalsely : Prop := fnViewHighRow.holds Tryd.pinned (OpenSpec.ofChange fnViewHighWrong)

/-- 'laws.FnExactViewHigh': WHATEVER THE INPUT: true; the input reads as it did. -/
def fnExactViewHighSpec : ChangeSpec := { name := "fnExactViewHigh", vars := ["loop.example/drawbar/impl.kindFields"], fn := fun _ => fun
  | [d1, d2, d3, g1] => { results := [.lit (.bool true)], args := [d1, d2, d3], vars := [g1] }
  | _ => none }
def fnExactViewHighRow : OpenClaim := { program := "ytpahahonopiblaadoor", sum := "f9be7d93598ef55227451cf9660a12ab8667a523e68780ed70435f2b5b53b4ce", func := "loop.example/drawbar/laws.FnExactViewHigh", spec := "fnExactViewHigh", unfollowed := true, recurses := true, named := ["loop.example/drawbar/impl.kindFields"], apart := false, laid := [("loop.example/drawbar/impl.kindFields", laid_loop_example_drawbar_impl_kindFields)] }
def FnExactViewHighSaid : Prop := fnExactViewHighRow.holds Tryd.pinned (OpenSpec.ofChange fnExactViewHighSpec)

/-- ITS FALSE NEIGHBOUR: 'it returns false'. Refute it at one input. -/
def fnExactViewHighWrong : ChangeSpec := { name := "fnExactViewHigh", vars := ["loop.example/drawbar/impl.kindFields"], fn := fun _ => fun
  | [d1, d2, d3, g1] => { results := [.lit (.bool false)], args := [d1, d2, d3], vars := [g1] }
  | _ => none }
def FnExactViewHighWrongFalsely : Prop := fnExactViewHighRow.holds Tryd.pinned (OpenSpec.ofChange fnExactViewHighWrong)

/-- 'laws.FnExactRunLow': WHATEVER THE INPUT: true; the input reads as it did. -/
def fnExactRunLowSpec : ChangeSpec := { name := "fnExactRunLow", vars := ["loop.example/drawbar/impl.kindFields"], fn := fun _ => fun
  | [d1, d2, d3, g1] => { results := [.lit (.bool true)], args := [d1, d2, d3], vars := [g1] }
  | _ => none }
def fnExactRunLowRow : OpenClaim := { program := "ytpahahonopiblaadoor", sum := "f9be7d93598ef55227451cf9660a12ab8667a523e68780ed70435f2b5b53b4ce", func := "loop.example/drawbar/laws.FnExactRunLow", spec := "fnExactRunLow", unfollowed := true, recurses := true, named := ["loop.example/drawbar/impl.kindFields"], apart := false, laid := [("loop.example/drawbar/impl.kindFields", laid_loop_example_drawbar_impl_kindFields)] }
def FnExactRunLowSaid : Prop := fnExactRunLowRow.holds Tryd.pinned (OpenSpec.ofChange fnExactRunLowSpec)

/-- ITS FALSE NEIGHBOUR: 'it returns false'. Refute it at one input. -/
def fnExactRunLowWrong : ChangeSpec := { name := "fnExactRunLow", vars := ["loop.example/drawbar/impl.kindFields"], fn := fun _ => fun
  | [d1, d2, d3, g1] => { results := [.lit (.bool false)], args := [d1, d2, d3], vars := [g1] }
  | _ => none }
def FnExactRunLowWrongFalsely : Prop := fnExactRunLowRow.holds Tryd.pinned (OpenSpec.ofChange fnExactRunLowWrong)

/-- 'laws.FnExactRunQuiet': WHATEVER THE INPUT: true; the input reads as it did. -/
def fnExactRunQuietSpec : ChangeSpec := { name := "fnExactRunQuiet", vars := ["loop.example/drawbar/impl.kindFields"], fn := fun _ => fun
  | [d1, d2, d3, g1] => { results := [.lit (.bool true)], args := [d1, d2, d3], vars := [g1] }
  | _ => none }
def fnExactRunQuietRow : OpenClaim := { program := "ytpahahonopiblaadoor", sum := "f9be7d93598ef55227451cf9660a12ab8667a523e68780ed70435f2b5b53b4ce", func := "loop.example/drawbar/laws.FnExactRunQuiet", spec := "fnExactRunQuiet", unfollowed := true, recurses := true, named := ["loop.example/drawbar/impl.kindFields"], apart := false, laid := [("loop.example/drawbar/impl.kindFields", laid_loop_example_drawbar_impl_kindFields)] }
def FnExactRunQuietSaid : Prop := fnExactRunQuietRow.holds Tryd.pinned (OpenSpec.ofChange fnExactRunQuietSpec)

/-- ITS FALSE NEIGHBOUR: 'it returns false'. Refute it at one input. -/
def fnExactRunQuietWrong : ChangeSpec := { name := "fnExactRunQuiet", vars := ["loop.example/drawbar/impl.kindFields"], fn := fun _ => fun
  | [d1, d2, d3, g1] => { results := [.lit (.bool false)], args := [d1, d2, d3], vars := [g1] }
  | _ => none }
def FnExactRunQuietWrongFalsely : Prop := fnExactRunQuietRow.holds Tryd.pinned (OpenSpec.ofChange fnExactRunQuietWrong)

/-- 'laws.FnRunLoud': WHATEVER THE INPUT: true; the input reads as it did. -/
def fnRunLoudSpec : ChangeSpec := { name := "fnRunLoud", vars := ["loop.example/drawbar/impl.kindFields"], fn := fun _ => fun
  | [d, g1] => { results := [.lit (.bool true)], args := [d], vars := [g1] }
  | _ => none }
def fnRunLoudRow : OpenClaim := { program := "ytpahahonopiblaadoor", sum := "f9be7d93598ef55227451cf9660a12ab8667a523e68780ed70435f2b5b53b4ce", func := "loop.example/drawbar/laws.FnRunLoud", spec := "fnRunLoud", unfollowed := true, recurses := true, named := ["loop.example/drawbar/impl.kindFields"], apart := false, laid := [("loop.example/drawbar/impl.kindFields", laid_loop_example_drawbar_impl_kindFields)] }
def FnRunLoudSaid : Prop := fnRunLoudRow.holds Tryd.pinned (OpenSpec.ofChange fnRunLoudSpec)

/-- ITS FALSE NEIGHBOUR: 'it returns false'. Refute it at one input. -/
def fnRunLoudWrong : ChangeSpec := { name := "fnRunLoud", vars := ["loop.example/drawbar/impl.kindFields"], fn := fun _ => fun
  | [d, g1] => { results := [.lit (.bool false)], args := [d], vars := [g1] }
  | _ => none }
def FnRunLoudWrongFalsely : Prop := fnRunLoudRow.holds Tryd.pinned (OpenSpec.ofChange fnRunLoudWrong)

/-- 'laws.FnLowTwice': WHATEVER THE INPUT: true; the input reads as it did. -/
def fnLowTwiceSpec : ChangeSpec := { name := "fnLowTwice", vars := ["loop.example/drawbar/impl.kindFields"], fn := fun _ => fun
  | [d1, d2, g1] => { results := [.lit (.bool true)], args := [d1, d2], vars := [g1] }
  | _ => none }
def fnLowTwiceRow : OpenClaim := { program := "ytpahahonopiblaadoor", sum := "f9be7d93598ef55227451cf9660a12ab8667a523e68780ed70435f2b5b53b4ce", func := "loop.example/drawbar/laws.FnLowTwice", spec := "fnLowTwice", unfollowed := true, recurses := true, named := ["loop.example/drawbar/impl.kindFields"], apart := false, laid := [("loop.example/drawbar/impl.kindFields", laid_loop_example_drawbar_impl_kindFields)] }
def FnLowTwiceSaid : Prop := fnLowTwiceRow.holds Tryd.pinned (OpenSpec.ofChange fnLowTwiceSpec)

/-- ITS FALSE NEIGHBOUR: 'it returns false'. Refute it at one input. -/
def fnLowTwiceWrong : ChangeSpec := { name := "fnLowTwice", vars := ["loop.example/drawbar/impl.kindFields"], fn := fun _ => fun
  | [d1, d2, g1] => { results := [.lit (.bool false)], args := [d1, d2], vars := [g1] }
  | _ => none }
def FnLowTwiceWrongFalsely : Prop := fnLowTwiceRow.holds Tryd.pinned (OpenSpec.ofChange fnLowTwiceWrong)

/- THE SECOND FORM. 'bulk': how many values and letters a reading holds, each counted each time it is reached (what is shared counts as often as it is met; a slice's spare places count too). A statement '..UptoSaid' is the law's where the arguments, and the package variables that the reading takes, are together of bulk at most 1048576: NARROWER than '..Said'. Prove '..Said' where nothing that the law and all that it calls make is longer than what came in: it says more and counts as full. Else prove '..UptoSaid'. A law counts once. -/
mutual
def uptoBulk {H : Type} : DataW H → Nat
  | .lit (.string bytes) => bytes.length + 1
  | .lit _ => 1
  | .nil => 1
  | .ptr d => uptoBulk d + 1
  | .slice elems spare => uptoBulkAll elems + uptoBulkAll spare + 1
  | .agg parts => uptoBulkAll parts + 1
  | .iface _ d => uptoBulk d + 1
  | .map entries => uptoBulkEntries entries + 1
  | .held _ => 1
def uptoBulkAll {H : Type} : List (DataW H) → Nat
  | [] => 0
  | d :: r => uptoBulk d + uptoBulkAll r
def uptoBulkEntries {H : Type} : List (Lit × DataW H) → Nat
  | [] => 0
  | x :: r => uptoBulkEntry x + uptoBulkEntries r
def uptoBulkEntry {H : Type} : Lit × DataW H → Nat
  | (.string bytes, d) => bytes.length + uptoBulk d + 1
  | (_, d) => uptoBulk d + 1
 end
def uptoSmall : (H : Type) → List (DataW H) → Bool := fun _ ds => decide (uptoBulkAll ds ≤ 1048576)
def OpenSpec.upto (s : _root_.Go.ChangeSpec) : _root_.Go.OpenSpec := { _root_.Go.OpenSpec.ofChange s with cond := some uptoSmall }

/-- 'laws.FnExactTableText', WHERE WHAT IT READS IS OF BULK AT MOST 1048576: true; the input reads as it did. -/
def fnExactTableTextUptoRow : OpenClaim := { program := "ytpahahonopiblaadoor", sum := "f9be7d93598ef55227451cf9660a12ab8667a523e68780ed70435f2b5b53b4ce", func := "loop.example/drawbar/laws.FnExactTableText", spec := "fnExactTableText", unfollowed := true, recurses := true, named := ["loop.example/drawbar/impl.kindFields", "internal/strconv.uint64pow10", "math/bits.deBruijn32tab", "math/bits.deBruijn64tab"], apart := false, laid := [("math/bits.deBruijn32tab", laid_math_bits_deBruijn32tab), ("math/bits.deBruijn64tab", laid_math_bits_deBruijn64tab), ("internal/strconv.uint64pow10", laid_internal_strconv_uint64pow10), ("loop.example/drawbar/impl.kindFields", laid_loop_example_drawbar_impl_kindFields)], narrowed := true }
def FnExactTableTextUptoSaid : Prop := fnExactTableTextUptoRow.holds Tryd.pinned (OpenSpec.upto fnExactTableTextSpec)

/-- 'laws.FnTableText', WHERE WHAT IT READS IS OF BULK AT MOST 1048576: true; the input reads as it did. -/
def fnTableTextUptoRow : OpenClaim := { program := "ytpahahonopiblaadoor", sum := "f9be7d93598ef55227451cf9660a12ab8667a523e68780ed70435f2b5b53b4ce", func := "loop.example/drawbar/laws.FnTableText", spec := "fnTableText", unfollowed := true, recurses := true, named := ["loop.example/drawbar/impl.kindFields", "internal/strconv.uint64pow10", "math/bits.deBruijn32tab", "math/bits.deBruijn64tab"], apart := false, laid := [("math/bits.deBruijn32tab", laid_math_bits_deBruijn32tab), ("math/bits.deBruijn64tab", laid_math_bits_deBruijn64tab), ("internal/strconv.uint64pow10", laid_internal_strconv_uint64pow10), ("loop.example/drawbar/impl.kindFields", laid_loop_example_drawbar_impl_kindFields)], narrowed := true }
def FnTableTextUptoSaid : Prop := fnTableTextUptoRow.holds Tryd.pinned (OpenSpec.upto fnTableTextSpec)

/-- 'laws.FnTableMore', WHERE WHAT IT READS IS OF BULK AT MOST 1048576: true; the input reads as it did. -/
def fnTableMoreUptoRow : OpenClaim := { program := "ytpahahonopiblaadoor", sum := "f9be7d93598ef55227451cf9660a12ab8667a523e68780ed70435f2b5b53b4ce", func := "loop.example/drawbar/laws.FnTableMore", spec := "fnTableMore", unfollowed := true, recurses := true, named := ["loop.example/drawbar/impl.kindFields", "internal/strconv.uint64pow10", "math/bits.deBruijn32tab", "math/bits.deBruijn64tab"], apart := false, laid := [("math/bits.deBruijn32tab", laid_math_bits_deBruijn32tab), ("math/bits.deBruijn64tab", laid_math_bits_deBruijn64tab), ("internal/strconv.uint64pow10", laid_internal_strconv_uint64pow10), ("loop.example/drawbar/impl.kindFields", laid_loop_example_drawbar_impl_kindFields)], narrowed := true }
def FnTableMoreUptoSaid : Prop := fnTableMoreUptoRow.holds Tryd.pinned (OpenSpec.upto fnTableMoreSpec)

/-- 'laws.FnNewApart', WHERE WHAT IT READS IS OF BULK AT MOST 1048576: true; the input reads as it did. -/
def fnNewApartUptoRow : OpenClaim := { program := "ytpahahonopiblaadoor", sum := "f9be7d93598ef55227451cf9660a12ab8667a523e68780ed70435f2b5b53b4ce", func := "loop.example/drawbar/laws.FnNewApart", spec := "fnNewApart", unfollowed := true, recurses := true, named := ["loop.example/drawbar/impl.kindFields", "internal/strconv.uint64pow10", "math/bits.deBruijn32tab", "math/bits.deBruijn64tab"], apart := false, laid := [("math/bits.deBruijn32tab", laid_math_bits_deBruijn32tab), ("math/bits.deBruijn64tab", laid_math_bits_deBruijn64tab), ("internal/strconv.uint64pow10", laid_internal_strconv_uint64pow10), ("loop.example/drawbar/impl.kindFields", laid_loop_example_drawbar_impl_kindFields)], narrowed := true }
def FnNewApartUptoSaid : Prop := fnNewApartUptoRow.holds Tryd.pinned (OpenSpec.upto fnNewApartSpec)

/-- 'laws.FnViewHigh', WHERE WHAT IT READS IS OF BULK AT MOST 1048576: true; the input reads as it did. -/
def fnViewHighUptoRow : OpenClaim := { program := "ytpahahonopiblaadoor", sum := "f9be7d93598ef55227451cf9660a12ab8667a523e68780ed70435f2b5b53b4ce", func := "loop.example/drawbar/laws.FnViewHigh", spec := "fnViewHigh", unfollowed := true, recurses := true, named := ["loop.example/drawbar/impl.kindFields"], apart := false, laid := [("loop.example/drawbar/impl.kindFields", laid_loop_example_drawbar_impl_kindFields)], narrowed := true }
def FnViewHighUptoSaid : Prop := fnViewHighUptoRow.holds Tryd.pinned (OpenSpec.upto fnViewHighSpec)

/-- 'laws.FnExactViewHigh', WHERE WHAT IT READS IS OF BULK AT MOST 1048576: true; the input reads as it did. -/
def fnExactViewHighUptoRow : OpenClaim := { program := "ytpahahonopiblaadoor", sum := "f9be7d93598ef55227451cf9660a12ab8667a523e68780ed70435f2b5b53b4ce", func := "loop.example/drawbar/laws.FnExactViewHigh", spec := "fnExactViewHigh", unfollowed := true, recurses := true, named := ["loop.example/drawbar/impl.kindFields"], apart := false, laid := [("loop.example/drawbar/impl.kindFields", laid_loop_example_drawbar_impl_kindFields)], narrowed := true }
def FnExactViewHighUptoSaid : Prop := fnExactViewHighUptoRow.holds Tryd.pinned (OpenSpec.upto fnExactViewHighSpec)

/-- 'laws.FnExactRunLow', WHERE WHAT IT READS IS OF BULK AT MOST 1048576: true; the input reads as it did. -/
def fnExactRunLowUptoRow : OpenClaim := { program := "ytpahahonopiblaadoor", sum := "f9be7d93598ef55227451cf9660a12ab8667a523e68780ed70435f2b5b53b4ce", func := "loop.example/drawbar/laws.FnExactRunLow", spec := "fnExactRunLow", unfollowed := true, recurses := true, named := ["loop.example/drawbar/impl.kindFields"], apart := false, laid := [("loop.example/drawbar/impl.kindFields", laid_loop_example_drawbar_impl_kindFields)], narrowed := true }
def FnExactRunLowUptoSaid : Prop := fnExactRunLowUptoRow.holds Tryd.pinned (OpenSpec.upto fnExactRunLowSpec)

/-- 'laws.FnExactRunQuiet', WHERE WHAT IT READS IS OF BULK AT MOST 1048576: true; the input reads as it did. -/
def fnExactRunQuietUptoRow : OpenClaim := { program := "ytpahahonopiblaadoor", sum := "f9be7d93598ef55227451cf9660a12ab8667a523e68780ed70435f2b5b53b4ce", func := "loop.example/drawbar/laws.FnExactRunQuiet", spec := "fnExactRunQuiet", unfollowed := true, recurses := true, named := ["loop.example/drawbar/impl.kindFields"], apart := false, laid := [("loop.example/drawbar/impl.kindFields", laid_loop_example_drawbar_impl_kindFields)], narrowed := true }
def FnExactRunQuietUptoSaid : Prop := fnExactRunQuietUptoRow.holds Tryd.pinned (OpenSpec.upto fnExactRunQuietSpec)

/-- 'laws.FnRunLoud', WHERE WHAT IT READS IS OF BULK AT MOST 1048576: true; the input reads as it did. -/
def fnRunLoudUptoRow : OpenClaim := { program := "ytpahahonopiblaadoor", sum := "f9be7d93598ef55227451cf9660a12ab8667a523e68780ed70435f2b5b53b4ce", func := "loop.example/drawbar/laws.FnRunLoud", spec := "fnRunLoud", unfollowed := true, recurses := true, named := ["loop.example/drawbar/impl.kindFields"], apart := false, laid := [("loop.example/drawbar/impl.kindFields", laid_loop_example_drawbar_impl_kindFields)], narrowed := true }
def FnRunLoudUptoSaid : Prop := fnRunLoudUptoRow.holds Tryd.pinned (OpenSpec.upto fnRunLoudSpec)

/-- 'laws.FnLowTwice', WHERE WHAT IT READS IS OF BULK AT MOST 1048576: true; the input reads as it did. -/
def fnLowTwiceUptoRow : OpenClaim := { program := "ytpahahonopiblaadoor", sum := "f9be7d93598ef55227451cf9660a12ab8667a523e68780ed70435f2b5b53b4ce", func := "loop.example/drawbar/laws.FnLowTwice", spec := "fnLowTwice", unfollowed := true, recurses := true, named := ["loop.example/drawbar/impl.kindFields"], apart := false, laid := [("loop.example/drawbar/impl.kindFields", laid_loop_example_drawbar_impl_kindFields)], narrowed := true }
def FnLowTwiceUptoSaid : Prop := fnLowTwiceUptoRow.holds Tryd.pinned (OpenSpec.upto fnLowTwiceSpec)

end Rows
end Go.Proofs.YtpahahonopiblaaDoor
