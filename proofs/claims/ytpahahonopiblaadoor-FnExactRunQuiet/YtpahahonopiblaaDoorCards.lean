/-
  DERIVED. GIVEN WITH THE SEED: THE CARDS: each row of YtpahahonopiblaaDoorRows.lean that lists a variable, with what it lists TIED to the program's text (the seventh form; the later family's looks); each row that meets fmt, with fmt's text TOLD by the authors' own Lean function (tested against real Go, not proved from fmt's source: count such statements apart). THE CARD IS WHAT COUNTS. Prove the row's statement (the work); the ties are given (YtpahahonopiblaaDoorTie.lean); close each card by the builder's one call (the guide's Derived/Test/ToyasCard.lean, 'card_holds'). Laid BY PROGRAM, IN A SANDBOX (cutbox-door.mjs). By AI agents, Wed Nov 11 2026. No macro, syntax, notation, axiom, sorry.
-/
import Derived.Test.YtpahahonopiblaaDoorRows
import GoSem.ClaimSeven
namespace Go.Proofs.YtpahahonopiblaaDoor
namespace Rows

/-- THE TIED CARD OF 'laws.FnExactTableText'. -/
def fnExactTableTextCard : Claim7 := { stood := { row := fnExactTableTextRow, standIns := [], harness := (true, "2abb377ae9a55c02dac99f132bb03a4a16b36a02cca1eb1cbe4e49081778e14c"), looks := false }, kinds := [], alts := [], laidByText := true, laidKinds := [.data, .data, .data, .data], laidTests := true, laidLooks := .later }
def FnExactTableTextCardSaid : Prop := Claim7.holds Tryd.pinned (.plain (OpenSpec.ofChange fnExactTableTextSpec)) fnExactTableTextCard

/-- THE TIED CARD OF 'laws.FnTableText'. -/
def fnTableTextCard : Claim7 := { stood := { row := fnTableTextRow, standIns := [], harness := (true, "2abb377ae9a55c02dac99f132bb03a4a16b36a02cca1eb1cbe4e49081778e14c"), looks := false }, kinds := [], alts := [], laidByText := true, laidKinds := [.data, .data, .data, .data], laidTests := true, laidLooks := .later }
def FnTableTextCardSaid : Prop := Claim7.holds Tryd.pinned (.plain (OpenSpec.ofChange fnTableTextSpec)) fnTableTextCard

/-- THE TIED CARD OF 'laws.FnTableMore'. -/
def fnTableMoreCard : Claim7 := { stood := { row := fnTableMoreRow, standIns := [], harness := (true, "2abb377ae9a55c02dac99f132bb03a4a16b36a02cca1eb1cbe4e49081778e14c"), looks := false }, kinds := [], alts := [], laidByText := true, laidKinds := [.data, .data, .data, .data], laidTests := true, laidLooks := .later }
def FnTableMoreCardSaid : Prop := Claim7.holds Tryd.pinned (.plain (OpenSpec.ofChange fnTableMoreSpec)) fnTableMoreCard

/-- THE TIED CARD OF 'laws.FnNewApart'. -/
def fnNewApartCard : Claim7 := { stood := { row := fnNewApartRow, standIns := [], harness := (true, "2abb377ae9a55c02dac99f132bb03a4a16b36a02cca1eb1cbe4e49081778e14c"), looks := false }, kinds := [], alts := [], laidByText := true, laidKinds := [.data, .data, .data, .data], laidTests := true, laidLooks := .later }
def FnNewApartCardSaid : Prop := Claim7.holds Tryd.pinned (.plain (OpenSpec.ofChange fnNewApartSpec)) fnNewApartCard

/-- THE TIED CARD OF 'laws.FnViewHigh'. -/
def fnViewHighCard : Claim7 := { stood := { row := fnViewHighRow, standIns := [], harness := (true, "2abb377ae9a55c02dac99f132bb03a4a16b36a02cca1eb1cbe4e49081778e14c"), looks := false }, kinds := [], alts := [], laidByText := true, laidKinds := [.data], laidTests := true, laidLooks := .later }
def FnViewHighCardSaid : Prop := Claim7.holds Tryd.pinned (.plain (OpenSpec.ofChange fnViewHighSpec)) fnViewHighCard

/-- THE TIED CARD OF 'laws.FnExactViewHigh'. -/
def fnExactViewHighCard : Claim7 := { stood := { row := fnExactViewHighRow, standIns := [], harness := (true, "2abb377ae9a55c02dac99f132bb03a4a16b36a02cca1eb1cbe4e49081778e14c"), looks := false }, kinds := [], alts := [], laidByText := true, laidKinds := [.data], laidTests := true, laidLooks := .later }
def FnExactViewHighCardSaid : Prop := Claim7.holds Tryd.pinned (.plain (OpenSpec.ofChange fnExactViewHighSpec)) fnExactViewHighCard

/-- THE TIED CARD OF 'laws.FnExactRunLow'. -/
def fnExactRunLowCard : Claim7 := { stood := { row := fnExactRunLowRow, standIns := [], harness := (true, "2abb377ae9a55c02dac99f132bb03a4a16b36a02cca1eb1cbe4e49081778e14c"), looks := false }, kinds := [], alts := [], laidByText := true, laidKinds := [.data], laidTests := true, laidLooks := .later }
def FnExactRunLowCardSaid : Prop := Claim7.holds Tryd.pinned (.plain (OpenSpec.ofChange fnExactRunLowSpec)) fnExactRunLowCard

/-- THE TIED CARD OF 'laws.FnExactRunQuiet'. -/
def fnExactRunQuietCard : Claim7 := { stood := { row := fnExactRunQuietRow, standIns := [], harness := (true, "2abb377ae9a55c02dac99f132bb03a4a16b36a02cca1eb1cbe4e49081778e14c"), looks := false }, kinds := [], alts := [], laidByText := true, laidKinds := [.data], laidTests := true, laidLooks := .later }
def FnExactRunQuietCardSaid : Prop := Claim7.holds Tryd.pinned (.plain (OpenSpec.ofChange fnExactRunQuietSpec)) fnExactRunQuietCard

/-- THE TIED CARD OF 'laws.FnRunLoud'. -/
def fnRunLoudCard : Claim7 := { stood := { row := fnRunLoudRow, standIns := [], harness := (true, "2abb377ae9a55c02dac99f132bb03a4a16b36a02cca1eb1cbe4e49081778e14c"), looks := false }, kinds := [], alts := [], laidByText := true, laidKinds := [.data], laidTests := true, laidLooks := .later }
def FnRunLoudCardSaid : Prop := Claim7.holds Tryd.pinned (.plain (OpenSpec.ofChange fnRunLoudSpec)) fnRunLoudCard

/-- THE TIED CARD OF 'laws.FnLowTwice'. -/
def fnLowTwiceCard : Claim7 := { stood := { row := fnLowTwiceRow, standIns := [], harness := (true, "2abb377ae9a55c02dac99f132bb03a4a16b36a02cca1eb1cbe4e49081778e14c"), looks := false }, kinds := [], alts := [], laidByText := true, laidKinds := [.data], laidTests := true, laidLooks := .later }
def FnLowTwiceCardSaid : Prop := Claim7.holds Tryd.pinned (.plain (OpenSpec.ofChange fnLowTwiceSpec)) fnLowTwiceCard

/-- THE SECOND FORM's CARD OF 'laws.FnExactTableText'. -/
def fnExactTableTextUptoCard : Claim7 := { stood := { row := fnExactTableTextUptoRow, standIns := [], harness := (true, "2abb377ae9a55c02dac99f132bb03a4a16b36a02cca1eb1cbe4e49081778e14c"), looks := false }, kinds := [], alts := [], laidByText := true, laidKinds := [.data, .data, .data, .data], laidTests := true, laidLooks := .later }
def FnExactTableTextUptoCardSaid : Prop := Claim7.holds Tryd.pinned (.plain (OpenSpec.upto fnExactTableTextSpec)) fnExactTableTextUptoCard

/-- THE SECOND FORM's CARD OF 'laws.FnTableText'. -/
def fnTableTextUptoCard : Claim7 := { stood := { row := fnTableTextUptoRow, standIns := [], harness := (true, "2abb377ae9a55c02dac99f132bb03a4a16b36a02cca1eb1cbe4e49081778e14c"), looks := false }, kinds := [], alts := [], laidByText := true, laidKinds := [.data, .data, .data, .data], laidTests := true, laidLooks := .later }
def FnTableTextUptoCardSaid : Prop := Claim7.holds Tryd.pinned (.plain (OpenSpec.upto fnTableTextSpec)) fnTableTextUptoCard

/-- THE SECOND FORM's CARD OF 'laws.FnTableMore'. -/
def fnTableMoreUptoCard : Claim7 := { stood := { row := fnTableMoreUptoRow, standIns := [], harness := (true, "2abb377ae9a55c02dac99f132bb03a4a16b36a02cca1eb1cbe4e49081778e14c"), looks := false }, kinds := [], alts := [], laidByText := true, laidKinds := [.data, .data, .data, .data], laidTests := true, laidLooks := .later }
def FnTableMoreUptoCardSaid : Prop := Claim7.holds Tryd.pinned (.plain (OpenSpec.upto fnTableMoreSpec)) fnTableMoreUptoCard

/-- THE SECOND FORM's CARD OF 'laws.FnNewApart'. -/
def fnNewApartUptoCard : Claim7 := { stood := { row := fnNewApartUptoRow, standIns := [], harness := (true, "2abb377ae9a55c02dac99f132bb03a4a16b36a02cca1eb1cbe4e49081778e14c"), looks := false }, kinds := [], alts := [], laidByText := true, laidKinds := [.data, .data, .data, .data], laidTests := true, laidLooks := .later }
def FnNewApartUptoCardSaid : Prop := Claim7.holds Tryd.pinned (.plain (OpenSpec.upto fnNewApartSpec)) fnNewApartUptoCard

/-- THE SECOND FORM's CARD OF 'laws.FnViewHigh'. -/
def fnViewHighUptoCard : Claim7 := { stood := { row := fnViewHighUptoRow, standIns := [], harness := (true, "2abb377ae9a55c02dac99f132bb03a4a16b36a02cca1eb1cbe4e49081778e14c"), looks := false }, kinds := [], alts := [], laidByText := true, laidKinds := [.data], laidTests := true, laidLooks := .later }
def FnViewHighUptoCardSaid : Prop := Claim7.holds Tryd.pinned (.plain (OpenSpec.upto fnViewHighSpec)) fnViewHighUptoCard

/-- THE SECOND FORM's CARD OF 'laws.FnExactViewHigh'. -/
def fnExactViewHighUptoCard : Claim7 := { stood := { row := fnExactViewHighUptoRow, standIns := [], harness := (true, "2abb377ae9a55c02dac99f132bb03a4a16b36a02cca1eb1cbe4e49081778e14c"), looks := false }, kinds := [], alts := [], laidByText := true, laidKinds := [.data], laidTests := true, laidLooks := .later }
def FnExactViewHighUptoCardSaid : Prop := Claim7.holds Tryd.pinned (.plain (OpenSpec.upto fnExactViewHighSpec)) fnExactViewHighUptoCard

/-- THE SECOND FORM's CARD OF 'laws.FnExactRunLow'. -/
def fnExactRunLowUptoCard : Claim7 := { stood := { row := fnExactRunLowUptoRow, standIns := [], harness := (true, "2abb377ae9a55c02dac99f132bb03a4a16b36a02cca1eb1cbe4e49081778e14c"), looks := false }, kinds := [], alts := [], laidByText := true, laidKinds := [.data], laidTests := true, laidLooks := .later }
def FnExactRunLowUptoCardSaid : Prop := Claim7.holds Tryd.pinned (.plain (OpenSpec.upto fnExactRunLowSpec)) fnExactRunLowUptoCard

/-- THE SECOND FORM's CARD OF 'laws.FnExactRunQuiet'. -/
def fnExactRunQuietUptoCard : Claim7 := { stood := { row := fnExactRunQuietUptoRow, standIns := [], harness := (true, "2abb377ae9a55c02dac99f132bb03a4a16b36a02cca1eb1cbe4e49081778e14c"), looks := false }, kinds := [], alts := [], laidByText := true, laidKinds := [.data], laidTests := true, laidLooks := .later }
def FnExactRunQuietUptoCardSaid : Prop := Claim7.holds Tryd.pinned (.plain (OpenSpec.upto fnExactRunQuietSpec)) fnExactRunQuietUptoCard

/-- THE SECOND FORM's CARD OF 'laws.FnRunLoud'. -/
def fnRunLoudUptoCard : Claim7 := { stood := { row := fnRunLoudUptoRow, standIns := [], harness := (true, "2abb377ae9a55c02dac99f132bb03a4a16b36a02cca1eb1cbe4e49081778e14c"), looks := false }, kinds := [], alts := [], laidByText := true, laidKinds := [.data], laidTests := true, laidLooks := .later }
def FnRunLoudUptoCardSaid : Prop := Claim7.holds Tryd.pinned (.plain (OpenSpec.upto fnRunLoudSpec)) fnRunLoudUptoCard

/-- THE SECOND FORM's CARD OF 'laws.FnLowTwice'. -/
def fnLowTwiceUptoCard : Claim7 := { stood := { row := fnLowTwiceUptoRow, standIns := [], harness := (true, "2abb377ae9a55c02dac99f132bb03a4a16b36a02cca1eb1cbe4e49081778e14c"), looks := false }, kinds := [], alts := [], laidByText := true, laidKinds := [.data], laidTests := true, laidLooks := .later }
def FnLowTwiceUptoCardSaid : Prop := Claim7.holds Tryd.pinned (.plain (OpenSpec.upto fnLowTwiceSpec)) fnLowTwiceUptoCard
end Rows
end Go.Proofs.YtpahahonopiblaaDoor
