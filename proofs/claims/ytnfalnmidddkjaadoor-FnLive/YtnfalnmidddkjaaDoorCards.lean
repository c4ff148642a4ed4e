/-
  DERIVED. GIVEN WITH THE SEED: THE CARDS: each row of YtnfalnmidddkjaaDoorRows.lean that lists a variable, with what it lists TIED to the program's text (the seventh form; the later family's looks); each row that meets fmt, with fmt's text TOLD by the authors' own Lean function (tested against real Go, not proved from fmt's source: count such statements apart). THE CARD IS WHAT COUNTS. Prove the row's statement (the work); the ties are given (YtnfalnmidddkjaaDoorTie.lean); close each card by the builder's one call (the guide's Derived/Test/ToyasCard.lean, 'card_holds'). Laid BY PROGRAM, IN A SANDBOX (cutbox-door.mjs). By AI agents, Wed Nov 11 2026. No macro, syntax, notation, axiom, sorry.
-/
import Derived.Test.YtnfalnmidddkjaaDoorRows
import GoSem.ClaimSeven
namespace Go.Proofs.YtnfalnmidddkjaaDoor
namespace Rows

/-- THE TIED CARD OF 'laws.FnThingNew'. -/
def fnThingNewCard : Claim7 := { stood := { row := fnThingNewRow, standIns := [], harness := (true, "ee2eedd1c75b6aa29f78becae606a8f383705f971601132b976605ed0f05974f"), looks := false }, kinds := [], alts := [], laidByText := true, laidKinds := [.data], laidTests := true, laidLooks := .later }
def FnThingNewCardSaid : Prop := Claim7.holds Tryd.pinned (.plain (OpenSpec.ofChange fnThingNewSpec)) fnThingNewCard

/-- THE TIED CARD OF 'laws.FnThingForm'. -/
def fnThingFormCard : Claim7 := { stood := { row := fnThingFormRow, standIns := [], harness := (true, "ee2eedd1c75b6aa29f78becae606a8f383705f971601132b976605ed0f05974f"), looks := false }, kinds := [], alts := [], laidByText := true, laidKinds := [.data], laidTests := true, laidLooks := .later }
def FnThingFormCardSaid : Prop := Claim7.holds Tryd.pinned (.plain (OpenSpec.ofChange fnThingFormSpec)) fnThingFormCard

/-- THE TIED CARD OF 'laws.FnTableForm'. -/
def fnTableFormCard : Claim7 := { stood := { row := fnTableFormRow, standIns := [], harness := (true, "ee2eedd1c75b6aa29f78becae606a8f383705f971601132b976605ed0f05974f"), looks := false }, kinds := [], alts := [], laidByText := true, laidKinds := [.data], laidTests := true, laidLooks := .later }
def FnTableFormCardSaid : Prop := Claim7.holds Tryd.pinned (.plain (OpenSpec.ofChange fnTableFormSpec)) fnTableFormCard

/-- THE TIED CARD OF 'laws.FnTableText'. -/
def fnTableTextCard : Claim7 := { stood := { row := fnTableTextRow, standIns := [], harness := (true, "ee2eedd1c75b6aa29f78becae606a8f383705f971601132b976605ed0f05974f"), looks := false }, kinds := [], alts := [], laidByText := true, laidKinds := [.data, .data, .data, .data], laidTests := true, laidLooks := .later }
def FnTableTextCardSaid : Prop := Claim7.holds Tryd.pinned (.plain (OpenSpec.ofChange fnTableTextSpec)) fnTableTextCard

/-- THE TIED CARD OF 'laws.FnLive'. -/
def fnLiveCard : Claim7 := { stood := { row := fnLiveRow, standIns := [], harness := (true, "ee2eedd1c75b6aa29f78becae606a8f383705f971601132b976605ed0f05974f"), looks := false }, kinds := [], alts := [], laidByText := true, laidKinds := [.data], laidTests := true, laidLooks := .later }
def FnLiveCardSaid : Prop := Claim7.holds Tryd.pinned (.plain (OpenSpec.ofChange fnLiveSpec)) fnLiveCard

/-- THE TIED CARD OF 'laws.FnTableMore'. -/
def fnTableMoreCard : Claim7 := { stood := { row := fnTableMoreRow, standIns := [], harness := (true, "ee2eedd1c75b6aa29f78becae606a8f383705f971601132b976605ed0f05974f"), looks := false }, kinds := [], alts := [], laidByText := true, laidKinds := [.data, .data, .data, .data], laidTests := true, laidLooks := .later }
def FnTableMoreCardSaid : Prop := Claim7.holds Tryd.pinned (.plain (OpenSpec.ofChange fnTableMoreSpec)) fnTableMoreCard

/-- THE TIED CARD OF 'laws.FnNewApart'. -/
def fnNewApartCard : Claim7 := { stood := { row := fnNewApartRow, standIns := [], harness := (true, "ee2eedd1c75b6aa29f78becae606a8f383705f971601132b976605ed0f05974f"), looks := false }, kinds := [], alts := [], laidByText := true, laidKinds := [.data, .data, .data, .data], laidTests := true, laidLooks := .later }
def FnNewApartCardSaid : Prop := Claim7.holds Tryd.pinned (.plain (OpenSpec.ofChange fnNewApartSpec)) fnNewApartCard

/-- THE TIED CARD OF 'laws.FnExactThingOk'. -/
def fnExactThingOkCard : Claim7 := { stood := { row := fnExactThingOkRow, standIns := [], harness := (true, "ee2eedd1c75b6aa29f78becae606a8f383705f971601132b976605ed0f05974f"), looks := false }, kinds := [], alts := [], laidByText := true, laidKinds := [.data], laidTests := true, laidLooks := .later }
def FnExactThingOkCardSaid : Prop := Claim7.holds Tryd.pinned (.plain (OpenSpec.ofChange fnExactThingOkSpec)) fnExactThingOkCard

/-- THE TIED CARD OF 'laws.FnExactThingNew'. -/
def fnExactThingNewCard : Claim7 := { stood := { row := fnExactThingNewRow, standIns := [], harness := (true, "ee2eedd1c75b6aa29f78becae606a8f383705f971601132b976605ed0f05974f"), looks := false }, kinds := [], alts := [], laidByText := true, laidKinds := [.data], laidTests := true, laidLooks := .later }
def FnExactThingNewCardSaid : Prop := Claim7.holds Tryd.pinned (.plain (OpenSpec.ofChange fnExactThingNewSpec)) fnExactThingNewCard

/-- THE TIED CARD OF 'laws.FnExactTableOk'. -/
def fnExactTableOkCard : Claim7 := { stood := { row := fnExactTableOkRow, standIns := [], harness := (true, "ee2eedd1c75b6aa29f78becae606a8f383705f971601132b976605ed0f05974f"), looks := false }, kinds := [], alts := [], laidByText := true, laidKinds := [.data], laidTests := true, laidLooks := .later }
def FnExactTableOkCardSaid : Prop := Claim7.holds Tryd.pinned (.plain (OpenSpec.ofChange fnExactTableOkSpec)) fnExactTableOkCard

/-- THE TIED CARD OF 'laws.FnExactTableText'. -/
def fnExactTableTextCard : Claim7 := { stood := { row := fnExactTableTextRow, standIns := [], harness := (true, "ee2eedd1c75b6aa29f78becae606a8f383705f971601132b976605ed0f05974f"), looks := false }, kinds := [], alts := [], laidByText := true, laidKinds := [.data, .data, .data, .data], laidTests := true, laidLooks := .later }
def FnExactTableTextCardSaid : Prop := Claim7.holds Tryd.pinned (.plain (OpenSpec.ofChange fnExactTableTextSpec)) fnExactTableTextCard

/-- THE TIED CARD OF 'laws.FnExactTableLive'. -/
def fnExactTableLiveCard : Claim7 := { stood := { row := fnExactTableLiveRow, standIns := [], harness := (true, "ee2eedd1c75b6aa29f78becae606a8f383705f971601132b976605ed0f05974f"), looks := false }, kinds := [], alts := [], laidByText := true, laidKinds := [.data], laidTests := true, laidLooks := .later }
def FnExactTableLiveCardSaid : Prop := Claim7.holds Tryd.pinned (.plain (OpenSpec.ofChange fnExactTableLiveSpec)) fnExactTableLiveCard

/-- THE SECOND FORM's CARD OF 'laws.FnThingNew'. -/
def fnThingNewUptoCard : Claim7 := { stood := { row := fnThingNewUptoRow, standIns := [], harness := (true, "ee2eedd1c75b6aa29f78becae606a8f383705f971601132b976605ed0f05974f"), looks := false }, kinds := [], alts := [], laidByText := true, laidKinds := [.data], laidTests := true, laidLooks := .later }
def FnThingNewUptoCardSaid : Prop := Claim7.holds Tryd.pinned (.plain (OpenSpec.upto fnThingNewSpec)) fnThingNewUptoCard

/-- THE SECOND FORM's CARD OF 'laws.FnThingForm'. -/
def fnThingFormUptoCard : Claim7 := { stood := { row := fnThingFormUptoRow, standIns := [], harness := (true, "ee2eedd1c75b6aa29f78becae606a8f383705f971601132b976605ed0f05974f"), looks := false }, kinds := [], alts := [], laidByText := true, laidKinds := [.data], laidTests := true, laidLooks := .later }
def FnThingFormUptoCardSaid : Prop := Claim7.holds Tryd.pinned (.plain (OpenSpec.upto fnThingFormSpec)) fnThingFormUptoCard

/-- THE SECOND FORM's CARD OF 'laws.FnTableForm'. -/
def fnTableFormUptoCard : Claim7 := { stood := { row := fnTableFormUptoRow, standIns := [], harness := (true, "ee2eedd1c75b6aa29f78becae606a8f383705f971601132b976605ed0f05974f"), looks := false }, kinds := [], alts := [], laidByText := true, laidKinds := [.data], laidTests := true, laidLooks := .later }
def FnTableFormUptoCardSaid : Prop := Claim7.holds Tryd.pinned (.plain (OpenSpec.upto fnTableFormSpec)) fnTableFormUptoCard

/-- THE SECOND FORM's CARD OF 'laws.FnTableText'. -/
def fnTableTextUptoCard : Claim7 := { stood := { row := fnTableTextUptoRow, standIns := [], harness := (true, "ee2eedd1c75b6aa29f78becae606a8f383705f971601132b976605ed0f05974f"), looks := false }, kinds := [], alts := [], laidByText := true, laidKinds := [.data, .data, .data, .data], laidTests := true, laidLooks := .later }
def FnTableTextUptoCardSaid : Prop := Claim7.holds Tryd.pinned (.plain (OpenSpec.upto fnTableTextSpec)) fnTableTextUptoCard

/-- THE SECOND FORM's CARD OF 'laws.FnLive'. -/
def fnLiveUptoCard : Claim7 := { stood := { row := fnLiveUptoRow, standIns := [], harness := (true, "ee2eedd1c75b6aa29f78becae606a8f383705f971601132b976605ed0f05974f"), looks := false }, kinds := [], alts := [], laidByText := true, laidKinds := [.data], laidTests := true, laidLooks := .later }
def FnLiveUptoCardSaid : Prop := Claim7.holds Tryd.pinned (.plain (OpenSpec.upto fnLiveSpec)) fnLiveUptoCard

/-- THE SECOND FORM's CARD OF 'laws.FnTableMore'. -/
def fnTableMoreUptoCard : Claim7 := { stood := { row := fnTableMoreUptoRow, standIns := [], harness := (true, "ee2eedd1c75b6aa29f78becae606a8f383705f971601132b976605ed0f05974f"), looks := false }, kinds := [], alts := [], laidByText := true, laidKinds := [.data, .data, .data, .data], laidTests := true, laidLooks := .later }
def FnTableMoreUptoCardSaid : Prop := Claim7.holds Tryd.pinned (.plain (OpenSpec.upto fnTableMoreSpec)) fnTableMoreUptoCard

/-- THE SECOND FORM's CARD OF 'laws.FnNewApart'. -/
def fnNewApartUptoCard : Claim7 := { stood := { row := fnNewApartUptoRow, standIns := [], harness := (true, "ee2eedd1c75b6aa29f78becae606a8f383705f971601132b976605ed0f05974f"), looks := false }, kinds := [], alts := [], laidByText := true, laidKinds := [.data, .data, .data, .data], laidTests := true, laidLooks := .later }
def FnNewApartUptoCardSaid : Prop := Claim7.holds Tryd.pinned (.plain (OpenSpec.upto fnNewApartSpec)) fnNewApartUptoCard

/-- THE SECOND FORM's CARD OF 'laws.FnExactThingOk'. -/
def fnExactThingOkUptoCard : Claim7 := { stood := { row := fnExactThingOkUptoRow, standIns := [], harness := (true, "ee2eedd1c75b6aa29f78becae606a8f383705f971601132b976605ed0f05974f"), looks := false }, kinds := [], alts := [], laidByText := true, laidKinds := [.data], laidTests := true, laidLooks := .later }
def FnExactThingOkUptoCardSaid : Prop := Claim7.holds Tryd.pinned (.plain (OpenSpec.upto fnExactThingOkSpec)) fnExactThingOkUptoCard

/-- THE SECOND FORM's CARD OF 'laws.FnExactThingNew'. -/
def fnExactThingNewUptoCard : Claim7 := { stood := { row := fnExactThingNewUptoRow, standIns := [], harness := (true, "ee2eedd1c75b6aa29f78becae606a8f383705f971601132b976605ed0f05974f"), looks := false }, kinds := [], alts := [], laidByText := true, laidKinds := [.data], laidTests := true, laidLooks := .later }
def FnExactThingNewUptoCardSaid : Prop := Claim7.holds Tryd.pinned (.plain (OpenSpec.upto fnExactThingNewSpec)) fnExactThingNewUptoCard

/-- THE SECOND FORM's CARD OF 'laws.FnExactTableOk'. -/
def fnExactTableOkUptoCard : Claim7 := { stood := { row := fnExactTableOkUptoRow, standIns := [], harness := (true, "ee2eedd1c75b6aa29f78becae606a8f383705f971601132b976605ed0f05974f"), looks := false }, kinds := [], alts := [], laidByText := true, laidKinds := [.data], laidTests := true, laidLooks := .later }
def FnExactTableOkUptoCardSaid : Prop := Claim7.holds Tryd.pinned (.plain (OpenSpec.upto fnExactTableOkSpec)) fnExactTableOkUptoCard

/-- THE SECOND FORM's CARD OF 'laws.FnExactTableText'. -/
def fnExactTableTextUptoCard : Claim7 := { stood := { row := fnExactTableTextUptoRow, standIns := [], harness := (true, "ee2eedd1c75b6aa29f78becae606a8f383705f971601132b976605ed0f05974f"), looks := false }, kinds := [], alts := [], laidByText := true, laidKinds := [.data, .data, .data, .data], laidTests := true, laidLooks := .later }
def FnExactTableTextUptoCardSaid : Prop := Claim7.holds Tryd.pinned (.plain (OpenSpec.upto fnExactTableTextSpec)) fnExactTableTextUptoCard

/-- THE SECOND FORM's CARD OF 'laws.FnExactTableLive'. -/
def fnExactTableLiveUptoCard : Claim7 := { stood := { row := fnExactTableLiveUptoRow, standIns := [], harness := (true, "ee2eedd1c75b6aa29f78becae606a8f383705f971601132b976605ed0f05974f"), looks := false }, kinds := [], alts := [], laidByText := true, laidKinds := [.data], laidTests := true, laidLooks := .later }
def FnExactTableLiveUptoCardSaid : Prop := Claim7.holds Tryd.pinned (.plain (OpenSpec.upto fnExactTableLiveSpec)) fnExactTableLiveUptoCard
end Rows
end Go.Proofs.YtnfalnmidddkjaaDoor
