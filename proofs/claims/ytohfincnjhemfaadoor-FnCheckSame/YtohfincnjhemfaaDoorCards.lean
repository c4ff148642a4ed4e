/-
  DERIVED. GIVEN WITH THE SEED: THE CARDS: each row of YtohfincnjhemfaaDoorRows.lean that lists a variable, with what it lists TIED to the program's text (the seventh form; the later family's looks); each row that meets fmt, with fmt's text TOLD by the authors' own Lean function (tested against real Go, not proved from fmt's source: count such statements apart). THE CARD IS WHAT COUNTS. Prove the row's statement (the work); the ties are given (YtohfincnjhemfaaDoorTie.lean); close each card by the builder's one call (the guide's Derived/Test/ToyasCard.lean, 'card_holds'). Laid BY PROGRAM, IN A SANDBOX (cutbox-door.mjs). By AI agents, Wed Nov 11 2026. No macro, syntax, notation, axiom, sorry.
-/
import Derived.Test.YtohfincnjhemfaaDoorRows
import GoSem.ClaimSeven
namespace Go.Proofs.YtohfincnjhemfaaDoor
namespace Rows

/-- THE TIED CARD OF 'laws.FnSees'. -/
def fnSeesCard : Claim7 := { stood := { row := fnSeesRow, standIns := [], harness := (true, "cb8885ca0109ff9a54784e32b3cde21165a01b2d23ae0be0bb8e17f9a839acdb"), looks := true }, kinds := [], alts := [], laidByText := true, laidKinds := [.data], laidTests := true, laidLooks := .later }
def FnSeesCardSaid : Prop := Claim7.holds Tryd.pinned (.plain (OpenSpec.ofChange fnSeesSpec)) fnSeesCard

/-- THE TIED CARD OF 'laws.FnTouches'. -/
def fnTouchesCard : Claim7 := { stood := { row := fnTouchesRow, standIns := [], harness := (true, "cb8885ca0109ff9a54784e32b3cde21165a01b2d23ae0be0bb8e17f9a839acdb"), looks := true }, kinds := [], alts := [], laidByText := true, laidKinds := [.data], laidTests := true, laidLooks := .later }
def FnTouchesCardSaid : Prop := Claim7.holds Tryd.pinned (.plain (OpenSpec.ofChange fnTouchesSpec)) fnTouchesCard

/-- THE TIED CARD OF 'laws.FnCheckNone'. -/
def fnCheckNoneCard : Claim7 := { stood := { row := fnCheckNoneRow, standIns := [], harness := (true, "cb8885ca0109ff9a54784e32b3cde21165a01b2d23ae0be0bb8e17f9a839acdb"), looks := true }, kinds := [], alts := [], laidByText := true, laidKinds := [.handle, .data], laidTests := true, laidLooks := .later }
def FnCheckNoneCardSaid : Prop := Claim7.holds Tryd.pinned (.plain (OpenSpec.ofChange fnCheckNoneSpec)) fnCheckNoneCard

/-- THE TIED CARD OF 'laws.FnCheckRight'. -/
def fnCheckRightCard : Claim7 := { stood := { row := fnCheckRightRow, standIns := [], harness := (true, "cb8885ca0109ff9a54784e32b3cde21165a01b2d23ae0be0bb8e17f9a839acdb"), looks := true }, kinds := [], alts := [], laidByText := true, laidKinds := [.handle, .data], laidTests := true, laidLooks := .later }
def FnCheckRightCardSaid : Prop := Claim7.holds Tryd.pinned (.plain (OpenSpec.ofChange fnCheckRightSpec)) fnCheckRightCard

/-- THE TIED CARD OF 'laws.FnCheckLess'. -/
def fnCheckLessCard : Claim7 := { stood := { row := fnCheckLessRow, standIns := [], harness := (true, "cb8885ca0109ff9a54784e32b3cde21165a01b2d23ae0be0bb8e17f9a839acdb"), looks := true }, kinds := [], alts := [], laidByText := true, laidKinds := [.handle, .data], laidTests := true, laidLooks := .later }
def FnCheckLessCardSaid : Prop := Claim7.holds Tryd.pinned (.plain (OpenSpec.ofChange fnCheckLessSpec)) fnCheckLessCard

/-- THE TIED CARD OF 'laws.FnCheckBlind'. -/
def fnCheckBlindCard : Claim7 := { stood := { row := fnCheckBlindRow, standIns := [], harness := (true, "cb8885ca0109ff9a54784e32b3cde21165a01b2d23ae0be0bb8e17f9a839acdb"), looks := true }, kinds := [], alts := [], laidByText := true, laidKinds := [.handle, .data], laidTests := true, laidLooks := .later }
def FnCheckBlindCardSaid : Prop := Claim7.holds Tryd.pinned (.plain (OpenSpec.ofChange fnCheckBlindSpec)) fnCheckBlindCard

/-- THE TIED CARD OF 'laws.FnCheckKinds'. -/
def fnCheckKindsCard : Claim7 := { stood := { row := fnCheckKindsRow, standIns := [], harness := (true, "cb8885ca0109ff9a54784e32b3cde21165a01b2d23ae0be0bb8e17f9a839acdb"), looks := true }, kinds := [], alts := [], laidByText := true, laidKinds := [.handle, .data], laidTests := true, laidLooks := .later }
def FnCheckKindsCardSaid : Prop := Claim7.holds Tryd.pinned (.plain (OpenSpec.ofChange fnCheckKindsSpec)) fnCheckKindsCard

/-- THE TIED CARD OF 'laws.FnCheckGone'. -/
def fnCheckGoneCard : Claim7 := { stood := { row := fnCheckGoneRow, standIns := [], harness := (true, "cb8885ca0109ff9a54784e32b3cde21165a01b2d23ae0be0bb8e17f9a839acdb"), looks := true }, kinds := [], alts := [], laidByText := true, laidKinds := [.handle, .data], laidTests := true, laidLooks := .later }
def FnCheckGoneCardSaid : Prop := Claim7.holds Tryd.pinned (.plain (OpenSpec.ofChange fnCheckGoneSpec)) fnCheckGoneCard

/-- THE TIED CARD OF 'laws.FnReadUp'. -/
def fnReadUpCard : Claim7 := { stood := { row := fnReadUpRow, standIns := [], harness := (true, "cb8885ca0109ff9a54784e32b3cde21165a01b2d23ae0be0bb8e17f9a839acdb"), looks := true }, kinds := [], alts := [], laidByText := true, laidKinds := [.handle, .data], laidTests := true, laidLooks := .later }
def FnReadUpCardSaid : Prop := Claim7.holds Tryd.pinned (.plain (OpenSpec.ofChange fnReadUpSpec)) fnReadUpCard

/-- THE TIED CARD OF 'laws.FnCheckSame'. -/
def fnCheckSameCard : Claim7 := { stood := { row := fnCheckSameRow, standIns := [], harness := (true, "cb8885ca0109ff9a54784e32b3cde21165a01b2d23ae0be0bb8e17f9a839acdb"), looks := true }, kinds := [], alts := [], laidByText := true, laidKinds := [.handle, .data], laidTests := true, laidLooks := .later }
def FnCheckSameCardSaid : Prop := Claim7.holds Tryd.pinned (.plain (OpenSpec.ofChange fnCheckSameSpec)) fnCheckSameCard

/-- THE TIED CARD OF 'laws.FnExactCheckSees'. -/
def fnExactCheckSeesCard : Claim7 := { stood := { row := fnExactCheckSeesRow, standIns := [], harness := (true, "cb8885ca0109ff9a54784e32b3cde21165a01b2d23ae0be0bb8e17f9a839acdb"), looks := true }, kinds := [], alts := [], laidByText := true, laidKinds := [.data], laidTests := true, laidLooks := .later }
def FnExactCheckSeesCardSaid : Prop := Claim7.holds Tryd.pinned (.plain (OpenSpec.ofChange fnExactCheckSeesSpec)) fnExactCheckSeesCard

/-- THE TIED CARD OF 'laws.FnExactCheckTouches'. -/
def fnExactCheckTouchesCard : Claim7 := { stood := { row := fnExactCheckTouchesRow, standIns := [], harness := (true, "cb8885ca0109ff9a54784e32b3cde21165a01b2d23ae0be0bb8e17f9a839acdb"), looks := true }, kinds := [], alts := [], laidByText := true, laidKinds := [.data], laidTests := true, laidLooks := .later }
def FnExactCheckTouchesCardSaid : Prop := Claim7.holds Tryd.pinned (.plain (OpenSpec.ofChange fnExactCheckTouchesSpec)) fnExactCheckTouchesCard

/-- THE TIED CARD OF 'laws.FnExactTableText'. -/
def fnExactTableTextCard : Claim7 := { stood := { row := fnExactTableTextRow, standIns := [], harness := (true, "cb8885ca0109ff9a54784e32b3cde21165a01b2d23ae0be0bb8e17f9a839acdb"), looks := true }, kinds := [], alts := [], laidByText := true, laidKinds := [.data, .data, .data, .data], laidTests := true, laidLooks := .later }
def FnExactTableTextCardSaid : Prop := Claim7.holds Tryd.pinned (.plain (OpenSpec.ofChange fnExactTableTextSpec)) fnExactTableTextCard

/-- THE TIED CARD OF 'laws.FnTableText'. -/
def fnTableTextCard : Claim7 := { stood := { row := fnTableTextRow, standIns := [], harness := (true, "cb8885ca0109ff9a54784e32b3cde21165a01b2d23ae0be0bb8e17f9a839acdb"), looks := true }, kinds := [], alts := [], laidByText := true, laidKinds := [.data, .data, .data, .data], laidTests := true, laidLooks := .later }
def FnTableTextCardSaid : Prop := Claim7.holds Tryd.pinned (.plain (OpenSpec.ofChange fnTableTextSpec)) fnTableTextCard

/-- THE TIED CARD OF 'laws.FnTableMore'. -/
def fnTableMoreCard : Claim7 := { stood := { row := fnTableMoreRow, standIns := [], harness := (true, "cb8885ca0109ff9a54784e32b3cde21165a01b2d23ae0be0bb8e17f9a839acdb"), looks := true }, kinds := [], alts := [], laidByText := true, laidKinds := [.data, .data, .data, .data], laidTests := true, laidLooks := .later }
def FnTableMoreCardSaid : Prop := Claim7.holds Tryd.pinned (.plain (OpenSpec.ofChange fnTableMoreSpec)) fnTableMoreCard

/-- THE TIED CARD OF 'laws.FnNewApart'. -/
def fnNewApartCard : Claim7 := { stood := { row := fnNewApartRow, standIns := [], harness := (true, "cb8885ca0109ff9a54784e32b3cde21165a01b2d23ae0be0bb8e17f9a839acdb"), looks := true }, kinds := [], alts := [], laidByText := true, laidKinds := [.data, .data, .data, .data], laidTests := true, laidLooks := .later }
def FnNewApartCardSaid : Prop := Claim7.holds Tryd.pinned (.plain (OpenSpec.ofChange fnNewApartSpec)) fnNewApartCard

/-- THE SECOND FORM's CARD OF 'laws.FnSees'. -/
def fnSeesUptoCard : Claim7 := { stood := { row := fnSeesUptoRow, standIns := [], harness := (true, "cb8885ca0109ff9a54784e32b3cde21165a01b2d23ae0be0bb8e17f9a839acdb"), looks := true }, kinds := [], alts := [], laidByText := true, laidKinds := [.data], laidTests := true, laidLooks := .later }
def FnSeesUptoCardSaid : Prop := Claim7.holds Tryd.pinned (.plain (OpenSpec.upto fnSeesSpec)) fnSeesUptoCard

/-- THE SECOND FORM's CARD OF 'laws.FnTouches'. -/
def fnTouchesUptoCard : Claim7 := { stood := { row := fnTouchesUptoRow, standIns := [], harness := (true, "cb8885ca0109ff9a54784e32b3cde21165a01b2d23ae0be0bb8e17f9a839acdb"), looks := true }, kinds := [], alts := [], laidByText := true, laidKinds := [.data], laidTests := true, laidLooks := .later }
def FnTouchesUptoCardSaid : Prop := Claim7.holds Tryd.pinned (.plain (OpenSpec.upto fnTouchesSpec)) fnTouchesUptoCard

/-- THE SECOND FORM's CARD OF 'laws.FnCheckNone'. -/
def fnCheckNoneUptoCard : Claim7 := { stood := { row := fnCheckNoneUptoRow, standIns := [], harness := (true, "cb8885ca0109ff9a54784e32b3cde21165a01b2d23ae0be0bb8e17f9a839acdb"), looks := true }, kinds := [], alts := [], laidByText := true, laidKinds := [.handle, .data], laidTests := true, laidLooks := .later }
def FnCheckNoneUptoCardSaid : Prop := Claim7.holds Tryd.pinned (.plain (OpenSpec.upto fnCheckNoneSpec)) fnCheckNoneUptoCard

/-- THE SECOND FORM's CARD OF 'laws.FnCheckRight'. -/
def fnCheckRightUptoCard : Claim7 := { stood := { row := fnCheckRightUptoRow, standIns := [], harness := (true, "cb8885ca0109ff9a54784e32b3cde21165a01b2d23ae0be0bb8e17f9a839acdb"), looks := true }, kinds := [], alts := [], laidByText := true, laidKinds := [.handle, .data], laidTests := true, laidLooks := .later }
def FnCheckRightUptoCardSaid : Prop := Claim7.holds Tryd.pinned (.plain (OpenSpec.upto fnCheckRightSpec)) fnCheckRightUptoCard

/-- THE SECOND FORM's CARD OF 'laws.FnCheckLess'. -/
def fnCheckLessUptoCard : Claim7 := { stood := { row := fnCheckLessUptoRow, standIns := [], harness := (true, "cb8885ca0109ff9a54784e32b3cde21165a01b2d23ae0be0bb8e17f9a839acdb"), looks := true }, kinds := [], alts := [], laidByText := true, laidKinds := [.handle, .data], laidTests := true, laidLooks := .later }
def FnCheckLessUptoCardSaid : Prop := Claim7.holds Tryd.pinned (.plain (OpenSpec.upto fnCheckLessSpec)) fnCheckLessUptoCard

/-- THE SECOND FORM's CARD OF 'laws.FnCheckBlind'. -/
def fnCheckBlindUptoCard : Claim7 := { stood := { row := fnCheckBlindUptoRow, standIns := [], harness := (true, "cb8885ca0109ff9a54784e32b3cde21165a01b2d23ae0be0bb8e17f9a839acdb"), looks := true }, kinds := [], alts := [], laidByText := true, laidKinds := [.handle, .data], laidTests := true, laidLooks := .later }
def FnCheckBlindUptoCardSaid : Prop := Claim7.holds Tryd.pinned (.plain (OpenSpec.upto fnCheckBlindSpec)) fnCheckBlindUptoCard

/-- THE SECOND FORM's CARD OF 'laws.FnCheckKinds'. -/
def fnCheckKindsUptoCard : Claim7 := { stood := { row := fnCheckKindsUptoRow, standIns := [], harness := (true, "cb8885ca0109ff9a54784e32b3cde21165a01b2d23ae0be0bb8e17f9a839acdb"), looks := true }, kinds := [], alts := [], laidByText := true, laidKinds := [.handle, .data], laidTests := true, laidLooks := .later }
def FnCheckKindsUptoCardSaid : Prop := Claim7.holds Tryd.pinned (.plain (OpenSpec.upto fnCheckKindsSpec)) fnCheckKindsUptoCard

/-- THE SECOND FORM's CARD OF 'laws.FnCheckGone'. -/
def fnCheckGoneUptoCard : Claim7 := { stood := { row := fnCheckGoneUptoRow, standIns := [], harness := (true, "cb8885ca0109ff9a54784e32b3cde21165a01b2d23ae0be0bb8e17f9a839acdb"), looks := true }, kinds := [], alts := [], laidByText := true, laidKinds := [.handle, .data], laidTests := true, laidLooks := .later }
def FnCheckGoneUptoCardSaid : Prop := Claim7.holds Tryd.pinned (.plain (OpenSpec.upto fnCheckGoneSpec)) fnCheckGoneUptoCard

/-- THE SECOND FORM's CARD OF 'laws.FnReadUp'. -/
def fnReadUpUptoCard : Claim7 := { stood := { row := fnReadUpUptoRow, standIns := [], harness := (true, "cb8885ca0109ff9a54784e32b3cde21165a01b2d23ae0be0bb8e17f9a839acdb"), looks := true }, kinds := [], alts := [], laidByText := true, laidKinds := [.handle, .data], laidTests := true, laidLooks := .later }
def FnReadUpUptoCardSaid : Prop := Claim7.holds Tryd.pinned (.plain (OpenSpec.upto fnReadUpSpec)) fnReadUpUptoCard

/-- THE SECOND FORM's CARD OF 'laws.FnCheckSame'. -/
def fnCheckSameUptoCard : Claim7 := { stood := { row := fnCheckSameUptoRow, standIns := [], harness := (true, "cb8885ca0109ff9a54784e32b3cde21165a01b2d23ae0be0bb8e17f9a839acdb"), looks := true }, kinds := [], alts := [], laidByText := true, laidKinds := [.handle, .data], laidTests := true, laidLooks := .later }
def FnCheckSameUptoCardSaid : Prop := Claim7.holds Tryd.pinned (.plain (OpenSpec.upto fnCheckSameSpec)) fnCheckSameUptoCard

/-- THE SECOND FORM's CARD OF 'laws.FnExactCheckSees'. -/
def fnExactCheckSeesUptoCard : Claim7 := { stood := { row := fnExactCheckSeesUptoRow, standIns := [], harness := (true, "cb8885ca0109ff9a54784e32b3cde21165a01b2d23ae0be0bb8e17f9a839acdb"), looks := true }, kinds := [], alts := [], laidByText := true, laidKinds := [.data], laidTests := true, laidLooks := .later }
def FnExactCheckSeesUptoCardSaid : Prop := Claim7.holds Tryd.pinned (.plain (OpenSpec.upto fnExactCheckSeesSpec)) fnExactCheckSeesUptoCard

/-- THE SECOND FORM's CARD OF 'laws.FnExactCheckTouches'. -/
def fnExactCheckTouchesUptoCard : Claim7 := { stood := { row := fnExactCheckTouchesUptoRow, standIns := [], harness := (true, "cb8885ca0109ff9a54784e32b3cde21165a01b2d23ae0be0bb8e17f9a839acdb"), looks := true }, kinds := [], alts := [], laidByText := true, laidKinds := [.data], laidTests := true, laidLooks := .later }
def FnExactCheckTouchesUptoCardSaid : Prop := Claim7.holds Tryd.pinned (.plain (OpenSpec.upto fnExactCheckTouchesSpec)) fnExactCheckTouchesUptoCard

/-- THE SECOND FORM's CARD OF 'laws.FnExactTableText'. -/
def fnExactTableTextUptoCard : Claim7 := { stood := { row := fnExactTableTextUptoRow, standIns := [], harness := (true, "cb8885ca0109ff9a54784e32b3cde21165a01b2d23ae0be0bb8e17f9a839acdb"), looks := true }, kinds := [], alts := [], laidByText := true, laidKinds := [.data, .data, .data, .data], laidTests := true, laidLooks := .later }
def FnExactTableTextUptoCardSaid : Prop := Claim7.holds Tryd.pinned (.plain (OpenSpec.upto fnExactTableTextSpec)) fnExactTableTextUptoCard

/-- THE SECOND FORM's CARD OF 'laws.FnTableText'. -/
def fnTableTextUptoCard : Claim7 := { stood := { row := fnTableTextUptoRow, standIns := [], harness := (true, "cb8885ca0109ff9a54784e32b3cde21165a01b2d23ae0be0bb8e17f9a839acdb"), looks := true }, kinds := [], alts := [], laidByText := true, laidKinds := [.data, .data, .data, .data], laidTests := true, laidLooks := .later }
def FnTableTextUptoCardSaid : Prop := Claim7.holds Tryd.pinned (.plain (OpenSpec.upto fnTableTextSpec)) fnTableTextUptoCard

/-- THE SECOND FORM's CARD OF 'laws.FnTableMore'. -/
def fnTableMoreUptoCard : Claim7 := { stood := { row := fnTableMoreUptoRow, standIns := [], harness := (true, "cb8885ca0109ff9a54784e32b3cde21165a01b2d23ae0be0bb8e17f9a839acdb"), looks := true }, kinds := [], alts := [], laidByText := true, laidKinds := [.data, .data, .data, .data], laidTests := true, laidLooks := .later }
def FnTableMoreUptoCardSaid : Prop := Claim7.holds Tryd.pinned (.plain (OpenSpec.upto fnTableMoreSpec)) fnTableMoreUptoCard

/-- THE SECOND FORM's CARD OF 'laws.FnNewApart'. -/
def fnNewApartUptoCard : Claim7 := { stood := { row := fnNewApartUptoRow, standIns := [], harness := (true, "cb8885ca0109ff9a54784e32b3cde21165a01b2d23ae0be0bb8e17f9a839acdb"), looks := true }, kinds := [], alts := [], laidByText := true, laidKinds := [.data, .data, .data, .data], laidTests := true, laidLooks := .later }
def FnNewApartUptoCardSaid : Prop := Claim7.holds Tryd.pinned (.plain (OpenSpec.upto fnNewApartSpec)) fnNewApartUptoCard
end Rows
end Go.Proofs.YtohfincnjhemfaaDoor
