/-
  DERIVED. GIVEN WITH THE SEED: THE CARDS: each row of YtgpiclngkmjnpaaGreatDoorRows.lean that lists a variable, with what it lists TIED to the program's text (the seventh form; the later family's looks); each row that meets fmt, with fmt's text TOLD by the authors' own Lean function (tested against real Go, not proved from fmt's source: count such statements apart). THE CARD IS WHAT COUNTS. Prove the row's statement (the work); the ties are given (YtgpiclngkmjnpaaGreatDoorTie.lean); close each card by the builder's one call (the guide's Derived/Test/ToyasCard.lean, 'card_holds'). Laid BY PROGRAM, IN A SANDBOX (cutbox-door.mjs). By AI agents, Wed Nov 11 2026. No macro, syntax, notation, axiom, sorry.
-/
import Derived.Test.YtgpiclngkmjnpaaGreatDoorRows
import GoSem.ClaimSeven
namespace Go.Proofs.YtgpiclngkmjnpaaGreatDoor
namespace Rows

/-- THE TIED CARD OF 'laws.FnDoOk'. -/
def fnDoOkCard : Claim7 := { stood := { row := fnDoOkRow, standIns := [], harness := (true, "afcabd7a8da1df46ff2baf9178df11197c04e8f12413126f64603d36e37b290b"), looks := true }, kinds := [], alts := [], laidByText := true, laidKinds := [.handle, .data], laidTests := true, laidLooks := .later }
def FnDoOkCardSaid : Prop := Claim7.holds Tryz.pinned (.plain (OpenSpec.ofChange fnDoOkSpec)) fnDoOkCard

/-- THE TIED CARD OF 'laws.FnDoRefused'. -/
def fnDoRefusedCard : Claim7 := { stood := { row := fnDoRefusedRow, standIns := [], harness := (true, "afcabd7a8da1df46ff2baf9178df11197c04e8f12413126f64603d36e37b290b"), looks := true }, kinds := [], alts := [], laidByText := true, laidKinds := [.handle, .data], laidTests := true, laidLooks := .later }
def FnDoRefusedCardSaid : Prop := Claim7.holds Tryz.pinned (.plain (OpenSpec.ofChange fnDoRefusedSpec)) fnDoRefusedCard

/-- THE TIED CARD OF 'laws.FnDoTouch'. -/
def fnDoTouchCard : Claim7 := { stood := { row := fnDoTouchRow, standIns := [], harness := (true, "afcabd7a8da1df46ff2baf9178df11197c04e8f12413126f64603d36e37b290b"), looks := true }, kinds := [], alts := [], laidByText := true, laidKinds := [.handle, .data], laidTests := true, laidLooks := .later }
def FnDoTouchCardSaid : Prop := Claim7.holds Tryz.pinned (.plain (OpenSpec.ofChange fnDoTouchSpec)) fnDoTouchCard

/-- THE TIED CARD OF 'laws.FnDoRead'. -/
def fnDoReadCard : Claim7 := { stood := { row := fnDoReadRow, standIns := [], harness := (true, "afcabd7a8da1df46ff2baf9178df11197c04e8f12413126f64603d36e37b290b"), looks := true }, kinds := [], alts := [], laidByText := true, laidKinds := [.handle, .data], laidTests := true, laidLooks := .later }
def FnDoReadCardSaid : Prop := Claim7.holds Tryz.pinned (.plain (OpenSpec.ofChange fnDoReadSpec)) fnDoReadCard

/-- THE TIED CARD OF 'laws.FnDoWrite'. -/
def fnDoWriteCard : Claim7 := { stood := { row := fnDoWriteRow, standIns := [], harness := (true, "afcabd7a8da1df46ff2baf9178df11197c04e8f12413126f64603d36e37b290b"), looks := true }, kinds := [], alts := [], laidByText := true, laidKinds := [.handle, .data], laidTests := true, laidLooks := .later }
def FnDoWriteCardSaid : Prop := Claim7.holds Tryz.pinned (.plain (OpenSpec.ofChange fnDoWriteSpec)) fnDoWriteCard

/-- THE TIED CARD OF 'laws.FnDoCopy'. -/
def fnDoCopyCard : Claim7 := { stood := { row := fnDoCopyRow, standIns := [], harness := (true, "afcabd7a8da1df46ff2baf9178df11197c04e8f12413126f64603d36e37b290b"), looks := true }, kinds := [], alts := [], laidByText := true, laidKinds := [.handle, .data], laidTests := true, laidLooks := .later }
def FnDoCopyCardSaid : Prop := Claim7.holds Tryz.pinned (.plain (OpenSpec.ofChange fnDoCopySpec)) fnDoCopyCard

/-- THE TIED CARD OF 'laws.FnDoFetch'. -/
def fnDoFetchCard : Claim7 := { stood := { row := fnDoFetchRow, standIns := [], harness := (true, "afcabd7a8da1df46ff2baf9178df11197c04e8f12413126f64603d36e37b290b"), looks := true }, kinds := [], alts := [], laidByText := true, laidKinds := [.handle, .data], laidTests := true, laidLooks := .later }
def FnDoFetchCardSaid : Prop := Claim7.holds Tryz.pinned (.plain (OpenSpec.ofChange fnDoFetchSpec)) fnDoFetchCard

/-- THE TIED CARD OF 'laws.FnDoStore'. -/
def fnDoStoreCard : Claim7 := { stood := { row := fnDoStoreRow, standIns := [], harness := (true, "afcabd7a8da1df46ff2baf9178df11197c04e8f12413126f64603d36e37b290b"), looks := true }, kinds := [], alts := [], laidByText := true, laidKinds := [.handle, .data], laidTests := true, laidLooks := .later }
def FnDoStoreCardSaid : Prop := Claim7.holds Tryz.pinned (.plain (OpenSpec.ofChange fnDoStoreSpec)) fnDoStoreCard

/-- THE TIED CARD OF 'laws.FnBlindSame'. -/
def fnBlindSameCard : Claim7 := { stood := { row := fnBlindSameRow, standIns := [], harness := (true, "afcabd7a8da1df46ff2baf9178df11197c04e8f12413126f64603d36e37b290b"), looks := true }, kinds := [], alts := [], laidByText := true, laidKinds := [.handle, .data], laidTests := true, laidLooks := .later }
def FnBlindSameCardSaid : Prop := Claim7.holds Tryz.pinned (.plain (OpenSpec.ofChange fnBlindSameSpec)) fnBlindSameCard

/-- THE TIED CARD OF 'laws.FnOwnSlots'. -/
def fnOwnSlotsCard : Claim7 := { stood := { row := fnOwnSlotsRow, standIns := [], harness := (true, "afcabd7a8da1df46ff2baf9178df11197c04e8f12413126f64603d36e37b290b"), looks := true }, kinds := [], alts := [], laidByText := true, laidKinds := [.handle, .data], laidTests := true, laidLooks := .later }
def FnOwnSlotsCardSaid : Prop := Claim7.holds Tryz.pinned (.plain (OpenSpec.ofChange fnOwnSlotsSpec)) fnOwnSlotsCard

/-- THE TIED CARD OF 'laws.FnAnswers'. -/
def fnAnswersCard : Claim7 := { stood := { row := fnAnswersRow, standIns := [], harness := (true, "afcabd7a8da1df46ff2baf9178df11197c04e8f12413126f64603d36e37b290b"), looks := true }, kinds := [], alts := [], laidByText := true, laidKinds := [.handle, .data], laidTests := true, laidLooks := .later }
def FnAnswersCardSaid : Prop := Claim7.holds Tryz.pinned (.plain (OpenSpec.ofChange fnAnswersSpec)) fnAnswersCard

/-- THE TIED CARD OF 'laws.FnExactCallDo'. -/
def fnExactCallDoCard : Claim7 := { stood := { row := fnExactCallDoRow, standIns := [], harness := (true, "afcabd7a8da1df46ff2baf9178df11197c04e8f12413126f64603d36e37b290b"), looks := true }, kinds := [], alts := [], laidByText := true, laidKinds := [.handle, .data], laidTests := true, laidLooks := .later }
def FnExactCallDoCardSaid : Prop := Claim7.holds Tryz.pinned (.plain (OpenSpec.ofChange fnExactCallDoSpec)) fnExactCallDoCard

/-- THE SECOND FORM's CARD OF 'laws.FnDoOk'. -/
def fnDoOkUptoCard : Claim7 := { stood := { row := fnDoOkUptoRow, standIns := [], harness := (true, "afcabd7a8da1df46ff2baf9178df11197c04e8f12413126f64603d36e37b290b"), looks := true }, kinds := [], alts := [], laidByText := true, laidKinds := [.handle, .data], laidTests := true, laidLooks := .later }
def FnDoOkUptoCardSaid : Prop := Claim7.holds Tryz.pinned (.plain (OpenSpec.upto fnDoOkSpec)) fnDoOkUptoCard

/-- THE SECOND FORM's CARD OF 'laws.FnDoRefused'. -/
def fnDoRefusedUptoCard : Claim7 := { stood := { row := fnDoRefusedUptoRow, standIns := [], harness := (true, "afcabd7a8da1df46ff2baf9178df11197c04e8f12413126f64603d36e37b290b"), looks := true }, kinds := [], alts := [], laidByText := true, laidKinds := [.handle, .data], laidTests := true, laidLooks := .later }
def FnDoRefusedUptoCardSaid : Prop := Claim7.holds Tryz.pinned (.plain (OpenSpec.upto fnDoRefusedSpec)) fnDoRefusedUptoCard

/-- THE SECOND FORM's CARD OF 'laws.FnDoTouch'. -/
def fnDoTouchUptoCard : Claim7 := { stood := { row := fnDoTouchUptoRow, standIns := [], harness := (true, "afcabd7a8da1df46ff2baf9178df11197c04e8f12413126f64603d36e37b290b"), looks := true }, kinds := [], alts := [], laidByText := true, laidKinds := [.handle, .data], laidTests := true, laidLooks := .later }
def FnDoTouchUptoCardSaid : Prop := Claim7.holds Tryz.pinned (.plain (OpenSpec.upto fnDoTouchSpec)) fnDoTouchUptoCard

/-- THE SECOND FORM's CARD OF 'laws.FnDoRead'. -/
def fnDoReadUptoCard : Claim7 := { stood := { row := fnDoReadUptoRow, standIns := [], harness := (true, "afcabd7a8da1df46ff2baf9178df11197c04e8f12413126f64603d36e37b290b"), looks := true }, kinds := [], alts := [], laidByText := true, laidKinds := [.handle, .data], laidTests := true, laidLooks := .later }
def FnDoReadUptoCardSaid : Prop := Claim7.holds Tryz.pinned (.plain (OpenSpec.upto fnDoReadSpec)) fnDoReadUptoCard

/-- THE SECOND FORM's CARD OF 'laws.FnDoWrite'. -/
def fnDoWriteUptoCard : Claim7 := { stood := { row := fnDoWriteUptoRow, standIns := [], harness := (true, "afcabd7a8da1df46ff2baf9178df11197c04e8f12413126f64603d36e37b290b"), looks := true }, kinds := [], alts := [], laidByText := true, laidKinds := [.handle, .data], laidTests := true, laidLooks := .later }
def FnDoWriteUptoCardSaid : Prop := Claim7.holds Tryz.pinned (.plain (OpenSpec.upto fnDoWriteSpec)) fnDoWriteUptoCard

/-- THE SECOND FORM's CARD OF 'laws.FnDoCopy'. -/
def fnDoCopyUptoCard : Claim7 := { stood := { row := fnDoCopyUptoRow, standIns := [], harness := (true, "afcabd7a8da1df46ff2baf9178df11197c04e8f12413126f64603d36e37b290b"), looks := true }, kinds := [], alts := [], laidByText := true, laidKinds := [.handle, .data], laidTests := true, laidLooks := .later }
def FnDoCopyUptoCardSaid : Prop := Claim7.holds Tryz.pinned (.plain (OpenSpec.upto fnDoCopySpec)) fnDoCopyUptoCard

/-- THE SECOND FORM's CARD OF 'laws.FnDoFetch'. -/
def fnDoFetchUptoCard : Claim7 := { stood := { row := fnDoFetchUptoRow, standIns := [], harness := (true, "afcabd7a8da1df46ff2baf9178df11197c04e8f12413126f64603d36e37b290b"), looks := true }, kinds := [], alts := [], laidByText := true, laidKinds := [.handle, .data], laidTests := true, laidLooks := .later }
def FnDoFetchUptoCardSaid : Prop := Claim7.holds Tryz.pinned (.plain (OpenSpec.upto fnDoFetchSpec)) fnDoFetchUptoCard

/-- THE SECOND FORM's CARD OF 'laws.FnDoStore'. -/
def fnDoStoreUptoCard : Claim7 := { stood := { row := fnDoStoreUptoRow, standIns := [], harness := (true, "afcabd7a8da1df46ff2baf9178df11197c04e8f12413126f64603d36e37b290b"), looks := true }, kinds := [], alts := [], laidByText := true, laidKinds := [.handle, .data], laidTests := true, laidLooks := .later }
def FnDoStoreUptoCardSaid : Prop := Claim7.holds Tryz.pinned (.plain (OpenSpec.upto fnDoStoreSpec)) fnDoStoreUptoCard

/-- THE SECOND FORM's CARD OF 'laws.FnBlindSame'. -/
def fnBlindSameUptoCard : Claim7 := { stood := { row := fnBlindSameUptoRow, standIns := [], harness := (true, "afcabd7a8da1df46ff2baf9178df11197c04e8f12413126f64603d36e37b290b"), looks := true }, kinds := [], alts := [], laidByText := true, laidKinds := [.handle, .data], laidTests := true, laidLooks := .later }
def FnBlindSameUptoCardSaid : Prop := Claim7.holds Tryz.pinned (.plain (OpenSpec.upto fnBlindSameSpec)) fnBlindSameUptoCard

/-- THE SECOND FORM's CARD OF 'laws.FnOwnSlots'. -/
def fnOwnSlotsUptoCard : Claim7 := { stood := { row := fnOwnSlotsUptoRow, standIns := [], harness := (true, "afcabd7a8da1df46ff2baf9178df11197c04e8f12413126f64603d36e37b290b"), looks := true }, kinds := [], alts := [], laidByText := true, laidKinds := [.handle, .data], laidTests := true, laidLooks := .later }
def FnOwnSlotsUptoCardSaid : Prop := Claim7.holds Tryz.pinned (.plain (OpenSpec.upto fnOwnSlotsSpec)) fnOwnSlotsUptoCard

/-- THE SECOND FORM's CARD OF 'laws.FnAnswers'. -/
def fnAnswersUptoCard : Claim7 := { stood := { row := fnAnswersUptoRow, standIns := [], harness := (true, "afcabd7a8da1df46ff2baf9178df11197c04e8f12413126f64603d36e37b290b"), looks := true }, kinds := [], alts := [], laidByText := true, laidKinds := [.handle, .data], laidTests := true, laidLooks := .later }
def FnAnswersUptoCardSaid : Prop := Claim7.holds Tryz.pinned (.plain (OpenSpec.upto fnAnswersSpec)) fnAnswersUptoCard

/-- THE SECOND FORM's CARD OF 'laws.FnExactCallDo'. -/
def fnExactCallDoUptoCard : Claim7 := { stood := { row := fnExactCallDoUptoRow, standIns := [], harness := (true, "afcabd7a8da1df46ff2baf9178df11197c04e8f12413126f64603d36e37b290b"), looks := true }, kinds := [], alts := [], laidByText := true, laidKinds := [.handle, .data], laidTests := true, laidLooks := .later }
def FnExactCallDoUptoCardSaid : Prop := Claim7.holds Tryz.pinned (.plain (OpenSpec.upto fnExactCallDoSpec)) fnExactCallDoUptoCard
end Rows
end Go.Proofs.YtgpiclngkmjnpaaGreatDoor
