/-
  DERIVED. GIVEN WITH THE SEED: THE CARDS: each row of YtbopficnajdaoaaGreatDoorRows.lean that lists a variable, with what it lists TIED to the program's text (the seventh form; the later family's looks); each row that meets fmt, with fmt's text TOLD by the authors' own Lean function (tested against real Go, not proved from fmt's source: count such statements apart). THE CARD IS WHAT COUNTS. Prove the row's statement (the work); the ties are given (YtbopficnajdaoaaGreatDoorTie.lean); close each card by the builder's one call (the guide's Derived/Test/ToyasCard.lean, 'card_holds'). Laid BY PROGRAM, IN A SANDBOX (cutbox-door.mjs). By AI agents, Wed Nov 11 2026. No macro, syntax, notation, axiom, sorry.
-/
import Derived.Test.YtbopficnajdaoaaGreatDoorRows
import GoSem.ClaimSeven
namespace Go.Proofs.YtbopficnajdaoaaGreatDoor
namespace Rows

/-- THE TIED CARD OF 'laws.FnDoSend'. -/
def fnDoSendCard : Claim7 := { stood := { row := fnDoSendRow, standIns := [], harness := (true, "2a74e9a5379555bb66c04635fc585545aca168e4abf66f9ad2780f92552c7060"), looks := true }, kinds := [], alts := [], laidByText := true, laidKinds := [.handle, .data], laidTests := true, laidLooks := .later }
def FnDoSendCardSaid : Prop := Claim7.holds Tryz.pinned (.plain (OpenSpec.ofChange fnDoSendSpec)) fnDoSendCard

/-- THE TIED CARD OF 'laws.FnDoTake'. -/
def fnDoTakeCard : Claim7 := { stood := { row := fnDoTakeRow, standIns := [], harness := (true, "2a74e9a5379555bb66c04635fc585545aca168e4abf66f9ad2780f92552c7060"), looks := true }, kinds := [], alts := [], laidByText := true, laidKinds := [.handle, .data], laidTests := true, laidLooks := .later }
def FnDoTakeCardSaid : Prop := Claim7.holds Tryz.pinned (.plain (OpenSpec.ofChange fnDoTakeSpec)) fnDoTakeCard

/-- THE TIED CARD OF 'laws.FnDoRenew'. -/
def fnDoRenewCard : Claim7 := { stood := { row := fnDoRenewRow, standIns := [], harness := (true, "2a74e9a5379555bb66c04635fc585545aca168e4abf66f9ad2780f92552c7060"), looks := true }, kinds := [], alts := [], laidByText := true, laidKinds := [.handle, .data], laidTests := true, laidLooks := .later }
def FnDoRenewCardSaid : Prop := Claim7.holds Tryz.pinned (.plain (OpenSpec.ofChange fnDoRenewSpec)) fnDoRenewCard

/-- THE TIED CARD OF 'laws.FnDoGate'. -/
def fnDoGateCard : Claim7 := { stood := { row := fnDoGateRow, standIns := [], harness := (true, "2a74e9a5379555bb66c04635fc585545aca168e4abf66f9ad2780f92552c7060"), looks := true }, kinds := [], alts := [], laidByText := true, laidKinds := [.handle, .data], laidTests := true, laidLooks := .later }
def FnDoGateCardSaid : Prop := Claim7.holds Tryz.pinned (.plain (OpenSpec.ofChange fnDoGateSpec)) fnDoGateCard

/-- THE TIED CARD OF 'laws.FnTakeSent'. -/
def fnTakeSentCard : Claim7 := { stood := { row := fnTakeSentRow, standIns := [], harness := (true, "2a74e9a5379555bb66c04635fc585545aca168e4abf66f9ad2780f92552c7060"), looks := true }, kinds := [], alts := [], laidByText := true, laidKinds := [.handle, .data], laidTests := true, laidLooks := .later }
def FnTakeSentCardSaid : Prop := Claim7.holds Tryz.pinned (.plain (OpenSpec.ofChange fnTakeSentSpec)) fnTakeSentCard

/-- THE TIED CARD OF 'laws.FnWriteRead'. -/
def fnWriteReadCard : Claim7 := { stood := { row := fnWriteReadRow, standIns := [], harness := (true, "2a74e9a5379555bb66c04635fc585545aca168e4abf66f9ad2780f92552c7060"), looks := true }, kinds := [], alts := [], laidByText := true, laidKinds := [.handle, .data], laidTests := true, laidLooks := .later }
def FnWriteReadCardSaid : Prop := Claim7.holds Tryz.pinned (.plain (OpenSpec.ofChange fnWriteReadSpec)) fnWriteReadCard

/-- THE TIED CARD OF 'laws.FnSendTwo'. -/
def fnSendTwoCard : Claim7 := { stood := { row := fnSendTwoRow, standIns := [], harness := (true, "2a74e9a5379555bb66c04635fc585545aca168e4abf66f9ad2780f92552c7060"), looks := true }, kinds := [], alts := [], laidByText := true, laidKinds := [.handle, .data], laidTests := true, laidLooks := .later }
def FnSendTwoCardSaid : Prop := Claim7.holds Tryz.pinned (.plain (OpenSpec.ofChange fnSendTwoSpec)) fnSendTwoCard

/-- THE TIED CARD OF 'laws.FnStoreFetch'. -/
def fnStoreFetchCard : Claim7 := { stood := { row := fnStoreFetchRow, standIns := [], harness := (true, "2a74e9a5379555bb66c04635fc585545aca168e4abf66f9ad2780f92552c7060"), looks := true }, kinds := [], alts := [], laidByText := true, laidKinds := [.handle, .data], laidTests := true, laidLooks := .later }
def FnStoreFetchCardSaid : Prop := Claim7.holds Tryz.pinned (.plain (OpenSpec.ofChange fnStoreFetchSpec)) fnStoreFetchCard

/-- THE TIED CARD OF 'laws.FnRenewTwice'. -/
def fnRenewTwiceCard : Claim7 := { stood := { row := fnRenewTwiceRow, standIns := [], harness := (true, "2a74e9a5379555bb66c04635fc585545aca168e4abf66f9ad2780f92552c7060"), looks := true }, kinds := [], alts := [], laidByText := true, laidKinds := [.handle, .data], laidTests := true, laidLooks := .later }
def FnRenewTwiceCardSaid : Prop := Claim7.holds Tryz.pinned (.plain (OpenSpec.ofChange fnRenewTwiceSpec)) fnRenewTwiceCard

/-- THE TIED CARD OF 'laws.FnDoTwo'. -/
def fnDoTwoCard : Claim7 := { stood := { row := fnDoTwoRow, standIns := [], harness := (true, "2a74e9a5379555bb66c04635fc585545aca168e4abf66f9ad2780f92552c7060"), looks := true }, kinds := [], alts := [], laidByText := true, laidKinds := [.handle, .data], laidTests := true, laidLooks := .later }
def FnDoTwoCardSaid : Prop := Claim7.holds Tryz.pinned (.plain (OpenSpec.ofChange fnDoTwoSpec)) fnDoTwoCard

/-- THE TIED CARD OF 'laws.FnCopySame'. -/
def fnCopySameCard : Claim7 := { stood := { row := fnCopySameRow, standIns := [], harness := (true, "2a74e9a5379555bb66c04635fc585545aca168e4abf66f9ad2780f92552c7060"), looks := true }, kinds := [], alts := [], laidByText := true, laidKinds := [.handle, .data], laidTests := true, laidLooks := .later }
def FnCopySameCardSaid : Prop := Claim7.holds Tryz.pinned (.plain (OpenSpec.ofChange fnCopySameSpec)) fnCopySameCard

/-- THE TIED CARD OF 'laws.FnGateTwice'. -/
def fnGateTwiceCard : Claim7 := { stood := { row := fnGateTwiceRow, standIns := [], harness := (true, "2a74e9a5379555bb66c04635fc585545aca168e4abf66f9ad2780f92552c7060"), looks := true }, kinds := [], alts := [], laidByText := true, laidKinds := [.handle, .data], laidTests := true, laidLooks := .later }
def FnGateTwiceCardSaid : Prop := Claim7.holds Tryz.pinned (.plain (OpenSpec.ofChange fnGateTwiceSpec)) fnGateTwiceCard

/-- THE TIED CARD OF 'laws.FnReadTwice'. -/
def fnReadTwiceCard : Claim7 := { stood := { row := fnReadTwiceRow, standIns := [], harness := (true, "2a74e9a5379555bb66c04635fc585545aca168e4abf66f9ad2780f92552c7060"), looks := true }, kinds := [], alts := [], laidByText := true, laidKinds := [.handle, .data], laidTests := true, laidLooks := .later }
def FnReadTwiceCardSaid : Prop := Claim7.holds Tryz.pinned (.plain (OpenSpec.ofChange fnReadTwiceSpec)) fnReadTwiceCard

/-- THE TIED CARD OF 'laws.FnWriteTwo'. -/
def fnWriteTwoCard : Claim7 := { stood := { row := fnWriteTwoRow, standIns := [], harness := (true, "2a74e9a5379555bb66c04635fc585545aca168e4abf66f9ad2780f92552c7060"), looks := true }, kinds := [], alts := [], laidByText := true, laidKinds := [.handle, .data], laidTests := true, laidLooks := .later }
def FnWriteTwoCardSaid : Prop := Claim7.holds Tryz.pinned (.plain (OpenSpec.ofChange fnWriteTwoSpec)) fnWriteTwoCard

/-- THE TIED CARD OF 'laws.FnPageOnly'. -/
def fnPageOnlyCard : Claim7 := { stood := { row := fnPageOnlyRow, standIns := [], harness := (true, "2a74e9a5379555bb66c04635fc585545aca168e4abf66f9ad2780f92552c7060"), looks := true }, kinds := [], alts := [], laidByText := true, laidKinds := [.handle, .data], laidTests := true, laidLooks := .later }
def FnPageOnlyCardSaid : Prop := Claim7.holds Tryz.pinned (.plain (OpenSpec.ofChange fnPageOnlySpec)) fnPageOnlyCard

/-- THE TIED CARD OF 'laws.FnWeakChain'. -/
def fnWeakChainCard : Claim7 := { stood := { row := fnWeakChainRow, standIns := [], harness := (true, "2a74e9a5379555bb66c04635fc585545aca168e4abf66f9ad2780f92552c7060"), looks := true }, kinds := [], alts := [], laidByText := true, laidKinds := [.handle, .data], laidTests := true, laidLooks := .later }
def FnWeakChainCardSaid : Prop := Claim7.holds Tryz.pinned (.plain (OpenSpec.ofChange fnWeakChainSpec)) fnWeakChainCard

/-- THE TIED CARD OF 'laws.FnNumberKept'. -/
def fnNumberKeptCard : Claim7 := { stood := { row := fnNumberKeptRow, standIns := [], harness := (true, "2a74e9a5379555bb66c04635fc585545aca168e4abf66f9ad2780f92552c7060"), looks := true }, kinds := [], alts := [], laidByText := true, laidKinds := [.handle, .data], laidTests := true, laidLooks := .later }
def FnNumberKeptCardSaid : Prop := Claim7.holds Tryz.pinned (.plain (OpenSpec.ofChange fnNumberKeptSpec)) fnNumberKeptCard

/-- THE SECOND FORM's CARD OF 'laws.FnDoSend'. -/
def fnDoSendUptoCard : Claim7 := { stood := { row := fnDoSendUptoRow, standIns := [], harness := (true, "2a74e9a5379555bb66c04635fc585545aca168e4abf66f9ad2780f92552c7060"), looks := true }, kinds := [], alts := [], laidByText := true, laidKinds := [.handle, .data], laidTests := true, laidLooks := .later }
def FnDoSendUptoCardSaid : Prop := Claim7.holds Tryz.pinned (.plain (OpenSpec.upto fnDoSendSpec)) fnDoSendUptoCard

/-- THE SECOND FORM's CARD OF 'laws.FnDoTake'. -/
def fnDoTakeUptoCard : Claim7 := { stood := { row := fnDoTakeUptoRow, standIns := [], harness := (true, "2a74e9a5379555bb66c04635fc585545aca168e4abf66f9ad2780f92552c7060"), looks := true }, kinds := [], alts := [], laidByText := true, laidKinds := [.handle, .data], laidTests := true, laidLooks := .later }
def FnDoTakeUptoCardSaid : Prop := Claim7.holds Tryz.pinned (.plain (OpenSpec.upto fnDoTakeSpec)) fnDoTakeUptoCard

/-- THE SECOND FORM's CARD OF 'laws.FnDoRenew'. -/
def fnDoRenewUptoCard : Claim7 := { stood := { row := fnDoRenewUptoRow, standIns := [], harness := (true, "2a74e9a5379555bb66c04635fc585545aca168e4abf66f9ad2780f92552c7060"), looks := true }, kinds := [], alts := [], laidByText := true, laidKinds := [.handle, .data], laidTests := true, laidLooks := .later }
def FnDoRenewUptoCardSaid : Prop := Claim7.holds Tryz.pinned (.plain (OpenSpec.upto fnDoRenewSpec)) fnDoRenewUptoCard

/-- THE SECOND FORM's CARD OF 'laws.FnDoGate'. -/
def fnDoGateUptoCard : Claim7 := { stood := { row := fnDoGateUptoRow, standIns := [], harness := (true, "2a74e9a5379555bb66c04635fc585545aca168e4abf66f9ad2780f92552c7060"), looks := true }, kinds := [], alts := [], laidByText := true, laidKinds := [.handle, .data], laidTests := true, laidLooks := .later }
def FnDoGateUptoCardSaid : Prop := Claim7.holds Tryz.pinned (.plain (OpenSpec.upto fnDoGateSpec)) fnDoGateUptoCard

/-- THE SECOND FORM's CARD OF 'laws.FnTakeSent'. -/
def fnTakeSentUptoCard : Claim7 := { stood := { row := fnTakeSentUptoRow, standIns := [], harness := (true, "2a74e9a5379555bb66c04635fc585545aca168e4abf66f9ad2780f92552c7060"), looks := true }, kinds := [], alts := [], laidByText := true, laidKinds := [.handle, .data], laidTests := true, laidLooks := .later }
def FnTakeSentUptoCardSaid : Prop := Claim7.holds Tryz.pinned (.plain (OpenSpec.upto fnTakeSentSpec)) fnTakeSentUptoCard

/-- THE SECOND FORM's CARD OF 'laws.FnWriteRead'. -/
def fnWriteReadUptoCard : Claim7 := { stood := { row := fnWriteReadUptoRow, standIns := [], harness := (true, "2a74e9a5379555bb66c04635fc585545aca168e4abf66f9ad2780f92552c7060"), looks := true }, kinds := [], alts := [], laidByText := true, laidKinds := [.handle, .data], laidTests := true, laidLooks := .later }
def FnWriteReadUptoCardSaid : Prop := Claim7.holds Tryz.pinned (.plain (OpenSpec.upto fnWriteReadSpec)) fnWriteReadUptoCard

/-- THE SECOND FORM's CARD OF 'laws.FnSendTwo'. -/
def fnSendTwoUptoCard : Claim7 := { stood := { row := fnSendTwoUptoRow, standIns := [], harness := (true, "2a74e9a5379555bb66c04635fc585545aca168e4abf66f9ad2780f92552c7060"), looks := true }, kinds := [], alts := [], laidByText := true, laidKinds := [.handle, .data], laidTests := true, laidLooks := .later }
def FnSendTwoUptoCardSaid : Prop := Claim7.holds Tryz.pinned (.plain (OpenSpec.upto fnSendTwoSpec)) fnSendTwoUptoCard

/-- THE SECOND FORM's CARD OF 'laws.FnStoreFetch'. -/
def fnStoreFetchUptoCard : Claim7 := { stood := { row := fnStoreFetchUptoRow, standIns := [], harness := (true, "2a74e9a5379555bb66c04635fc585545aca168e4abf66f9ad2780f92552c7060"), looks := true }, kinds := [], alts := [], laidByText := true, laidKinds := [.handle, .data], laidTests := true, laidLooks := .later }
def FnStoreFetchUptoCardSaid : Prop := Claim7.holds Tryz.pinned (.plain (OpenSpec.upto fnStoreFetchSpec)) fnStoreFetchUptoCard

/-- THE SECOND FORM's CARD OF 'laws.FnRenewTwice'. -/
def fnRenewTwiceUptoCard : Claim7 := { stood := { row := fnRenewTwiceUptoRow, standIns := [], harness := (true, "2a74e9a5379555bb66c04635fc585545aca168e4abf66f9ad2780f92552c7060"), looks := true }, kinds := [], alts := [], laidByText := true, laidKinds := [.handle, .data], laidTests := true, laidLooks := .later }
def FnRenewTwiceUptoCardSaid : Prop := Claim7.holds Tryz.pinned (.plain (OpenSpec.upto fnRenewTwiceSpec)) fnRenewTwiceUptoCard

/-- THE SECOND FORM's CARD OF 'laws.FnDoTwo'. -/
def fnDoTwoUptoCard : Claim7 := { stood := { row := fnDoTwoUptoRow, standIns := [], harness := (true, "2a74e9a5379555bb66c04635fc585545aca168e4abf66f9ad2780f92552c7060"), looks := true }, kinds := [], alts := [], laidByText := true, laidKinds := [.handle, .data], laidTests := true, laidLooks := .later }
def FnDoTwoUptoCardSaid : Prop := Claim7.holds Tryz.pinned (.plain (OpenSpec.upto fnDoTwoSpec)) fnDoTwoUptoCard

/-- THE SECOND FORM's CARD OF 'laws.FnCopySame'. -/
def fnCopySameUptoCard : Claim7 := { stood := { row := fnCopySameUptoRow, standIns := [], harness := (true, "2a74e9a5379555bb66c04635fc585545aca168e4abf66f9ad2780f92552c7060"), looks := true }, kinds := [], alts := [], laidByText := true, laidKinds := [.handle, .data], laidTests := true, laidLooks := .later }
def FnCopySameUptoCardSaid : Prop := Claim7.holds Tryz.pinned (.plain (OpenSpec.upto fnCopySameSpec)) fnCopySameUptoCard

/-- THE SECOND FORM's CARD OF 'laws.FnGateTwice'. -/
def fnGateTwiceUptoCard : Claim7 := { stood := { row := fnGateTwiceUptoRow, standIns := [], harness := (true, "2a74e9a5379555bb66c04635fc585545aca168e4abf66f9ad2780f92552c7060"), looks := true }, kinds := [], alts := [], laidByText := true, laidKinds := [.handle, .data], laidTests := true, laidLooks := .later }
def FnGateTwiceUptoCardSaid : Prop := Claim7.holds Tryz.pinned (.plain (OpenSpec.upto fnGateTwiceSpec)) fnGateTwiceUptoCard

/-- THE SECOND FORM's CARD OF 'laws.FnReadTwice'. -/
def fnReadTwiceUptoCard : Claim7 := { stood := { row := fnReadTwiceUptoRow, standIns := [], harness := (true, "2a74e9a5379555bb66c04635fc585545aca168e4abf66f9ad2780f92552c7060"), looks := true }, kinds := [], alts := [], laidByText := true, laidKinds := [.handle, .data], laidTests := true, laidLooks := .later }
def FnReadTwiceUptoCardSaid : Prop := Claim7.holds Tryz.pinned (.plain (OpenSpec.upto fnReadTwiceSpec)) fnReadTwiceUptoCard

/-- THE SECOND FORM's CARD OF 'laws.FnWriteTwo'. -/
def fnWriteTwoUptoCard : Claim7 := { stood := { row := fnWriteTwoUptoRow, standIns := [], harness := (true, "2a74e9a5379555bb66c04635fc585545aca168e4abf66f9ad2780f92552c7060"), looks := true }, kinds := [], alts := [], laidByText := true, laidKinds := [.handle, .data], laidTests := true, laidLooks := .later }
def FnWriteTwoUptoCardSaid : Prop := Claim7.holds Tryz.pinned (.plain (OpenSpec.upto fnWriteTwoSpec)) fnWriteTwoUptoCard

/-- THE SECOND FORM's CARD OF 'laws.FnPageOnly'. -/
def fnPageOnlyUptoCard : Claim7 := { stood := { row := fnPageOnlyUptoRow, standIns := [], harness := (true, "2a74e9a5379555bb66c04635fc585545aca168e4abf66f9ad2780f92552c7060"), looks := true }, kinds := [], alts := [], laidByText := true, laidKinds := [.handle, .data], laidTests := true, laidLooks := .later }
def FnPageOnlyUptoCardSaid : Prop := Claim7.holds Tryz.pinned (.plain (OpenSpec.upto fnPageOnlySpec)) fnPageOnlyUptoCard

/-- THE SECOND FORM's CARD OF 'laws.FnWeakChain'. -/
def fnWeakChainUptoCard : Claim7 := { stood := { row := fnWeakChainUptoRow, standIns := [], harness := (true, "2a74e9a5379555bb66c04635fc585545aca168e4abf66f9ad2780f92552c7060"), looks := true }, kinds := [], alts := [], laidByText := true, laidKinds := [.handle, .data], laidTests := true, laidLooks := .later }
def FnWeakChainUptoCardSaid : Prop := Claim7.holds Tryz.pinned (.plain (OpenSpec.upto fnWeakChainSpec)) fnWeakChainUptoCard

/-- THE SECOND FORM's CARD OF 'laws.FnNumberKept'. -/
def fnNumberKeptUptoCard : Claim7 := { stood := { row := fnNumberKeptUptoRow, standIns := [], harness := (true, "2a74e9a5379555bb66c04635fc585545aca168e4abf66f9ad2780f92552c7060"), looks := true }, kinds := [], alts := [], laidByText := true, laidKinds := [.handle, .data], laidTests := true, laidLooks := .later }
def FnNumberKeptUptoCardSaid : Prop := Claim7.holds Tryz.pinned (.plain (OpenSpec.upto fnNumberKeptSpec)) fnNumberKeptUptoCard
end Rows
end Go.Proofs.YtbopficnajdaoaaGreatDoor
