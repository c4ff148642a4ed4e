/-
  DERIVED. GIVEN WITH THE SEED: THE CARDS: each row of YtohfincnjhemfaaGreatDoorRows.lean that lists a variable, with what it lists TIED to the program's text (the seventh form; the later family's looks); each row that meets fmt, with fmt's text TOLD by the authors' own Lean function (tested against real Go, not proved from fmt's source: count such statements apart). THE CARD IS WHAT COUNTS. Prove the row's statement (the work); the ties are given (YtohfincnjhemfaaGreatDoorTie.lean); close each card by the builder's one call (the guide's Derived/Test/ToyasCard.lean, 'card_holds'). Laid BY PROGRAM, IN A SANDBOX (cutbox-door.mjs). By AI agents, Wed Nov 11 2026. No macro, syntax, notation, axiom, sorry.
-/
import Derived.Test.YtohfincnjhemfaaGreatDoorRows
import GoSem.ClaimSeven
namespace Go.Proofs.YtohfincnjhemfaaGreatDoor
namespace Rows

/-- THE TIED CARD OF 'laws.FnExactCheckCall'. -/
def fnExactCheckCallCard : Claim7 := { stood := { row := fnExactCheckCallRow, standIns := [], harness := (true, "9a2aa9249275c2214b001db5579b6908978c306516776c7915eb10b7cd8bae93"), looks := true }, kinds := [], alts := [], laidByText := true, laidKinds := [.handle, .data], laidTests := true, laidLooks := .later }
def FnExactCheckCallCardSaid : Prop := Claim7.holds Tryz.pinned (.plain (OpenSpec.ofChange fnExactCheckCallSpec)) fnExactCheckCallCard

/-- THE SECOND FORM's CARD OF 'laws.FnExactCheckCall'. -/
def fnExactCheckCallUptoCard : Claim7 := { stood := { row := fnExactCheckCallUptoRow, standIns := [], harness := (true, "9a2aa9249275c2214b001db5579b6908978c306516776c7915eb10b7cd8bae93"), looks := true }, kinds := [], alts := [], laidByText := true, laidKinds := [.handle, .data], laidTests := true, laidLooks := .later }
def FnExactCheckCallUptoCardSaid : Prop := Claim7.holds Tryz.pinned (.plain (OpenSpec.upto fnExactCheckCallSpec)) fnExactCheckCallUptoCard
end Rows
end Go.Proofs.YtohfincnjhemfaaGreatDoor
