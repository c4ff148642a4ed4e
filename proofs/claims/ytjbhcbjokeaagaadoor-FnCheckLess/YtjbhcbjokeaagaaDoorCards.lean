/-
  DERIVED. GIVEN WITH THE SEED: THE CARDS: each row of YtjbhcbjokeaagaaDoorRows.lean that lists a variable, with what it lists TIED to the program's text (the seventh form; the later family's looks); each row that meets fmt, with fmt's text TOLD by the authors' own Lean function (tested against real Go, not proved from fmt's source: count such statements apart). THE CARD IS WHAT COUNTS. Prove the row's statement (the work); the ties are given (YtjbhcbjokeaagaaDoorTie.lean); close each card by the builder's one call (the guide's Derived/Test/ToyasCard.lean, 'card_holds'). Laid BY PROGRAM, IN A SANDBOX (cutbox-door.mjs). By AI agents, Wed Nov 11 2026. No macro, syntax, notation, axiom, sorry.
-/
import Derived.Test.YtjbhcbjokeaagaaDoorRows
import GoSem.ClaimSeven
namespace Go.Proofs.YtjbhcbjokeaagaaDoor
namespace Rows

/-- THE TIED CARD OF 'laws.FnCheckNone'. -/
def fnCheckNoneCard : Claim7 := { stood := { row := fnCheckNoneRow, standIns := [], harness := (true, "b9bbc0f64370c54c0701793a9fa87f81b2154804a171ce07f7aa3cf8d0947123"), looks := true }, kinds := [], alts := [], laidByText := true, laidKinds := [.handle, .data], laidTests := true, laidLooks := .later }
def FnCheckNoneCardSaid : Prop := Claim7.holds Tryd.pinned (.plain (OpenSpec.ofChange fnCheckNoneSpec)) fnCheckNoneCard

/-- THE TIED CARD OF 'laws.FnCheckLess'. -/
def fnCheckLessCard : Claim7 := { stood := { row := fnCheckLessRow, standIns := [], harness := (true, "b9bbc0f64370c54c0701793a9fa87f81b2154804a171ce07f7aa3cf8d0947123"), looks := true }, kinds := [], alts := [], laidByText := true, laidKinds := [.handle, .data], laidTests := true, laidLooks := .later }
def FnCheckLessCardSaid : Prop := Claim7.holds Tryd.pinned (.plain (OpenSpec.ofChange fnCheckLessSpec)) fnCheckLessCard

/-- THE TIED CARD OF 'laws.FnCheckBlind'. -/
def fnCheckBlindCard : Claim7 := { stood := { row := fnCheckBlindRow, standIns := [], harness := (true, "b9bbc0f64370c54c0701793a9fa87f81b2154804a171ce07f7aa3cf8d0947123"), looks := true }, kinds := [], alts := [], laidByText := true, laidKinds := [.handle, .data], laidTests := true, laidLooks := .later }
def FnCheckBlindCardSaid : Prop := Claim7.holds Tryd.pinned (.plain (OpenSpec.ofChange fnCheckBlindSpec)) fnCheckBlindCard

/-- THE SECOND FORM's CARD OF 'laws.FnCheckNone'. -/
def fnCheckNoneUptoCard : Claim7 := { stood := { row := fnCheckNoneUptoRow, standIns := [], harness := (true, "b9bbc0f64370c54c0701793a9fa87f81b2154804a171ce07f7aa3cf8d0947123"), looks := true }, kinds := [], alts := [], laidByText := true, laidKinds := [.handle, .data], laidTests := true, laidLooks := .later }
def FnCheckNoneUptoCardSaid : Prop := Claim7.holds Tryd.pinned (.plain (OpenSpec.upto fnCheckNoneSpec)) fnCheckNoneUptoCard

/-- THE SECOND FORM's CARD OF 'laws.FnCheckLess'. -/
def fnCheckLessUptoCard : Claim7 := { stood := { row := fnCheckLessUptoRow, standIns := [], harness := (true, "b9bbc0f64370c54c0701793a9fa87f81b2154804a171ce07f7aa3cf8d0947123"), looks := true }, kinds := [], alts := [], laidByText := true, laidKinds := [.handle, .data], laidTests := true, laidLooks := .later }
def FnCheckLessUptoCardSaid : Prop := Claim7.holds Tryd.pinned (.plain (OpenSpec.upto fnCheckLessSpec)) fnCheckLessUptoCard

/-- THE SECOND FORM's CARD OF 'laws.FnCheckBlind'. -/
def fnCheckBlindUptoCard : Claim7 := { stood := { row := fnCheckBlindUptoRow, standIns := [], harness := (true, "b9bbc0f64370c54c0701793a9fa87f81b2154804a171ce07f7aa3cf8d0947123"), looks := true }, kinds := [], alts := [], laidByText := true, laidKinds := [.handle, .data], laidTests := true, laidLooks := .later }
def FnCheckBlindUptoCardSaid : Prop := Claim7.holds Tryd.pinned (.plain (OpenSpec.upto fnCheckBlindSpec)) fnCheckBlindUptoCard
end Rows
end Go.Proofs.YtjbhcbjokeaagaaDoor
