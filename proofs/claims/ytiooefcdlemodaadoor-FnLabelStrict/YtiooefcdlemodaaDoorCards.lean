/-
  DERIVED. GIVEN WITH THE SEED: THE CARDS: each row of YtiooefcdlemodaaDoorRows.lean that lists a variable, with what it lists TIED to the program's text (the seventh form; the later family's looks); each row that meets fmt, with fmt's text TOLD by the authors' own Lean function (tested against real Go, not proved from fmt's source: count such statements apart). THE CARD IS WHAT COUNTS. Prove the row's statement (the work); the ties are given (YtiooefcdlemodaaDoorTie.lean); close each card by the builder's one call (the guide's Derived/Test/ToyasCard.lean, 'card_holds'). Laid BY PROGRAM, IN A SANDBOX (cutbox-door.mjs). By AI agents, Wed Nov 11 2026. No macro, syntax, notation, axiom, sorry.
-/
import Derived.Test.YtiooefcdlemodaaDoorRows
import GoSem.ClaimSeven
namespace Go.Proofs.YtiooefcdlemodaaDoor
namespace Rows

/-- THE TIED CARD OF 'laws.FnLabelBack'. -/
def fnLabelBackCard : Claim7 := { stood := { row := fnLabelBackRow, standIns := [], harness := (true, "1366087e4a7935ed5e3b6deb85728fa2aa7bc787d3a16ac2aabb47b3927c0199"), looks := false }, kinds := [], alts := [], laidByText := true, laidKinds := [.data, .data, .data], laidTests := true, laidLooks := .later }
def FnLabelBackCardSaid : Prop := Claim7.holds Tryd.pinned (.plain (OpenSpec.ofChange fnLabelBackSpec)) fnLabelBackCard

/-- THE TIED CARD OF 'laws.FnLabelStrict'. -/
def fnLabelStrictCard : Claim7 := { stood := { row := fnLabelStrictRow, standIns := [], harness := (true, "1366087e4a7935ed5e3b6deb85728fa2aa7bc787d3a16ac2aabb47b3927c0199"), looks := false }, kinds := [], alts := [], laidByText := true, laidKinds := [.data, .data, .data], laidTests := true, laidLooks := .later }
def FnLabelStrictCardSaid : Prop := Claim7.holds Tryd.pinned (.plain (OpenSpec.ofChange fnLabelStrictSpec)) fnLabelStrictCard

/-- THE TIED CARD OF 'laws.FnLabelForm'. -/
def fnLabelFormCard : Claim7 := { stood := { row := fnLabelFormRow, standIns := [], harness := (true, "1366087e4a7935ed5e3b6deb85728fa2aa7bc787d3a16ac2aabb47b3927c0199"), looks := false }, kinds := [], alts := [], laidByText := true, laidKinds := [.data, .data, .data], laidTests := true, laidLooks := .later }
def FnLabelFormCardSaid : Prop := Claim7.holds Tryd.pinned (.plain (OpenSpec.ofChange fnLabelFormSpec)) fnLabelFormCard

/-- THE SECOND FORM's CARD OF 'laws.FnLabelBack'. -/
def fnLabelBackUptoCard : Claim7 := { stood := { row := fnLabelBackUptoRow, standIns := [], harness := (true, "1366087e4a7935ed5e3b6deb85728fa2aa7bc787d3a16ac2aabb47b3927c0199"), looks := false }, kinds := [], alts := [], laidByText := true, laidKinds := [.data, .data, .data], laidTests := true, laidLooks := .later }
def FnLabelBackUptoCardSaid : Prop := Claim7.holds Tryd.pinned (.plain (OpenSpec.upto fnLabelBackSpec)) fnLabelBackUptoCard

/-- THE SECOND FORM's CARD OF 'laws.FnLabelStrict'. -/
def fnLabelStrictUptoCard : Claim7 := { stood := { row := fnLabelStrictUptoRow, standIns := [], harness := (true, "1366087e4a7935ed5e3b6deb85728fa2aa7bc787d3a16ac2aabb47b3927c0199"), looks := false }, kinds := [], alts := [], laidByText := true, laidKinds := [.data, .data, .data], laidTests := true, laidLooks := .later }
def FnLabelStrictUptoCardSaid : Prop := Claim7.holds Tryd.pinned (.plain (OpenSpec.upto fnLabelStrictSpec)) fnLabelStrictUptoCard

/-- THE SECOND FORM's CARD OF 'laws.FnLabelForm'. -/
def fnLabelFormUptoCard : Claim7 := { stood := { row := fnLabelFormUptoRow, standIns := [], harness := (true, "1366087e4a7935ed5e3b6deb85728fa2aa7bc787d3a16ac2aabb47b3927c0199"), looks := false }, kinds := [], alts := [], laidByText := true, laidKinds := [.data, .data, .data], laidTests := true, laidLooks := .later }
def FnLabelFormUptoCardSaid : Prop := Claim7.holds Tryd.pinned (.plain (OpenSpec.upto fnLabelFormSpec)) fnLabelFormUptoCard
end Rows
end Go.Proofs.YtiooefcdlemodaaDoor
