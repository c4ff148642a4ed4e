/-
  Reading a right: what spec.RightRead returns.
-/
import Derived.Test.YthbeiigiffnhjaaRigU
namespace Go.Proofs.Ythbeiigiffnhjaa
open Go.RowKit
set_option linter.unusedVariables false

/-- The text of the right to nothing. -/
abbrev dash : ByteArray := ⟨#[45]⟩
end Go.Proofs.Ythbeiigiffnhjaa
