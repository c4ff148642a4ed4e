/-
  Reading a right: what spec.RightRead returns.
-/
import Derived.Test.YtpahahonopiblaaDoorRigU
namespace Go.Proofs.YtpahahonopiblaaDoor
open Go.RowKit
set_option linter.unusedVariables false

/-- The text of the right to nothing. -/
abbrev dash : ByteArray := ⟨#[45]⟩
end Go.Proofs.YtpahahonopiblaaDoor
