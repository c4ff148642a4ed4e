/-
  The text of a small number: strconv.Itoa and the model's own, at the numbers that a label holds.
-/
import Derived.Test.YtiooefcdlemodaaDoorLabA
namespace Go.Proofs.YtiooefcdlemodaaDoor
open Go.RowKit

/-- The text of a digit. -/
abbrev dig (n : Int) : ByteArray := ⟨#[(48 + n.toNat).toUInt8]⟩

set_option maxHeartbeats 1000000 in
theorem itoa_any (n : Int) (w : World) (h : okN n = true) :
    Calls Tryd.prog 17 #[.int .i64 n] w fun e w' => e = .returned (.string (dig n)) ∧ w = w' := by
  rcases four n h with rfl | rfl | rfl | rfl
  all_goals
    clear h
    go_enter Tryd.func17, Tryd.ntmps17
    go_wp2
    go_ret
    exact ⟨rfl, rfl⟩
end Go.Proofs.YtiooefcdlemodaaDoor
