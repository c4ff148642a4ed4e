/-
  A label of the laws, as one of the program.
-/
import Derived.Test.YtohfincnjhemfaaDoorLabS
namespace Go.Proofs.YtohfincnjhemfaaDoor
open Go.RowKit

set_option maxHeartbeats 400000 in
theorem toLabel_any (s v : Int) (w : World) :
    Calls Tryd.prog 99 #[lab s v] w fun e w' => e = .returned (lab s v) ∧ Below w.heap.size w w' := by
  go_enter Tryd.func99, Tryd.ntmps99
  go_wp2
  refine bodyPost_ret (v := lab s v) (by simp [results, Tryd.results99, go_sem]) rfl ⟨rfl, ?_⟩
  exact (((Below.refl _ _).alloc (Nat.le_refl _) _).alloc (by simp) _).alloc (by simp; omega) _
end Go.Proofs.YtohfincnjhemfaaDoor
