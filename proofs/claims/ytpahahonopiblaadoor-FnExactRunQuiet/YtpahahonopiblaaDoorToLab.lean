/-
  A label of the laws, as one of the program.
-/
import Derived.Test.YtpahahonopiblaaDoorLabS
namespace Go.Proofs.YtpahahonopiblaaDoor
open Go.RowKit

set_option maxHeartbeats 400000 in
theorem toLabel_any (s v : Int) (w : World) :
    Calls Tryd.prog 31 #[lab s v] w fun e w' => e = .returned (lab s v) ∧ Below w.heap.size w w' := by
  go_enter Tryd.func31, Tryd.ntmps31
  go_wp2
  refine bodyPost_ret (v := lab s v) (by simp [results, Tryd.results31, go_sem]) rfl ⟨rfl, ?_⟩
  exact (((Below.refl _ _).alloc (Nat.le_refl _) _).alloc (by simp) _).alloc (by simp; omega) _
end Go.Proofs.YtpahahonopiblaaDoor
