/-
  The walk of laws.FnExactLabelOk.
-/
import Derived.Test.YtiooefcdlemodabLabC
namespace Go.Proofs.Ytiooefcdlemodab
open Go.RowKit

set_option maxHeartbeats 400000 in
theorem toLabel_any (s v : Int) (w : World) :
    Calls Try.prog 7 #[lab s v] w fun e w' => e = .returned (lab s v) ∧ Below w.heap.size w w' := by
  go_enter Try.func7, Try.ntmps7
  go_wp2
  refine bodyPost_ret (v := lab s v) (by simp [results, Try.results7, go_sem]) rfl ⟨rfl, ?_⟩
  exact (((Below.refl _ _).alloc (Nat.le_refl _) _).alloc (by simp) _).alloc (by simp; omega) _
end Go.Proofs.Ytiooefcdlemodab
