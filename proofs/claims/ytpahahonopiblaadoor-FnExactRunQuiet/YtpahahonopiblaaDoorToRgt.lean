/-
  A right of the laws as one of the program, and whether two are the same: laws.toRight, laws.eqRight.
-/
import Derived.Test.YtpahahonopiblaaDoorRigS
namespace Go.Proofs.YtpahahonopiblaaDoor
open Go.RowKit
set_option linter.unusedVariables false

set_option maxHeartbeats 1000000 in
theorem toRight_any (t v : Int) (r wr k : Bool) (w : World) :
    Calls Tryd.prog 114 #[rgt t v r wr k] w fun e w' => e = .returned (rgt t v r wr k) ∧ Below w.heap.size w w' := by
  go_enter Tryd.func114, Tryd.ntmps114
  go_wp2
  refine bodyPost_ret (v := rgt t v r wr k) (by simp [results, Tryd.results114, go_sem]) rfl ⟨rfl, ?_⟩
  exact (((Below.refl _ _).alloc (Nat.le_refl _) _).alloc (by simp) _).alloc (by simp; omega) _
set_option maxHeartbeats 1000000 in
theorem eqRight_same (t v : Int) (r wr k : Bool) (w : World) :
    Calls Tryd.prog 116 #[rgt t v r wr k, rgt t v r wr k] w fun e w' => e = .returned (.bool true) ∧ Below w.heap.size w w' := by
  cases r <;> cases wr <;> cases k
  all_goals
    go_enter Tryd.func116, Tryd.ntmps116
    go_wp2
    go_ret
    exact ⟨rfl, ((Below.refl _ _).alloc (Nat.le_refl _) _).alloc (by simp) _⟩
end Go.Proofs.YtpahahonopiblaaDoor
