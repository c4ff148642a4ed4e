/-
  A right of the laws as one of the program, and whether two are the same: laws.toRight, laws.eqRight.
-/
import Derived.Test.YthbeiigiffnhjaaDoorRigS
namespace Go.Proofs.YthbeiigiffnhjaaDoor
open Go.RowKit
set_option linter.unusedVariables false

set_option maxHeartbeats 1000000 in
theorem eqRight_same (t v : Int) (r wr k : Bool) (w : World) :
    Calls Tryd.prog 13 #[rgt t v r wr k, rgt t v r wr k] w fun e w' => e = .returned (.bool true) ∧ Below w.heap.size w w' := by
  cases r <;> cases wr <;> cases k
  all_goals
    go_enter Tryd.func13, Tryd.ntmps13
    go_wp2
    go_ret
    exact ⟨rfl, ((Below.refl _ _).alloc (Nat.le_refl _) _).alloc (by simp) _⟩
end Go.Proofs.YthbeiigiffnhjaaDoor
