/-
  The walk of laws.FnExactThingNew, over the program.
-/
import Derived.Test.YtnfalnmidddkjaaDoorThgN
import Derived.Test.YtnfalnmidddkjaaDoorWExTNew
namespace Go.Proofs.YtnfalnmidddkjaaDoor
open Go.RowKit
theorem walk_FnExactThingNew (kind sec vou tt : Int) (w : World) (hKF : KF w) :
    Calls Tryd.prog 11 #[.int .i64 kind, lab sec vou, .int .i64 tt] w fun e w' => e = .returned (.bool true) ∧ Below w.heap.size w w' :=
  exTNew_any kind sec vou tt w hKF (implTNew_any kind sec vou tt)
end Go.Proofs.YtnfalnmidddkjaaDoor
