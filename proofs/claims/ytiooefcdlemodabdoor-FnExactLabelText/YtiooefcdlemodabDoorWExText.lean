/-
  The walk of laws.FnExactLabelText.
-/
import Derived.Test.YtiooefcdlemodabDoorToLab
import Derived.Test.YtiooefcdlemodabDoorLabT
namespace Go.Proofs.YtiooefcdlemodabDoor
open Go.RowKit

set_option maxHeartbeats 400000 in
theorem walk_FnExactLabelText (s v : Int) (w : World) :
    Calls Tryd.prog 3 #[lab s v] w fun e w' => e = .returned (.bool true) ∧ Below w.heap.size w w' := by
  go_enter Tryd.func3, Tryd.ntmps3
  go_wp2_with fail
  refine (toLabel_any _ _ _).mono ?_
  rintro e x1 ⟨rfl, hb1⟩
  have K1 := ((Kn.refl (w := w)).new 23 #[.int .i64 s, .int .i64 v]).stay hb1
  clear hb1
  go_wp2_with fail
  refine (specText_any _ _ _).mono ?_
  rintro e x2 ⟨rfl, hb2⟩
  have K2 := K1.stay hb2
  have q0 := K2.c (b := w.heap.size) (T := 23) (vs := #[.int .i64 s, .int .i64 v]) (by simp) 0 _ rfl
  have q1 := K2.c (b := w.heap.size) (T := 23) (vs := #[.int .i64 s, .int .i64 v]) (by simp) 1 _ rfl
  clear hb2 K1
  go_wp2_with fail
  refine (toLabel_any _ _ _).mono ?_
  rintro e x3 ⟨rfl, hb3⟩
  have K3 := K2.stay hb3
  clear hb3 K2 q0 q1
  go_wp2_with fail
  refine (implText_any _ _ _).mono ?_
  rintro e x4 ⟨rfl, hb4⟩
  have K4 := K3.stay hb4
  clear hb4 K3
  generalize txt s v = t
  go_wp2
  go_ret
  exact ⟨rfl, K4.1⟩
end Go.Proofs.YtiooefcdlemodabDoor
