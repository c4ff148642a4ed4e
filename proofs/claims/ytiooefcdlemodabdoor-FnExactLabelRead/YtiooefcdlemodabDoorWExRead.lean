/-
  The walk of laws.FnExactLabelRead.
-/
import Derived.Test.YtiooefcdlemodabDoorToLab
import Derived.Test.YtiooefcdlemodabDoorLabU
namespace Go.Proofs.YtiooefcdlemodabDoor
open Go.RowKit

set_option maxHeartbeats 400000 in
theorem eqLabel_same (s v : Int) (w : World) :
    Calls Tryd.prog 10 #[lab s v, lab s v] w fun e w' => e = .returned (.bool true) ∧ Below w.heap.size w w' := by
  go_enter Tryd.func10, Tryd.ntmps10
  go_wp2
  go_ret
  exact ⟨rfl, ((Below.refl _ _).alloc (Nat.le_refl _) _).alloc (by simp) _⟩

set_option maxHeartbeats 400000 in
theorem walk_FnExactLabelRead (t : ByteArray) (w : World) (_hs : t.size ≤ maxLen) :
    Calls Tryd.prog 4 #[.string t] w fun e w' => e = .returned (.bool true) ∧ Below w.heap.size w w' := by
  by_cases g0 : (1048576 : Int) < (t.size : Int)
  · go_enter Tryd.func4, Tryd.ntmps4
    go_wp2
    go_ret
    exact ⟨rfl, Below.refl _ _⟩
  obtain ⟨s, v, b, hR, -⟩ := read_any t
  have HR := Lib.hid hR
  clear hR _hs
  go_enter Tryd.func4, Tryd.ntmps4
  go_wp2_with fail
  refine (HR.out.2 _).mono ?_
  rintro e x1 ⟨rfl, hb1⟩
  have K1 := ((Kn.refl (w := w)).stay hb1).new 25 #[.int .i64 s, .int .i64 v]
  clear hb1
  go_wp2_with fail
  refine (HR.out.1 _).mono ?_
  rintro e x2 ⟨rfl, hb2⟩
  have K2 := (K1.stay hb2).new 25 #[.int .i64 s, .int .i64 v]
  have q0 := K2.c (b := x1.heap.size) (T := 25) (vs := #[.int .i64 s, .int .i64 v]) (by simp) 0 _ rfl
  have q1 := K2.c (b := x1.heap.size) (T := 25) (vs := #[.int .i64 s, .int .i64 v]) (by simp) 1 _ rfl
  clear hb2 K1
  go_wp2_with fail
  refine (eqLabel_same _ _ _).mono ?_
  rintro e x3 ⟨rfl, hb3⟩
  have K3 := K2.stay hb3
  clear hb3 K2 q0 q1
  cases b
  all_goals
    go_wp2
    go_ret
    exact ⟨rfl, K3.1⟩
end Go.Proofs.YtiooefcdlemodabDoor
