/-
  The walk of laws.FnExactCallOk.
-/
import Derived.Test.YtohfincnjhemfaaCalA
namespace Go.Proofs.Ytohfincnjhemfaa
open Go.RowKit
set_option linter.unusedVariables false

set_option maxHeartbeats 1000000 in
theorem walk_FnExactCallOk (c : C5) (w : World) :
    Calls Try.prog 4 #[.agg #[.int .i64 c.k, .int .i64 c.r, .int .i64 c.a, .int .i64 c.b, .int .i64 c.n]] w fun e w' => e = .returned (.bool true) ∧ Below w.heap.size w w' := by
  obtain ⟨b, hb⟩ : ∃ b, c.ok = b := ⟨_, rfl⟩
  have HB := Lib.hid hb
  clear hb
  go_enter Try.func4, Try.ntmps4
  go_wp2_with fail
  refine (toCall_any c _).mono ?_
  rintro e x1 ⟨rfl, hb1⟩
  have K1 := ((Kn.refl (w := w)).new 28 c.cs).stay hb1
  clear hb1
  go_wp2_with fail
  refine (specCallOk_val HB.out _).mono ?_
  rintro e x2 ⟨rfl, hb2⟩
  have K2 := K1.stay hb2
  have q0 := K2.c (b := w.heap.size) (T := 28) (vs := c.cs) (by simp) 0 _ rfl
  have q1 := K2.c (b := w.heap.size) (T := 28) (vs := c.cs) (by simp) 1 _ rfl
  have q2 := K2.c (b := w.heap.size) (T := 28) (vs := c.cs) (by simp) 2 _ rfl
  have q3 := K2.c (b := w.heap.size) (T := 28) (vs := c.cs) (by simp) 3 _ rfl
  have q4 := K2.c (b := w.heap.size) (T := 28) (vs := c.cs) (by simp) 4 _ rfl
  clear hb2 K1
  go_wp2_with fail
  refine (toCall_any c _).mono ?_
  rintro e x3 ⟨rfl, hb3⟩
  have K3 := K2.stay hb3
  clear hb3 K2 q0 q1 q2 q3 q4
  go_wp2_with fail
  refine (implCallOk_val HB.out _).mono ?_
  rintro e x4 ⟨rfl, hb4⟩
  have K4 := K3.stay hb4
  clear hb4 K3 HB
  cases b
  all_goals
    go_wp2
    go_ret
    exact ⟨rfl, K4.1⟩
end Go.Proofs.Ytohfincnjhemfaa
