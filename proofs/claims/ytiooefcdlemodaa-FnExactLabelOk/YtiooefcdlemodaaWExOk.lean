/-
  The walk of laws.FnExactLabelOk.
-/
import Derived.Test.YtiooefcdlemodaaLabC
namespace Go.Proofs.Ytiooefcdlemodaa
open Go.RowKit

set_option maxHeartbeats 400000 in
theorem toLabel_any (s v : Int) (w : World) :
    Calls Try.prog 23 #[lab s v] w fun e w' => e = .returned (lab s v) ∧ Below w.heap.size w w' := by
  go_enter Try.func23, Try.ntmps23
  go_wp2
  refine bodyPost_ret (v := lab s v) (by simp [results, Try.results23, go_sem]) rfl ⟨rfl, ?_⟩
  exact (((Below.refl _ _).alloc (Nat.le_refl _) _).alloc (by simp) _).alloc (by simp; omega) _

set_option maxHeartbeats 400000 in
theorem walk_FnExactLabelOk (s v : Int) (w : World) :
    Calls Try.prog 11 #[lab s v] w fun e w' => e = .returned (.bool true) ∧ Below w.heap.size w w' := by
  go_enter Try.func11, Try.ntmps11
  go_wp2_with fail
  refine (toLabel_any _ _ _).mono ?_
  rintro e x1 ⟨rfl, hb1⟩
  have k1 := (Box.fresh w 34 #[.int .i64 s, .int .i64 v]).stay hb1
  have B1 := onB ((Below.refl w.heap.size w).alloc (Nat.le_refl _) _) (Nat.le_refl _) hb1
  clear hb1
  go_wp2_with fail
  refine (specOk_any _ _ _).mono ?_
  rintro e x2 ⟨rfl, hb2⟩
  have k2 := k1.stay hb2
  have B2 := onB B1 (Nat.le_refl _) hb2
  have q0 := k2.cell 0 _ rfl
  have q1 := k2.cell 1 _ rfl
  clear hb2 k1 B1
  go_wp2_with fail
  refine (toLabel_any _ _ _).mono ?_
  rintro e x3 ⟨rfl, hb3⟩
  have B3 := onB B2 (Nat.le_refl _) hb3
  clear hb3 k2 B2 q0 q1
  go_wp2_with fail
  refine (implOk_any _ _ _).mono ?_
  rintro e x4 ⟨rfl, hb4⟩
  have B4 := onB B3 (Nat.le_refl _) hb4
  clear hb4 B3
  generalize okL s v = b
  cases b
  all_goals
    go_wp2
    go_ret
    exact ⟨rfl, B4⟩
end Go.Proofs.Ytiooefcdlemodaa
