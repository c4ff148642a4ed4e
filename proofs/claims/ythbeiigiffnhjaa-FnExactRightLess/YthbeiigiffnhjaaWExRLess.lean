/-
  The walk of laws.FnExactRightLess.
-/
import Derived.Test.YthbeiigiffnhjaaToRgt
import Derived.Test.YthbeiigiffnhjaaRigI
import Derived.Test.YthbeiigiffnhjaaRigT
namespace Go.Proofs.Ythbeiigiffnhjaa
open Go.RowKit
set_option linter.unusedVariables false

theorem specLess_val {t v : Int} {r wr k read write strong : Bool} {a1 a2 : Int} {b1 b2 b3 : Bool} (h : lessV t v r wr k read write strong = rgt a1 a2 b1 b2 b3) (w : World) :
    Calls Try.prog 22 #[rgt t v r wr k, .bool read, .bool write, .bool strong] w fun e w' => e = .returned (rgt a1 a2 b1 b2 b3) ∧ Below w.heap.size w w' := by
  rw [← h]; exact specLess_any t v r wr k read write strong w
theorem implLess_val {t v : Int} {r wr k read write strong : Bool} {a1 a2 : Int} {b1 b2 b3 : Bool} (h : lessV t v r wr k read write strong = rgt a1 a2 b1 b2 b3) (w : World) :
    Calls Try.prog 20 #[rgt t v r wr k, .bool read, .bool write, .bool strong] w fun e w' => e = .returned (rgt a1 a2 b1 b2 b3) ∧ Below w.heap.size w w' := by
  rw [← h]; exact implLess_any t v r wr k read write strong w

set_option maxHeartbeats 1000000 in
theorem walk_FnExactRightLess (t v : Int) (r wr k read write strong : Bool) (w : World) :
    Calls Try.prog 12 #[rgt t v r wr k, .bool read, .bool write, .bool strong] w fun e w' => e = .returned (.bool true) ∧ Below w.heap.size w w' := by
  obtain ⟨a1, a2, b1, b2, b3, hl⟩ : ∃ a1 a2 b1 b2 b3, lessV t v r wr k read write strong = rgt a1 a2 b1 b2 b3 := ⟨_, _, _, _, _, rfl⟩
  have HL := Lib.hid hl
  clear hl
  go_enter Try.func12, Try.ntmps12
  go_wp2_with fail
  refine (toRight_any _ _ _ _ _ _).mono ?_
  rintro e x1 ⟨rfl, hb1⟩
  have K1 := ((Kn.refl (w := w)).new 36 (rgtC t v r wr k)).stay hb1
  clear hb1
  go_wp2_with fail
  refine (specLess_val HL.out _).mono ?_
  rintro e x2 ⟨rfl, hb2⟩
  have K2 := (K1.stay hb2).new 24 (rgtC a1 a2 b1 b2 b3)
  have q0 := K2.c (b := w.heap.size) (T := 36) (vs := rgtC t v r wr k) (by simp) 0 _ rfl
  have q1 := K2.c (b := w.heap.size) (T := 36) (vs := rgtC t v r wr k) (by simp) 1 _ rfl
  have q2 := K2.c (b := w.heap.size) (T := 36) (vs := rgtC t v r wr k) (by simp) 2 _ rfl
  have q3 := K2.c (b := w.heap.size) (T := 36) (vs := rgtC t v r wr k) (by simp) 3 _ rfl
  have q4 := K2.c (b := w.heap.size) (T := 36) (vs := rgtC t v r wr k) (by simp) 4 _ rfl
  clear hb2 K1
  go_wp2_with fail
  refine (toRight_any _ _ _ _ _ _).mono ?_
  rintro e x3 ⟨rfl, hb3⟩
  have K3 := K2.stay hb3
  clear hb3 K2 q0 q1 q2 q3 q4
  go_wp2_with fail
  refine (implLess_val HL.out _).mono ?_
  rintro e x4 ⟨rfl, hb4⟩
  have K4 := (K3.stay hb4).new 24 (rgtC a1 a2 b1 b2 b3)
  have q0 := K4.c (b := x2.heap.size) (T := 24) (vs := rgtC a1 a2 b1 b2 b3) (by simp) 0 _ rfl
  have q1 := K4.c (b := x2.heap.size) (T := 24) (vs := rgtC a1 a2 b1 b2 b3) (by simp) 1 _ rfl
  have q2 := K4.c (b := x2.heap.size) (T := 24) (vs := rgtC a1 a2 b1 b2 b3) (by simp) 2 _ rfl
  have q3 := K4.c (b := x2.heap.size) (T := 24) (vs := rgtC a1 a2 b1 b2 b3) (by simp) 3 _ rfl
  have q4 := K4.c (b := x2.heap.size) (T := 24) (vs := rgtC a1 a2 b1 b2 b3) (by simp) 4 _ rfl
  have d0 := K4.c (b := x4.heap.size) (T := 24) (vs := rgtC a1 a2 b1 b2 b3) (by simp) 0 _ rfl
  have d1 := K4.c (b := x4.heap.size) (T := 24) (vs := rgtC a1 a2 b1 b2 b3) (by simp) 1 _ rfl
  have d2 := K4.c (b := x4.heap.size) (T := 24) (vs := rgtC a1 a2 b1 b2 b3) (by simp) 2 _ rfl
  have d3 := K4.c (b := x4.heap.size) (T := 24) (vs := rgtC a1 a2 b1 b2 b3) (by simp) 3 _ rfl
  have d4 := K4.c (b := x4.heap.size) (T := 24) (vs := rgtC a1 a2 b1 b2 b3) (by simp) 4 _ rfl
  clear hb4 K3
  go_wp2_with fail
  refine (eqRight_same _ _ _ _ _ _).mono ?_
  rintro e x5 ⟨rfl, hb5⟩
  have K5 := K4.stay hb5
  clear hb5 K4 q0 q1 q2 q3 q4 d0 d1 d2 d3 d4
  go_wp2
  go_ret
  exact ⟨rfl, K5.1⟩
end Go.Proofs.Ythbeiigiffnhjaa
