/-
  The walk of laws.FnFlowLeast.
-/
import Derived.Test.YtiooefcdlemodaaDrawM
import Derived.Test.YtiooefcdlemodaaCls
namespace Go.Proofs.Ytiooefcdlemodaa
open Go.RowKit
set_option linter.unusedVariables false

set_option maxHeartbeats 2000000 in
theorem walk_FnFlowLeast (a0 : Option Addr) (len0 cap0 : Nat) (z0 : List Int) (w : World) (w0 : IsRow .u8 w a0 len0 cap0 z0) :
    Calls Try.prog 4 #[.slice a0 len0 cap0] w fun e w' => e = .returned (.bool true) ∧ Below w.heap.size w w' := by
  by_cases g0 : (1048576 : Int) < (len0 : Int)
  · go_enter Try.func4, Try.ntmps4
    go_wp2
    go_ret
    exact ⟨rfl, Below.refl _ _⟩
  have W0 := Lib.hid w0
  clear w0
  go_enter Try.func4, Try.ntmps4
  go_wp2_with fail
  refine (drawFlow_any a0 len0 cap0 z0 _ W0.out).mono ?_
  rintro e x ⟨s, v, s2, v2, rfl, hx⟩
  clear W0
  have D0 := (ClsL.start hx).new2 s v s2 v2
  clear hx
  go_wp2_with fail
  refine (implFlow_any _ _ _ _ _).mono ?_
  rintro e y1 ⟨rfl, hb1⟩
  have D1 := D0.stay hb1
  clear hb1 D0
  have q0 := D1.c0 (b := x.heap.size) (s := s) (v := v) (by simp)
  have q1 := D1.c1 (b := x.heap.size) (s := s) (v := v) (by simp)
  have q2 := D1.c0 (b := x.heap.size + 1) (s := s2) (v := v2) (by simp)
  have q3 := D1.c1 (b := x.heap.size + 1) (s := s2) (v := v2) (by simp)
  cases hf : flow s v s2 v2
  all_goals
    have HF := Lib.hid hf
    clear hf
    go_wp2_with fail
    refine (specFlow_val HF.out _).mono ?_
    rintro e y2 ⟨rfl, hb2⟩
    have D2 := D1.stay hb2
    clear q0 q1 q2 q3
    clear hb2 D1
    have q0 := D2.c0 (b := x.heap.size) (s := s) (v := v) (by simp)
    have q1 := D2.c1 (b := x.heap.size) (s := s) (v := v) (by simp)
    have q2 := D2.c0 (b := x.heap.size + 1) (s := s2) (v := v2) (by simp)
    have q3 := D2.c1 (b := x.heap.size + 1) (s := s2) (v := v2) (by simp)
    go_wp2_with fail
    refine (specOk_any _ _ _).mono ?_
    rintro e y3 ⟨rfl, hb3⟩
    have D3 := D2.stay hb3
    clear q0 q1 q2 q3
    clear hb3 D2
    have q0 := D3.c0 (b := x.heap.size) (s := s) (v := v) (by simp)
    have q1 := D3.c1 (b := x.heap.size) (s := s) (v := v) (by simp)
    have q2 := D3.c0 (b := x.heap.size + 1) (s := s2) (v := v2) (by simp)
    have q3 := D3.c1 (b := x.heap.size + 1) (s := s2) (v := v2) (by simp)
    cases h1 : okL s v
    · go_wp2_with fail
      refine (specFlow_val HF.out _).mono ?_
      rintro e y4 ⟨rfl, hb4⟩
      have D4 := D3.stay hb4
      clear q0 q1 q2 q3
      clear hb4 D3
      go_wp2
      go_ret
      exact ⟨rfl, D4.1⟩
    have H1 := Lib.hid h1
    clear h1
    go_wp2_with fail
    refine (specOk_any _ _ _).mono ?_
    rintro e y4 ⟨rfl, hb4⟩
    have D4 := D3.stay hb4
    clear q0 q1 q2 q3
    clear hb4 D3
    have q0 := D4.c0 (b := x.heap.size) (s := s) (v := v) (by simp)
    have q1 := D4.c1 (b := x.heap.size) (s := s) (v := v) (by simp)
    have q2 := D4.c0 (b := x.heap.size + 1) (s := s2) (v := v2) (by simp)
    have q3 := D4.c1 (b := x.heap.size + 1) (s := s2) (v := v2) (by simp)
    cases h2 : okL s2 v2
    · go_wp2_with fail
      refine (specFlow_val HF.out _).mono ?_
      rintro e y5 ⟨rfl, hb5⟩
      have D5 := D4.stay hb5
      clear q0 q1 q2 q3
      clear hb5 D4
      go_wp2
      go_ret
      exact ⟨rfl, D5.1⟩
    have H2 := Lib.hid h2
    clear h2
  all_goals
    have D5 := D4.new2 0 3 3 0
    clear D4
    have q0 := D5.c0 (b := y4.heap.size) (s := 0) (v := 3) (by simp)
    have q1 := D5.c1 (b := y4.heap.size) (s := 0) (v := 3) (by simp)
    have q2 := D5.c0 (b := y4.heap.size + 1) (s := 3) (v := 0) (by simp)
    have q3 := D5.c1 (b := y4.heap.size + 1) (s := 3) (v := 0) (by simp)
    have q4 := D5.c0 (b := x.heap.size) (s := s) (v := v) (by simp)
    have q5 := D5.c1 (b := x.heap.size) (s := s) (v := v) (by simp)
    have q6 := D5.c0 (b := x.heap.size + 1) (s := s2) (v := v2) (by simp)
    have q7 := D5.c1 (b := x.heap.size + 1) (s := s2) (v := v2) (by simp)
    go_wp2_with fail
    refine (implFlow_val (flow_low H1.out) _).mono ?_
    rintro e y6 ⟨rfl, hb6⟩
    have D6 := D5.stay hb6
    clear q0 q1 q2 q3 q4 q5 q6 q7
    clear hb6 D5
    have q0 := D6.c0 (b := y4.heap.size) (s := 0) (v := 3) (by simp)
    have q1 := D6.c1 (b := y4.heap.size) (s := 0) (v := 3) (by simp)
    have q2 := D6.c0 (b := y4.heap.size + 1) (s := 3) (v := 0) (by simp)
    have q3 := D6.c1 (b := y4.heap.size + 1) (s := 3) (v := 0) (by simp)
    have q4 := D6.c0 (b := x.heap.size) (s := s) (v := v) (by simp)
    have q5 := D6.c1 (b := x.heap.size) (s := s) (v := v) (by simp)
    have q6 := D6.c0 (b := x.heap.size + 1) (s := s2) (v := v2) (by simp)
    have q7 := D6.c1 (b := x.heap.size + 1) (s := s2) (v := v2) (by simp)
    go_wp2_with fail
    refine (implFlow_val (flow_high H1.out) _).mono ?_
    rintro e y7 ⟨rfl, hb7⟩
    have D7 := D6.stay hb7
    clear q0 q1 q2 q3 q4 q5 q6 q7
    clear hb7 D6
    have q0 := D7.c0 (b := y4.heap.size) (s := 0) (v := 3) (by simp)
    have q1 := D7.c1 (b := y4.heap.size) (s := 0) (v := 3) (by simp)
    have q2 := D7.c0 (b := y4.heap.size + 1) (s := 3) (v := 0) (by simp)
    have q3 := D7.c1 (b := y4.heap.size + 1) (s := 3) (v := 0) (by simp)
    have q4 := D7.c0 (b := x.heap.size) (s := s) (v := v) (by simp)
    have q5 := D7.c1 (b := x.heap.size) (s := s) (v := v) (by simp)
    have q6 := D7.c0 (b := x.heap.size + 1) (s := s2) (v := v2) (by simp)
    have q7 := D7.c1 (b := x.heap.size + 1) (s := s2) (v := v2) (by simp)
    go_wp2_with fail
    refine (implFlow_val (flow_low H2.out) _).mono ?_
    rintro e y8 ⟨rfl, hb8⟩
    have D8 := D7.stay hb8
    clear q0 q1 q2 q3 q4 q5 q6 q7
    clear hb8 D7
    have q0 := D8.c0 (b := y4.heap.size) (s := 0) (v := 3) (by simp)
    have q1 := D8.c1 (b := y4.heap.size) (s := 0) (v := 3) (by simp)
    have q2 := D8.c0 (b := y4.heap.size + 1) (s := 3) (v := 0) (by simp)
    have q3 := D8.c1 (b := y4.heap.size + 1) (s := 3) (v := 0) (by simp)
    have q4 := D8.c0 (b := x.heap.size) (s := s) (v := v) (by simp)
    have q5 := D8.c1 (b := x.heap.size) (s := s) (v := v) (by simp)
    have q6 := D8.c0 (b := x.heap.size + 1) (s := s2) (v := v2) (by simp)
    have q7 := D8.c1 (b := x.heap.size + 1) (s := s2) (v := v2) (by simp)
    go_wp2_with fail
    refine (implFlow_val (flow_high H2.out) _).mono ?_
    rintro e y9 ⟨rfl, hb9⟩
    have D9 := D8.stay hb9
    clear q0 q1 q2 q3 q4 q5 q6 q7
    clear hb9 D8
    have q0 := D9.c0 (b := y4.heap.size) (s := 0) (v := 3) (by simp)
    have q1 := D9.c1 (b := y4.heap.size) (s := 0) (v := 3) (by simp)
    have q2 := D9.c0 (b := y4.heap.size + 1) (s := 3) (v := 0) (by simp)
    have q3 := D9.c1 (b := y4.heap.size + 1) (s := 3) (v := 0) (by simp)
    have q4 := D9.c0 (b := x.heap.size) (s := s) (v := v) (by simp)
    have q5 := D9.c1 (b := x.heap.size) (s := s) (v := v) (by simp)
    have q6 := D9.c0 (b := x.heap.size + 1) (s := s2) (v := v2) (by simp)
    have q7 := D9.c1 (b := x.heap.size + 1) (s := s2) (v := v2) (by simp)
    go_wp2_with fail
    refine (implFlow_any _ _ _ _ _).mono ?_
    rintro e y10 ⟨rfl, hb10⟩
    have D10 := D9.stay hb10
    clear q0 q1 q2 q3 q4 q5 q6 q7
    clear hb10 D9
    have q0 := D10.c0 (b := y4.heap.size) (s := 0) (v := 3) (by simp)
    have q1 := D10.c1 (b := y4.heap.size) (s := 0) (v := 3) (by simp)
    have q2 := D10.c0 (b := y4.heap.size + 1) (s := 3) (v := 0) (by simp)
    have q3 := D10.c1 (b := y4.heap.size + 1) (s := 3) (v := 0) (by simp)
    have q4 := D10.c0 (b := x.heap.size) (s := s) (v := v) (by simp)
    have q5 := D10.c1 (b := x.heap.size) (s := s) (v := v) (by simp)
    have q6 := D10.c0 (b := x.heap.size + 1) (s := s2) (v := v2) (by simp)
    have q7 := D10.c1 (b := x.heap.size + 1) (s := s2) (v := v2) (by simp)
    cases hl : flow s v 0 3
    · go_wp2
      go_ret
      exact ⟨rfl, D10.1⟩
    · obtain ⟨e1, e2⟩ : s = 0 ∧ v = 3 := by
        have h := flow_anti H1.out (show okL 0 3 = true from rfl)
        rw [hl, flow_low H1.out] at h
        simpa using h.symm
      subst e1 e2
      clear hl
      go_wp2
      go_ret
      exact ⟨rfl, D10.1⟩
end Go.Proofs.Ytiooefcdlemodaa
