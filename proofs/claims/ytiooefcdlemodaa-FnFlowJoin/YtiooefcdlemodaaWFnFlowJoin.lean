/-
  The walk of laws.FnFlowJoin.
-/
import Derived.Test.YtiooefcdlemodaaDrawM
import Derived.Test.YtiooefcdlemodaaCls
namespace Go.Proofs.Ytiooefcdlemodaa
open Go.RowKit
set_option linter.unusedVariables false

theorem join_flow {s v s2 v2 : Int} (h1 : okL s v = true) (h2 : okL s2 v2 = true) : flow s v s2 v2 = (or2 s s2 == s2 && and2 v v2 == v2) ∧ flow s v s2 v2 = (and2 s s2 == s && or2 v v2 == v) := by
  obtain ⟨a1, a2⟩ := okL_split h1
  obtain ⟨b1, b2⟩ := okL_split h2
  rw [flow_eq h1 h2]
  constructor <;> rw [Bool.eq_iff_iff] <;> simp [sub2, or2, and2] <;> omega

set_option maxHeartbeats 2000000 in
theorem walk_FnFlowJoin (a0 : Option Addr) (len0 cap0 : Nat) (z0 : List Int) (w : World) (w0 : IsRow .u8 w a0 len0 cap0 z0) :
    Calls Try.prog 8 #[.slice a0 len0 cap0] w fun e w' => e = .returned (.bool true) ∧ Below w.heap.size w w' := by
  by_cases g0 : (1048576 : Int) < (len0 : Int)
  · go_enter Try.func8, Try.ntmps8
    go_wp2
    go_ret
    exact ⟨rfl, Below.refl _ _⟩
  have W0 := Lib.hid w0
  clear w0
  go_enter Try.func8, Try.ntmps8
  go_wp2_with fail
  refine (drawFlow_any a0 len0 cap0 z0 _ W0.out).mono ?_
  rintro e x ⟨s, v, s2, v2, rfl, hx⟩
  clear W0
  have D0 := (ClsL.start hx).new2 s v s2 v2
  clear hx
  go_wp2_with fail
  refine (implFlow_any _ _ _ _ _).mono ?_
  rintro e y1 ⟨rfl, hb1⟩
  have D1 := D0.stay hb1
  clear hb1 D0
  have q0 := D1.c0 (b := x.heap.size) (s := s) (v := v) (by simp)
  have q1 := D1.c1 (b := x.heap.size) (s := s) (v := v) (by simp)
  have q2 := D1.c0 (b := x.heap.size + 1) (s := s2) (v := v2) (by simp)
  have q3 := D1.c1 (b := x.heap.size + 1) (s := s2) (v := v2) (by simp)
  cases hf : flow s v s2 v2
  all_goals
    have HF := Lib.hid hf
    clear hf
    go_wp2_with fail
    refine (specFlow_val HF.out _).mono ?_
    rintro e y2 ⟨rfl, hb2⟩
    have D2 := D1.stay hb2
    clear q0 q1 q2 q3
    clear hb2 D1
    have q0 := D2.c0 (b := x.heap.size) (s := s) (v := v) (by simp)
    have q1 := D2.c1 (b := x.heap.size) (s := s) (v := v) (by simp)
    have q2 := D2.c0 (b := x.heap.size + 1) (s := s2) (v := v2) (by simp)
    have q3 := D2.c1 (b := x.heap.size + 1) (s := s2) (v := v2) (by simp)
    go_wp2_with fail
    refine (specOk_any _ _ _).mono ?_
    rintro e y3 ⟨rfl, hb3⟩
    have D3 := D2.stay hb3
    clear q0 q1 q2 q3
    clear hb3 D2
    have q0 := D3.c0 (b := x.heap.size) (s := s) (v := v) (by simp)
    have q1 := D3.c1 (b := x.heap.size) (s := s) (v := v) (by simp)
    have q2 := D3.c0 (b := x.heap.size + 1) (s := s2) (v := v2) (by simp)
    have q3 := D3.c1 (b := x.heap.size + 1) (s := s2) (v := v2) (by simp)
    cases h1 : okL s v
    · go_wp2_with fail
      refine (specFlow_val HF.out _).mono ?_
      rintro e y4 ⟨rfl, hb4⟩
      have D4 := D3.stay hb4
      clear q0 q1 q2 q3
      clear hb4 D3
      go_wp2
      go_ret
      exact ⟨rfl, D4.1⟩
    have H1 := Lib.hid h1
    clear h1
    go_wp2_with fail
    refine (specOk_any _ _ _).mono ?_
    rintro e y4 ⟨rfl, hb4⟩
    have D4 := D3.stay hb4
    clear q0 q1 q2 q3
    clear hb4 D3
    have q0 := D4.c0 (b := x.heap.size) (s := s) (v := v) (by simp)
    have q1 := D4.c1 (b := x.heap.size) (s := s) (v := v) (by simp)
    have q2 := D4.c0 (b := x.heap.size + 1) (s := s2) (v := v2) (by simp)
    have q3 := D4.c1 (b := x.heap.size + 1) (s := s2) (v := v2) (by simp)
    cases h2 : okL s2 v2
    · go_wp2_with fail
      refine (specFlow_val HF.out _).mono ?_
      rintro e y5 ⟨rfl, hb5⟩
      have D5 := D4.stay hb5
      clear q0 q1 q2 q3
      clear hb5 D4
      go_wp2
      go_ret
      exact ⟨rfl, D5.1⟩
    have H2 := Lib.hid h2
    clear h2
  all_goals
    obtain ⟨j1, j2⟩ := join_flow H1.out H2.out
    rw [HF.out] at j1 j2
    have JJ := Lib.hid (join_eq H1.out H2.out)
    have MM := Lib.hid (meet_eq H1.out H2.out)
    generalize or2 s s2 = ja at *
    generalize and2 v v2 = jb at *
    generalize and2 s s2 = ma at *
    generalize or2 v v2 = mb at *
  · cases a1 : ja == s2 <;> cases a2 : jb == v2 <;> cases a3 : ma == s <;> cases a4 : mb == v
    all_goals first | (exfalso; simp [a1, a2] at j1; done) | (exfalso; simp [a3, a4] at j2; done) | skip
    all_goals
      clear j1 j2
      go_wp2_with fail
      clear q0 q1 q2 q3
      have cc0 := fun t : Wd (ClsL w [(x.heap.size, s, v), (x.heap.size + 1, s2, v2)]) => t.ok.c0 (b := x.heap.size) (s := s) (v := v) (by simp)
      have cc1 := fun t : Wd (ClsL w [(x.heap.size, s, v), (x.heap.size + 1, s2, v2)]) => t.ok.c1 (b := x.heap.size) (s := s) (v := v) (by simp)
      have cc2 := fun t : Wd (ClsL w [(x.heap.size, s, v), (x.heap.size + 1, s2, v2)]) => t.ok.c0 (b := x.heap.size + 1) (s := s2) (v := v2) (by simp)
      have cc3 := fun t : Wd (ClsL w [(x.heap.size, s, v), (x.heap.size + 1, s2, v2)]) => t.ok.c1 (b := x.heap.size + 1) (s := s2) (v := v2) (by simp)
      have ne : Nonempty (Wd (ClsL w [(x.heap.size, s, v), (x.heap.size + 1, s2, v2)])) := ⟨⟨_, D4.drew⟩⟩
      refine wp_region_quiet (C := fun y => ∃ t : Wd (ClsL w [(x.heap.size, s, v), (x.heap.size + 1, s2, v2)]), y = t.w) (by kernel_rfl) (by kernel_rfl) ⟨⟨_, D4.drew⟩, rfl⟩ ?_
      show wpQuiet _ _ _ _ [_, _, _, _, _, _, _, _, _, _, _, _, _, _, _, _, _] _
      repeat (first | go_big_quiet_step ((first | (go_at_call 18; exact inCls ClsL.stay (implJoin_val JJ.out.1 JJ.out.2 _)) | (go_at_call 21; exact inCls ClsL.stay (implMeet_val MM.out.1 MM.out.2 _)))) | quiet_step ((first | (go_at_call 18; exact inCls ClsL.stay (implJoin_val JJ.out.1 JJ.out.2 _)) | (go_at_call 21; exact inCls ClsL.stay (implMeet_val MM.out.1 MM.out.2 _)))))
      refine wpQuiet_nil ?_
      rintro _ ⟨t5, rfl⟩
      clear ne cc0 cc1 cc2 cc3
      obtain ⟨y5, D5⟩ := t5
      clear D4
      dsimp only
      go_wp2
      go_ret
      exact ⟨rfl, D5.1⟩
  · simp at j1 j2
    obtain ⟨i1, i2⟩ := j1
    obtain ⟨i3, i4⟩ := j2
    replace i1 := i1.symm
    replace i2 := i2.symm
    replace i3 := i3.symm
    replace i4 := i4.symm
    subst i1 i2 i3 i4
    go_wp2_with fail
    clear q0 q1 q2 q3
    have cc0 := fun t : Wd (ClsL w [(x.heap.size, s, v), (x.heap.size + 1, s2, v2)]) => t.ok.c0 (b := x.heap.size) (s := s) (v := v) (by simp)
    have cc1 := fun t : Wd (ClsL w [(x.heap.size, s, v), (x.heap.size + 1, s2, v2)]) => t.ok.c1 (b := x.heap.size) (s := s) (v := v) (by simp)
    have cc2 := fun t : Wd (ClsL w [(x.heap.size, s, v), (x.heap.size + 1, s2, v2)]) => t.ok.c0 (b := x.heap.size + 1) (s := s2) (v := v2) (by simp)
    have cc3 := fun t : Wd (ClsL w [(x.heap.size, s, v), (x.heap.size + 1, s2, v2)]) => t.ok.c1 (b := x.heap.size + 1) (s := s2) (v := v2) (by simp)
    have ne : Nonempty (Wd (ClsL w [(x.heap.size, s, v), (x.heap.size + 1, s2, v2)])) := ⟨⟨_, D4.drew⟩⟩
    refine wp_region_quiet (C := fun y => ∃ t : Wd (ClsL w [(x.heap.size, s, v), (x.heap.size + 1, s2, v2)]), y = t.w) (by kernel_rfl) (by kernel_rfl) ⟨⟨_, D4.drew⟩, rfl⟩ ?_
    show wpQuiet _ _ _ _ [_, _, _, _, _, _, _, _, _, _, _, _, _, _, _, _, _] _
    repeat (first | go_big_quiet_step ((first | (go_at_call 18; exact inCls ClsL.stay (implJoin_val JJ.out.1 JJ.out.2 _)) | (go_at_call 21; exact inCls ClsL.stay (implMeet_val MM.out.1 MM.out.2 _)))) | quiet_step ((first | (go_at_call 18; exact inCls ClsL.stay (implJoin_val JJ.out.1 JJ.out.2 _)) | (go_at_call 21; exact inCls ClsL.stay (implMeet_val MM.out.1 MM.out.2 _)))))
    refine wpQuiet_nil ?_
    rintro _ ⟨t5, rfl⟩
    clear ne cc0 cc1 cc2 cc3
    obtain ⟨y5, D5⟩ := t5
    clear D4
    dsimp only
    go_wp2
    go_ret
    exact ⟨rfl, D5.1⟩
end Go.Proofs.Ytiooefcdlemodaa
